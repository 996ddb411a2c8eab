import PyProof.Rows.All
import Wide.All
import OpenK.AllK
import Wide.FinOn
import Lean
import PyProof.EqAt
import PyProof.EqKinds
import PyProof.TupleCall
import PyProof.P3Statements
import KE.KIntText
import KE.KRevIter
import KE.KRevSl
import KE.KSortTup
import KE.KDictSum
import KE.KIsAll
import PyProof.ExcAttrAll.ValueError
import PySem.Challenge.RW_penwright_k88_lines_of_a_desk_refused
open List(length_cons map_cons map_nil length_nil length_map cons_append mem_cons_of_mem size_toArray nil_append length_append mem_cons_self getElem?_eq_getElem getD_eq_getElem?_getD getElem?_map map_map append_nil length_take mem_append_right replicate_succ flatten_cons mem_cons find?_cons mem_singleton set_cons_succ sum_cons length_drop any_cons not_mem_nil set_cons_zero all_eq_true map_congr_left lookup_cons length_range filterMap_cons append_assoc getElem_mem all_map take_of_length_le mem_append reverse_cons suffix_cons drop_zero map_append getElem?_drop sum_nil all_cons)
open Array(length_toList getElem?_toList getElem?_eq_none size_map)
set_option Elab.async false
set_option linter.all false
set_option maxRecDepth 100000
set_option maxHeartbeats 4000000
open PySem.W (fnOf fencedOpening topFrom LeftO xlAt recOk kHook openEnds instObj methodObj hideAll hideAll_get of_hideAll lookIn plainGet hasDictIn findIn handedIn plainGet_of isFn plainOver takerIn makesIn typeIn emptyDict keepIn callWith_K methodCall_KW callWith_K0 cellsFrom_some codeIn nsIn kitOne kia_one mg_of kitCls kit_cls excIn clsIn subIn KeysLit mapOf_K find_K mg_none_of)
open PySem.F (slot_tuple_add entry_tuple_add args_tuple_add_2 excBase_ValueError)
noncomputable section
set_option compiler.extract_closed false
set_option hygiene false
local macro_rules|`([3])=>`(⟨rfl,rfl,rfl,by decide +kernel,rfl,by decide +kernel,by decide +kernel⟩)|`([4])=>`(envOfC qual scope s0.heap.objs.size f cd)|`([5])=>`(by intro XE ds μ Q h; first | exact h.elim | exact h.1 | (obtain ⟨rfl,_⟩:=h; rfl) | (obtain ⟨_,rfl,_⟩:=h; rfl) | (obtain ⟨_,_,rfl,_⟩:=h; rfl) | (obtain ⟨_,_,_,rfl,_⟩:=h; rfl) | (obtain ⟨_,_,_,_,rfl,_⟩:=h; rfl) | (obtain ⟨_,_,_,_,_,rfl,_⟩:=h; rfl) | (obtain ⟨_,_,_,_,_,_,rfl,_⟩:=h; rfl) | (obtain ⟨_,_,_,_,_,_,_,rfl,_⟩:=h; rfl) | (obtain ⟨_,_,_,_,_,_,_,_,rfl,_⟩:=h; rfl))|`([6])=>`(cxOf (CXn P w) P w K mg base N qual scope f cd A outer s0 H0 E)|`([7])=>`(by omega)|`([8])=>`(by decide)|`([9])=>`(Value->Shared->Prop)|`([10])=>`(Inv X pins σ H s)|`([11])=>`(model X.prog X.w)|`([12])=>`(by assumption)|`([13])=>`(model prog w)|`([14])=>`(xc0 X NN scope cl C fp s₀ H₀ pn)|`([15])=>`((e :: es).length + ([]:List Keyword).length + (if ([]:List Keyword).isEmpty then 0 else 1) < 30)|`([16])=>`(OwnCls "BadNote" C_BadNote [.type "ValueError",.type "Exception",.type "BaseException",.type "object"] "ValueError.__new__" mg base)|`([17])=>`(x == ("__debug__" : Str))|`([18])=>`(by simp)|`([19])=>`(Nat.le_refl _)|`([20])=>`(List (Addr × Obj))|`([21])=>`({ s with heap:=h',toks:=tk })|`([22])=>`(c3 (.int 0))|`([23])=>`(.ListComp elt [⟨target,iter,ifs,0⟩] scope pos)|`([24])=>`(cons3 (v3 0) nil3)|`([25])=>`(Str->Option Value)|`([26])=>`((false,eval e X.env))|`([27])=>`(List Value)|`([28])=>`(PySem.W.OpenLaw.row PySem.Challenge.rw_penwright_k88_lines_of_a_desk_refused)|`([29])=>`(List Str)|`([30])=>`(c3 (.int 1))|`([31])=>`(backTo cpos (starEach es X.env))|`([33])=>`(o3 ixR (v3 0) [22])|`([34])=>`(List.toArray (List.range N))|`([35])=>`(wpAny_pure ?_)|`([36])=>`(∀ sl wd,k ∉ xs.map (·.1)->sl ∉ t.place.toList->(∃ m,tr t.mask (hf k) m=sl /\ ∀ l,l < m->Occ t (tr t.mask (hf k) l))->(wd=true->t.slot sl=.dummy)->Q (.free sl wd) s)|`([37])=>`(Kp.refl _)|`([38])=>`({ cls:=.type "range",data:=.fields #[.int lo t,.int hi u,.int 1 v] })|`([39])=>`({ cls:=.type "list",dict:=none,data:=.seq ([]:List Value).toArray })|`([40])=>`(∀ b ∈ ch,(b ∈ X.ex \/ X.s₀.heap.objs.size<=b) /\ b ≠ X.env.locals /\ (∀ x c,X.env.cells.lookup x=some c->c ≠ b) /\ ∀ p ∈ X.pn ++ pins,p.1 ≠ b)|`([41])=>`(XE3->Sp3)|`([42])=>`(.type "BaseException")|`([43])=>`(.ref p)
local macro_rules|`([44])=>`(backTo cpos (starEach (e :: es) X.env))|`([46])=>`(.lst (sD (mks acc) ++ [.str "times",.str (nsT n)]))|`([47])=>`(List (Sum Int Str × D))|`([49])=>`(wpAny_setState_of S.ho S.hd S.fits ?_)|`([50])=>`((s.heap.push { cls:=.type "tuple",data:=.seq #[va,vb] }).push { cls:=.type "tuple_iterator",data:=.fields #[.ref s.heap.objs.size,.int 0 0] })|`([51])=>`(kitCls K (.type "type") (.type "tuple")=some false)|`([52])=>`(backToKw cpos (keywordEach [] X.env))|`([53])=>`(.Call (.Name fx p) (e :: es) [] cpos)|`([54])=>`(s.heap.objs.size + 1)|`([55])=>`(by decide +kernel)|`([56])=>`(⟨λ b ys q=>by rw [va0 (xl1 q h (by intro z; cases z))]; exact q,λ b o u q=>by rw [va0 (xl1 q h (by intro z; cases z))]; exact q⟩)|`([57])=>`(⟨_,Heap.get?_push_size _ rfl,rfl,rfl⟩)|`([58])=>`(⟨λ ρ μ' σ H' h' k' s' m'=>ks _ _ _ _ h' k' .non m',λ ρ μ' σ H' h'=>False.elim h',λ ρ μ' σ H' h'=>False.elim h',ks⟩)|`([59])=>`({ cls:=.type "list",data:=.seq its.toArray n })|`([60])=>`(OwnCls "NoWord" C_NoWord [.type "ValueError",.type "Exception",.type "BaseException",.type "object"] "ValueError.__new__" mg base)|`([61])=>`(("join long long long" : Str))|`([62])=>`(⟨⟨I.ok.mod,I.ok.kind,I.ok.glob,I.ok.blt,I.ok.above,I.ok.inj,I.ok.has,I.ok.cab,I.ok.hd,I.ok.frames,I.ok.stk,I.ok.exf,I.ok.bs,I.ok.bsz,I.ok.noex,I.ok.exfs,I.ok.funs,I.ok.frf⟩,I.os,I.bare,I.base,I.loc,I.cell,I.free,I.freeC,I.pin,I.hok,I.len⟩)|`([63])=>`(EXok K mg XE E)|`([64])=>`(Array (Option Value))|`([65])=>`(mem_append_right _ (mem_append_right _ (uf0 hb e)))|`([66])=>`(X.A.units + 64 < cLine)|`([67])=>`((["go", "jump", "turn"]:List Str))|`([68])=>`(show false=true from hs)|`([69])=>`(.tup (encs w))|`([70])=>`(.ref s.heap.objs.size)|`([71])=>`(backTo pos (starEach es X.env))|`([72])=>`(FnOk X.prog X.w X.K X.mg X.base CX k f fd ps sp)|`([73])=>`(updM M2 g (.lst [.str "a",.str "b",.str "c"]))|`([74])=>`(yb0 I q [18])|`([75])=>`(cons3 (v3 1) nil3)|`([76])=>`(o3 ixR (v3 0) [30])|`([77])=>`(apos.endLine == cpos.line)|`([78])=>`(.lst (List.replicate n.toNat (encs (unrs v))).flatten)|`([79])=>`(∀ (cdv:Value) (A:Around) (outer:List Env) (s:Shared) (H:Hp) (E:XK),Room k (A.deeper (envOfC x (xa0 st) s.heap.objs.size f cdv))->RSs (cxOf CX0 P w K mg base N x (xa0 st) f cdv A outer s H E).nox (wa0 st) t)|`([80])=>`(if SetTable.has t.dummies x then SetTable.eraseAt t.dummies (SetTable.below t.dummies x) else t.dummies)|`([81])=>`(seqObj "list" (ys.map λ x=>Value.ref x.2).toArray 0)|`([82])=>`(λ _ _ _ _ _=>?_)|`([83])=>`(Program)|`([84])=>`(compEnvC scope cl sD.heap.objs.size X.env)|`([85])=>`((items.toList.drop (sIx items.size 0 lo)).take (sIx items.size items.size hi - sIx items.size 0 lo))
local macro_rules|`([86])=>`(Ext.refl _)|`([87])=>`(.Call (.Name x p) (e :: es) [] pos)|`([88])=>`(Shared)|`([89])=>`((∀ b o,b ∉ wr->b ≠ S->s.heap.get? b=some o->h'.get? b=some o))|`([90])=>`(s.mono k1)|`([92])=>`(λ r s'=>r=.ok (.ret (.bool true)) /\ OldK s₁.heap s'.heap /\ s'.os=s₁.os /\ AllBare s'.gens)|`([94])=>`(PySem.W.Frag)|`([95])=>`(CalX P w K mg base k "check_word" ["word"] spx_q10)|`([96])=>`({ s with heap:=h' })|`([97])=>`(updM M2 g (.lst (sD nob0 ++ sD nob1)))|`([98])=>`(o3 ixR (v3 0) (c3 (.int 2)))|`([99])=>`((s.heap.update a (Obj.mapSeq λ _=>(#[]:Array Value))).push (seqObj "tuple" vs.toArray 0))|`([100])=>`(show (sD (mks acc)).length + 2<=sizeLine by rw [ud0]; omega)|`([101])=>`(λ σ H Q ρ μ Q3 a1 a2 a3 a4=>⟨ρ,μ,Q3,a1,a2,a3,a4⟩)|`([102])=>`(Heap.lt_size e)|`([103])=>`(.ins "Desk" [("words",.ref d)])|`([104])=>`(wpAny_pure ⟨_,rfl,wpAny_pure h⟩)|`([105])=>`(List.toArray (List.range vs.length))
theorem Z0:2<=PySem.sizeLine:=by decide
theorem Z1:3<=PySem.sizeLine:=by decide
namespace L2
open PySem PySem.Spec PyProof.Rows
def ug0 (s:Stmt):Arguments:=match s with
 | .FunctionDef _ a _ _ _ _ _ _ _ _=>a
 | _=>{ posonlyargs:=[],args:=[],vararg:=none,kwonlyargs:=[],kw_defaults:=[],kwarg:=none,defaults:=[] }
def wa0 (s:Stmt):List Stmt:=match s with
 | .FunctionDef _ _ b _ _ _ _ _ _ _=>b
 | _=>[]
def xa0 (s:Stmt):Scope:=match s with
 | .FunctionDef _ _ _ _ _ _ sc _ _ _=>sc
 | _=>{ kind:=.function,names:=[],isGenerator:=false,isCoroutine:=false }
end L2
namespace Pv
open PySem PySem.Spec PyProof.Rows L2
noncomputable def top (i:Nat):Stmt:=PySem.Challenge.pw_penwright_k88_lines_of_a_desk_refused.main.body.getD i (.Pass ⟨0,0,0,0⟩)
noncomputable def mth (i j:Nat):Stmt:=match top i with
 | .ClassDef _ _ _ b _ _ _ _ _ _ _=>b.getD j (.Pass ⟨0,0,0,0⟩)
 | _=>.Pass ⟨0,0,0,0⟩
abbrev vz1:Stmt:=top 16
abbrev wz1:Stmt:=top 17
abbrev zz1:Stmt:=top 18
abbrev s_q6:Stmt:=top 19
abbrev sx1:Stmt:=top 22
abbrev yx1:Stmt:=top 23
abbrev xx1:Stmt:=top 24
abbrev sw1:Stmt:=top 25
abbrev zv1:Stmt:=top 26
abbrev sy1:Stmt:=top 27
abbrev ty1:Stmt:=top 28
abbrev uy1:Stmt:=top 29
abbrev yz1:Stmt:=top 30
abbrev xz1:Stmt:=top 31
abbrev xy1:Stmt:=top 32
abbrev tv1:Stmt:=top 35
abbrev ux1:Stmt:=top 36
abbrev ww1:Stmt:=top 37
abbrev tx1:Stmt:=top 38
abbrev vu1:Stmt:=top 39
abbrev tu1:Stmt:=top 40
abbrev uu1:Stmt:=top 41
abbrev su1:Stmt:=top 42
abbrev vx1:Stmt:=top 43
abbrev s_q4:Stmt:=top 44
abbrev wy1:Stmt:=top 45
abbrev uv1:Stmt:=top 53
abbrev vv1:Stmt:=top 54
abbrev uw1:Stmt:=top 55
abbrev tw1:Stmt:=top 56
abbrev yv1:Stmt:=top 57
abbrev vw1:Stmt:=top 58
abbrev xv1:Stmt:=top 59
abbrev wx1:Stmt:=top 67
abbrev yw1:Stmt:=top 68
abbrev zu1:Stmt:=top 77
abbrev zy1:Stmt:=top 87
abbrev yy1:Stmt:=top 88
abbrev yu1:Stmt:=top 89
abbrev sv1:Stmt:=top 90
abbrev zx1:Stmt:=top 91
abbrev vy1:Stmt:=top 92
abbrev wv1:Stmt:=top 93
abbrev wu1:Stmt:=top 94
abbrev zw1:Stmt:=top 95
abbrev xw1:Stmt:=top 96
abbrev s_q0:Stmt:=top 100
abbrev s_q3:Stmt:=top 101
abbrev s_q1:Stmt:=top 102
abbrev s_q2:Stmt:=top 103
abbrev wv0:Stmt:=top 104
abbrev yc0:Stmt:=mth 98 0
abbrev vb0:Stmt:=mth 98 1
abbrev vf0:Stmt:=mth 98 2
abbrev wb0:Stmt:=mth 98 3
abbrev tc0:Stmt:=mth 98 4
abbrev xb0:Stmt:=mth 98 5
abbrev vb:Value:=.bool true
abbrev vi:Value:=.int 181 0
noncomputable def en (P:Params) (x:Str) (t:Tok) (v:Value):DictEntry:=⟨PyData.keyHash P x,.str x t,v⟩
noncomputable def fo (x y:Str) (st:Stmt) (m c:Value):Obj:=⟨.type "function",none,.func (fnOf x y (ug0 st) (wa0 st) (xa0 st) .none .none .none m none c .none),#[]⟩
noncomputable def co (x:Str) (a:Tok) (y:Str) (b c:Tok) (ns:List Int) (vs:[27]) (d e:Int) (f:Tok):Obj:=⟨.type "code",none,.fields (.str x a :: .str y b :: .str "/claim/cut.py" c :: (ns.map (λ n=>Value.int n 0) ++ (vs ++ [.int d 0,.int e 0,.str "/claim/cut.py" f]))).toArray,#[]⟩
noncomputable def fq (x:Str) (st:Stmt) (m c:Value):Obj:=fo x x st m c
noncomputable def cq (x:Str) (a:Tok) (ns:List Int) (vs:[27]) (d e:Int) (f:Tok):Obj:=co x a x (a + 1) (a + 2) ns vs d e f
noncomputable def tO (vs:[27]):Obj:=⟨.type "tuple",none,.seq vs.toArray 0,#[]⟩
abbrev z8:Value:=.str "law_penwright_k88_lines_of_a_desk_refused" 980
def z9 (x:Str) (s:Stmt) (c:Addr):Obj:=fo x x s z8 (.ref c)
def za (x:Str) (a:Tok):=co x a x
def zb (P:Params) (x:Str) (t:Tok) (a:Addr):DictEntry:=en P x t (.ref a)
def Z2 (x:Str):=fo x x
abbrev Z3:Value:=.str "penwright.errors" 187
abbrev Z4:Value:=.str "penwright.words" 271
abbrev Z5:Value:=.str "penwright.notes" 437
abbrev Z6:Value:=.str "penwright.pictures" 530
abbrev Z7:Value:=.str "penwright.desk" 784
noncomputable def KK:PySem.Params->PySem.W.Frag:=λ P=>(nat_lit 2,⟨.none,none,.dict #[] 0,#[]⟩) :: (nat_lit 3,⟨.type "dict",none,.dict #[en P "__name__" 165 z8,en P "__doc__" 166 (.none),en P "__package__" 167 (.none),en P "__loader__" 168 (.builtin "__main__.__loader__#opaque"),en P "__spec__" 169 (.none),zb P "__annotations__" 170 6,zb P "__builtins__" 171 4,en P "__file__" 173 (.str "/claim/cut.py" 172),en P "__cached__" 174 (.none),zb P "PenError" 206 24,zb P "NoWord" 222 37,zb P "NoPicture" 238 49,zb P "NoRoom" 254 61,zb P "BadNote" 270 73,en P "MOST_DEEDS" 274 (.int 30 273),en P "MOST_DEEP" 276 (.int 4 275),en P "MOST_FIGURES" 278 (.int 20 277),en P "GREATEST_NUMBER" 280 (.int 99999999999999999999 279),en P "MOST_OF_SMALL" 282 (.int 400 281),zb P "PLAIN_KINDS" 286 76,zb P "KINDS_FROM_NOUGHT" 289 77,zb P "START" 293 78,zb P "AHEAD" 304 83,zb P "check_word" 311 90,zb P "checked_count" 321 97,zb P "checked_deed_count" 329 104,zb P "check_number" 337 111,zb P "pen_after" 344 118,zb P "carried" 352 125,zb P "led" 363 132,zb P "pen_behind" 372 139,zb P "pen_behind_deed" 379 146,zb P "pen_repeated" 389 153,zb P "strokes_drawn" 396 160,zb P "count_strokes" 402 165,zb P "count_strokes_of_deed" 409 172,zb P "deeds_done" 416 179,zb P "count_done" 422 184,zb P "count_done_of_deed" 429 191,zb P "is_small" 436 198,en P "FIGURES" 440 (.str "0123456789" 439),zb P "shown" 447 205,zb P "marks_of" 456 212,zb P "read" 465 219,zb P "marks_in" 472 226,zb P "take_word" 481 233,zb P "take_deed" 492 240,zb P "take_mark" 499 247,zb P "take_bracket" 507 254,zb P "number_of" 515 261,zb P "are_figures" 521 266,zb P "has_needless" 529 273,zb P "WAYS" 534 274,zb P "LAYINGS" 551 283,zb P "check_picture" 560 290,zb P "check_stroke" 567 297,zb P "check_pictures" 575 304,zb P "ends_of" 582 311,zb P "stroke_between" 591 318,zb P "strokes_along" 597 323,zb P "picture_with" 604 330,zb P "picture_of" 611 337,zb P "strokes_from" 622 344,zb P "plain_deeds" 631 351,zb P "strokes_of_go" 637 356,zb P "moved_picture" 643 361,zb P "moved_stroke" 652 368,zb P "turned_picture" 658 373,zb P "turned_stroke" 667 380,zb P "turned_point" 676 387,zb P "mirrored_picture" 682 392,zb P "mirrored_stroke" 690 399,zb P "parting_stroke" 699 406,zb P "same_shape" 705 411,zb P "laid" 713 418,zb P "shift_between" 722 425,zb P "picture_pieces" 735 432,zb P "strokes_at" 745 439,zb P "piece_with" 758 446,zb P "take_unseen" 764 451,zb P "odd_points" 770 456,zb P "trails_needed" 776 461,zb P "trails_of_piece_needed" 783 468,en P "LETTERS" 787 (.str "abcdefghijklmnopqrstuvwxyz" 786),en P "MOST_LETTERS" 789 (.int 8 788),zb P "NAMES_IN_LINE" 820 469,en P "KEPT" 822 (.str "kept" 821),en P "BAD_LINE" 824 (.str "bad line" 823),en P "NO_SUCH_NAME" 826 (.str "no such name" 825),en P "TOO_GREAT" 828 (.str "too great" 827),zb P "is_line" 834 474,zb P "is_name" 840 479,zb P "written" 846 484,zb P "show_answer" 853 491,zb P "pen_answer" 860 498,zb P "drawn_answer" 867 505,zb P "strokes_answer" 874 512,zb P "trails_answer" 881 519,zb P "same_answer" 889 526,zb P "shape_answer" 896 533,zb P "ANSWERS" 911 534,zb P "Desk" 979 584,zb P "_law_cell_at" 989 595,zb P "_law_state" 998 602,zb P "_law_choice" 1008 609,zb P "_law_odd" 1016 616,zb P "law" 1030 623] 107,#[]⟩) :: (nat_lit 15,tO [.type "ValueError"]) :: (nat_lit 22,tO []) :: (nat_lit 23,⟨.type "dict",none,.dict #[en P "__module__" 196 Z3,en P "__firstlineno__" 200 (.int 2 199),zb P "__static_attributes__" 201 22,zb P "__weakref__" 203 25,en P "__doc__" 204 (.none)] 3,#[]⟩) :: (nat_lit 24,⟨.type "type",none,.cls ⟨"PenError",[.type "ValueError"],[.ref 24,.type "ValueError",.type "Exception",.type "BaseException",.type "object"],23, "PenError",true,[],[.ref 37,.ref 49,.ref 61,.ref 73],false,none,false⟩,#[some (.ref 15),none,some (.str "PenError" 189),some (.str "PenError" 197),some (.builtin "ValueError.__new__"),some (.bool true)]⟩) :: (nat_lit 25,⟨.type "getset_descriptor",none,.fields #[.str "__weakref__" 202,.ref 24,.builtin "ExceptionGroup.__weakref__",.none],#[]⟩) :: (nat_lit 28,tO [.ref 24]) :: (nat_lit 35,tO []) :: (nat_lit 36,⟨.type "dict",none,.dict #[en P "__module__" 214 Z3,en P "__firstlineno__" 218 (.int 4 217),zb P "__static_attributes__" 219 35,en P "__doc__" 220 (.none)] 2,#[]⟩) :: (nat_lit 37,⟨.type "type",none,.cls ⟨"NoWord",[.ref 24],[.ref 37,.ref 24,.type "ValueError",.type "Exception",.type "BaseException",.type "object"],36, "NoWord",true,[],[],false,none,false⟩,#[some (.ref 28),none,some (.str "NoWord" 207),some (.str "NoWord" 215),some (.builtin "ValueError.__new__"),some (.bool true)]⟩) :: (nat_lit 40,tO [.ref 24]) :: (nat_lit 47,tO []) :: (nat_lit 48,⟨.type "dict",none,.dict #[en P "__module__" 230 Z3,en P "__firstlineno__" 234 (.int 6 233),zb P "__static_attributes__" 235 47,en P "__doc__" 236 (.none)] 2,#[]⟩) :: (nat_lit 49,⟨.type "type",none,.cls ⟨"NoPicture",[.ref 24],[.ref 49,.ref 24,.type "ValueError",.type "Exception",.type "BaseException",.type "object"],48, "NoPicture",true,[],[],false,none,false⟩,#[some (.ref 40),none,some (.str "NoPicture" 223),some (.str "NoPicture" 231),some (.builtin "ValueError.__new__"),some (.bool true)]⟩) :: (nat_lit 52,tO [.ref 24]) :: (nat_lit 59,tO []) :: (nat_lit 60,⟨.type "dict",none,.dict #[en P "__module__" 246 Z3,en P "__firstlineno__" 250 (.int 8 249),zb P "__static_attributes__" 251 59,en P "__doc__" 252 (.none)] 2,#[]⟩) :: (nat_lit 61,⟨.type "type",none,.cls ⟨"NoRoom",[.ref 24],[.ref 61,.ref 24,.type "ValueError",.type "Exception",.type "BaseException",.type "object"],60, "NoRoom",true,[],[],false,none,false⟩,#[some (.ref 52),none,some (.str "NoRoom" 239),some (.str "NoRoom" 247),some (.builtin "ValueError.__new__"),some (.bool true)]⟩) :: (nat_lit 64,tO [.ref 24]) :: (nat_lit 71,tO []) :: (nat_lit 72,⟨.type "dict",none,.dict #[en P "__module__" 262 Z3,en P "__firstlineno__" 266 (.int 10 265),zb P "__static_attributes__" 267 71,en P "__doc__" 268 (.none)] 2,#[]⟩) :: (nat_lit 73,⟨.type "type",none,.cls ⟨"BadNote",[.ref 24],[.ref 73,.ref 24,.type "ValueError",.type "Exception",.type "BaseException",.type "object"],72, "BadNote",true,[],[],false,none,false⟩,#[some (.ref 64),none,some (.str "BadNote" 255),some (.str "BadNote" 263),some (.builtin "ValueError.__new__"),some (.bool true)]⟩) :: (nat_lit 76,tO [.str "go" 283,.str "jump" 284,.str "turn" 285]) :: (nat_lit 77,tO [.str "go" 287,.str "times" 288]) :: (nat_lit 78,tO [.int 0 290,.int 0 291,.int 0 292]) :: (nat_lit 79,tO [.int 1 294,.int 0 295]) :: (nat_lit 80,tO [.int 0 296,.int 1 297]) :: (nat_lit 81,tO [.int (-1) 299,.int 0 300]) :: (nat_lit 82,tO [.int 0 301,.int (-1) 303]) :: (nat_lit 83,tO [.ref 79,.ref 80,.ref 81,.ref 82]) :: (nat_lit 89,cq "check_word" 305 [22,1,0,0,3] [.ref 84,.bool true,.int 181 0,.ref 85,.none,.ref 86,.ref 87,.ref 88] 309 22 310) :: (nat_lit 90,fq "check_word" vz1 Z4 (.ref 89)) :: (nat_lit 96,cq "checked_count" 312 [24,2,0,0,3] [.ref 91,.bool true,.int 181 0,.ref 92,.none,.ref 93,.ref 94,.ref 95] 319 24 320) :: (nat_lit 97,fq "checked_count" wz1 Z4 (.ref 96)) :: (nat_lit 103,cq "checked_deed_count" 322 [35,2,0,0,3] [.ref 98,.bool true,.int 181 0,.ref 99,.none,.ref 100,.ref 101,.ref 102] 327 35 328) :: (nat_lit 104,fq "checked_deed_count" zz1 Z4 (.ref 103)) :: (nat_lit 110,cq "check_number" 330 [45,2,0,0,3] [.ref 105,.bool true,.int 181 0,.ref 106,.none,.ref 107,.ref 108,.ref 109] 335 45 336) :: (nat_lit 111,fq "check_number" s_q6 Z4 (.ref 110)) :: (nat_lit 131,cq "led" 353 [57,2,0,0,3] [.ref 126,.bool true,.int 181 0,.ref 127,.none,.ref 128,.ref 129,.ref 130] 361 57 362) :: (nat_lit 132,fq "led" sx1 Z4 (.ref 131)) :: (nat_lit 138,cq "pen_behind" 364 [62,1,0,0,3] [.ref 133,.bool true,.int 181 0,.ref 134,.none,.ref 135,.ref 136,.ref 137] 370 62 371) :: (nat_lit 139,fq "pen_behind" yx1 Z4 (.ref 138)) :: (nat_lit 145,cq "pen_behind_deed" 373 [67,1,0,0,3] [.ref 140,.bool true,.int 181 0,.ref 141,.none,.ref 142,.ref 143,.ref 144] 377 67 378) :: (nat_lit 146,fq "pen_behind_deed" xx1 Z4 (.ref 145)) :: (nat_lit 152,cq "pen_repeated" 380 [73,2,0,0,3] [.ref 147,.bool true,.int 181 0,.ref 148,.none,.ref 149,.ref 150,.ref 151] 387 73 388) :: (nat_lit 153,fq "pen_repeated" sw1 Z4 (.ref 152)) :: (nat_lit 159,cq "strokes_drawn" 390 [80,1,0,0,3] [.ref 154,.bool true,.int 181 0,.ref 155,.none,.ref 156,.ref 157,.ref 158] 394 80 395) :: (nat_lit 160,fq "strokes_drawn" zv1 Z4 (.ref 159)) :: (nat_lit 164,cq "count_strokes" 397 [83,1,0,0,3] [.ref 161,.bool true,.int 181 0,.ref 162,.none,.none,.none,.ref 163] 400 83 401) :: (nat_lit 165,fq "count_strokes" sy1 Z4 (.ref 164)) :: (nat_lit 171,cq "count_strokes_of_deed" 403 [85,1,0,0,3] [.ref 166,.bool true,.int 181 0,.ref 167,.none,.ref 168,.ref 169,.ref 170] 407 85 408) :: (nat_lit 172,fq "count_strokes_of_deed" ty1 Z4 (.ref 171)) :: (nat_lit 178,cq "deeds_done" 410 [91,1,0,0,3] [.ref 173,.bool true,.int 181 0,.ref 174,.none,.ref 175,.ref 176,.ref 177] 414 91 415) :: (nat_lit 179,fq "deeds_done" uy1 Z4 (.ref 178)) :: (nat_lit 183,cq "count_done" 417 [94,1,0,0,3] [.ref 180,.bool true,.int 181 0,.ref 181,.none,.none,.none,.ref 182] 420 94 421) :: (nat_lit 184,fq "count_done" yz1 Z4 (.ref 183)) :: (nat_lit 190,cq "count_done_of_deed" 423 [96,1,0,0,3] [.ref 185,.bool true,.int 181 0,.ref 186,.none,.ref 187,.ref 188,.ref 189] 427 96 428) :: (nat_lit 191,fq "count_done_of_deed" xz1 Z4 (.ref 190)) :: (nat_lit 197,cq "is_small" 430 [100,1,0,0,3] [.ref 192,.bool true,.int 181 0,.ref 193,.none,.ref 194,.ref 195,.ref 196] 434 100 435) :: (nat_lit 198,fq "is_small" xy1 Z4 (.ref 197)) :: (nat_lit 204,cq "shown" 441 [104,1,0,0,3] [.ref 199,.bool true,.int 181 0,.ref 200,.none,.ref 201,.ref 202,.ref 203] 445 104 446) :: (nat_lit 205,fq "shown" tv1 Z5 (.ref 204)) :: (nat_lit 211,cq "marks_of" 448 [107,1,0,0,3] [.ref 206,.bool true,.int 181 0,.ref 207,.none,.ref 208,.ref 209,.ref 210] 454 107 455) :: (nat_lit 212,fq "marks_of" ux1 Z5 (.ref 211)) :: (nat_lit 218,cq "read" 457 [114,1,0,0,3] [.ref 213,.bool true,.int 181 0,.ref 214,.none,.ref 215,.ref 216,.ref 217] 463 114 464) :: (nat_lit 219,fq "read" ww1 Z5 (.ref 218)) :: (nat_lit 225,cq "marks_in" 466 [124,1,0,0,3] [.ref 220,.bool true,.int 181 0,.ref 221,.none,.ref 222,.ref 223,.ref 224] 470 124 471) :: (nat_lit 226,fq "marks_in" tx1 Z5 (.ref 225)) :: (nat_lit 232,cq "take_word" 473 [128,2,0,0,3] [.ref 227,.bool true,.int 181 0,.ref 228,.none,.ref 229,.ref 230,.ref 231] 479 128 480) :: (nat_lit 233,fq "take_word" vu1 Z5 (.ref 232)) :: (nat_lit 239,cq "take_deed" 482 [135,2,0,0,3] [.ref 234,.bool true,.int 181 0,.ref 235,.none,.ref 236,.ref 237,.ref 238] 490 135 491) :: (nat_lit 240,fq "take_deed" tu1 Z5 (.ref 239)) :: (nat_lit 246,cq "take_mark" 493 [146,1,0,0,3] [.ref 241,.bool true,.int 181 0,.ref 242,.none,.ref 243,.ref 244,.ref 245] 497 146 498) :: (nat_lit 247,fq "take_mark" uu1 Z5 (.ref 246)) :: (nat_lit 253,cq "take_bracket" 500 [150,2,0,0,3] [.ref 248,.bool true,.int 181 0,.ref 249,.none,.ref 250,.ref 251,.ref 252] 505 150 506) :: (nat_lit 254,fq "take_bracket" su1 Z5 (.ref 253)) :: (nat_lit 260,cq "number_of" 508 [153,1,0,0,3] [.ref 255,.bool true,.int 181 0,.ref 256,.none,.ref 257,.ref 258,.ref 259] 513 153 514) :: (nat_lit 261,fq "number_of" vx1 Z5 (.ref 260)) :: (nat_lit 265,cq "are_figures" 516 [160,1,0,0,3] [.ref 262,.bool true,.int 181 0,.ref 263,.none,.none,.none,.ref 264] 519 160 520) :: (nat_lit 266,fq "are_figures" s_q4 Z5 (.ref 265)) :: (nat_lit 272,cq "has_needless" 522 [164,2,0,0,3] [.ref 267,.bool true,.int 181 0,.ref 268,.none,.ref 269,.ref 270,.ref 271] 527 164 528) :: (nat_lit 273,fq "has_needless" wy1 Z5 (.ref 272)) :: (nat_lit 274,tO [.int 0 532,.int 1 533]) :: (nat_lit 275,tO [.int 0 535,.int 0 536]) :: (nat_lit 276,tO [.int 0 537,.int 1 538]) :: (nat_lit 277,tO [.int 0 539,.int 2 540]) :: (nat_lit 278,tO [.int 0 541,.int 3 542]) :: (nat_lit 279,tO [.int 1 543,.int 0 544]) :: (nat_lit 280,tO [.int 1 545,.int 1 546]) :: (nat_lit 281,tO [.int 1 547,.int 2 548]) :: (nat_lit 282,tO [.int 1 549,.int 3 550]) :: (nat_lit 283,tO [.ref 275,.ref 276,.ref 277,.ref 278,.ref 279,.ref 280,.ref 281,.ref 282]) :: (nat_lit 317,cq "stroke_between" 583 [185,2,0,0,3] [.ref 312,.bool true,.int 181 0,.ref 313,.none,.ref 314,.ref 315,.ref 316] 589 185 590) :: (nat_lit 318,fq "stroke_between" uv1 Z6 (.ref 317)) :: (nat_lit 322,cq "strokes_along" 592 [188,1,0,0,3] [.ref 319,.bool true,.int 181 0,.ref 320,.none,.none,.none,.ref 321] 595 188 596) :: (nat_lit 323,fq "strokes_along" vv1 Z6 (.ref 322)) :: (nat_lit 329,cq "picture_with" 598 [190,1,0,0,3] [.ref 324,.bool true,.int 181 0,.ref 325,.none,.ref 326,.ref 327,.ref 328] 602 190 603) :: (nat_lit 330,fq "picture_with" uw1 Z6 (.ref 329)) :: (nat_lit 336,cq "picture_of" 605 [192,1,0,0,3] [.ref 331,.bool true,.int 181 0,.ref 332,.none,.ref 333,.ref 334,.ref 335] 609 192 610) :: (nat_lit 337,fq "picture_of" tw1 Z6 (.ref 336)) :: (nat_lit 343,cq "strokes_from" 612 [196,2,0,0,3] [.ref 338,.bool true,.int 181 0,.ref 339,.none,.ref 340,.ref 341,.ref 342] 620 196 621) :: (nat_lit 344,fq "strokes_from" yv1 Z6 (.ref 343)) :: (nat_lit 350,cq "plain_deeds" 623 [204,1,0,0,3] [.ref 345,.bool true,.int 181 0,.ref 346,.none,.ref 347,.ref 348,.ref 349] 629 204 630) :: (nat_lit 351,fq "plain_deeds" vw1 Z6 (.ref 350)) :: (nat_lit 355,cq "strokes_of_go" 632 [212,2,0,0,3] [.ref 352,.bool true,.int 181 0,.ref 353,.none,.none,.none,.ref 354] 635 212 636) :: (nat_lit 356,fq "strokes_of_go" xv1 Z6 (.ref 355)) :: (nat_lit 405,cq "parting_stroke" 691 [236,2,0,0,3] [.ref 400,.bool true,.int 181 0,.ref 401,.none,.ref 402,.ref 403,.ref 404] 697 236 698) :: (nat_lit 406,fq "parting_stroke" wx1 Z6 (.ref 405)) :: (nat_lit 410,cq "same_shape" 700 [242,2,0,0,3] [.ref 407,.bool true,.int 181 0,.ref 408,.none,.none,.none,.ref 409] 703 242 704) :: (nat_lit 411,fq "same_shape" yw1 Z6 (.ref 410)) :: (nat_lit 460,cq "trails_needed" 771 [293,1,0,0,3] [.ref 457,.bool true,.int 181 0,.ref 458,.none,.none,.none,.ref 459] 774 293 775) :: (nat_lit 461,fq "trails_needed" zu1 (.str "penwright.trails" 723) (.ref 460)) :: (nat_lit 469,⟨.type "dict",none,.dict #[en P "drop" 790 (.int 1 791),en P "join" 792 (.int 3 793),en P "show" 794 (.int 1 795),en P "names" 796 (.int 0 797),en P "pen" 798 (.int 1 799),en P "drawn" 800 (.int 1 801),en P "strokes" 802 (.int 1 803),en P "trails" 804 (.int 1 805),en P "same" 806 (.int 2 807),en P "shape" 808 (.int 2 809)] 10,#[]⟩) :: (nat_lit 473,cq "is_line" 829 [305,1,0,0,3] [.ref 470,.bool true,.int 181 0,.ref 471,.none,.none,.none,.ref 472] 832 305 833) :: (nat_lit 474,fq "is_line" zy1 Z7 (.ref 473)) :: (nat_lit 478,cq "is_name" 835 [309,1,0,0,3] [.ref 475,.bool true,.int 181 0,.ref 476,.none,.none,.none,.ref 477] 838 309 839) :: (nat_lit 479,fq "is_name" yy1 Z7 (.ref 478)) :: (nat_lit 483,cq "written" 841 [313,1,0,0,3] [.ref 480,.bool true,.int 181 0,.ref 481,.none,.none,.none,.ref 482] 844 313 845) :: (nat_lit 484,fq "written" yu1 Z7 (.ref 483)) :: (nat_lit 490,cq "show_answer" 847 [315,1,0,0,3] [.ref 485,.bool true,.int 181 0,.ref 486,.none,.ref 487,.ref 488,.ref 489] 851 315 852) :: (nat_lit 491,fq "show_answer" sv1 Z7 (.ref 490)) :: (nat_lit 497,cq "pen_answer" 854 [317,1,0,0,3] [.ref 492,.bool true,.int 181 0,.ref 493,.none,.ref 494,.ref 495,.ref 496] 858 317 859) :: (nat_lit 498,fq "pen_answer" zx1 Z7 (.ref 497)) :: (nat_lit 504,cq "drawn_answer" 861 [319,1,0,0,3] [.ref 499,.bool true,.int 181 0,.ref 500,.none,.ref 501,.ref 502,.ref 503] 865 319 866) :: (nat_lit 505,fq "drawn_answer" vy1 Z7 (.ref 504)) :: (nat_lit 511,cq "strokes_answer" 868 [321,1,0,0,3] [.ref 506,.bool true,.int 181 0,.ref 507,.none,.ref 508,.ref 509,.ref 510] 872 321 873) :: (nat_lit 512,fq "strokes_answer" wv1 Z7 (.ref 511)) :: (nat_lit 518,cq "trails_answer" 875 [323,1,0,0,3] [.ref 513,.bool true,.int 181 0,.ref 514,.none,.ref 515,.ref 516,.ref 517] 879 323 880) :: (nat_lit 519,fq "trails_answer" wu1 Z7 (.ref 518)) :: (nat_lit 525,cq "same_answer" 882 [325,1,0,0,3] [.ref 520,.bool true,.int 181 0,.ref 521,.none,.ref 522,.ref 523,.ref 524] 887 325 888) :: (nat_lit 526,fq "same_answer" zw1 Z7 (.ref 525)) :: (nat_lit 532,cq "shape_answer" 890 [330,1,0,0,3] [.ref 527,.bool true,.int 181 0,.ref 528,.none,.ref 529,.ref 530,.ref 531] 894 330 895) :: (nat_lit 533,fq "shape_answer" xw1 Z7 (.ref 532)) :: (nat_lit 534,⟨.type "dict",none,.dict #[zb P "show" 897 491,zb P "pen" 898 498,zb P "drawn" 899 505,zb P "strokes" 900 512,zb P "trails" 901 519,zb P "same" 902 526,zb P "shape" 903 533] 7,#[]⟩) :: (nat_lit 547,co "__init__" 924 "Desk.__init__" 925 926 [335,1,0,0,3] [.ref 542,vb,vi,.ref 543,.none,.ref 544,.ref 545,.ref 546] 928 335 929) :: (nat_lit 548,fo "__init__" "Desk.__init__" yc0 Z7 (.ref 547)) :: (nat_lit 554,co "all_words" 931 "Desk.all_words" 932 933 [338,1,0,0,3] [.ref 549,vb,vi,.ref 550,.none,.ref 551,.ref 552,.ref 553] 935 338 936) :: (nat_lit 555,fo "all_words" "Desk.all_words" vb0 Z7 (.ref 554)) :: (nat_lit 559,co "say" 938 "Desk.say" 939 940 [341,2,0,0,3] [.ref 556,vb,vi,.ref 557,.none,.none,.none,.ref 558] 941 341 942) :: (nat_lit 560,fo "say" "Desk.say" vf0 Z7 (.ref 559)) :: (nat_lit 566,co "keep_read" 944 "Desk.keep_read" 945 946 [352,2,0,0,3] [.ref 561,vb,vi,.ref 562,.none,.ref 563,.ref 564,.ref 565] 950 352 951) :: (nat_lit 567,fo "keep_read" "Desk.keep_read" wb0 Z7 (.ref 566)) :: (nat_lit 573,co "answer" 953 "Desk.answer" 954 955 [362,3,0,0,3] [.ref 568,vb,vi,.ref 569,.none,.ref 570,.ref 571,.ref 572] 959 362 960) :: (nat_lit 574,fo "answer" "Desk.answer" tc0 Z7 (.ref 573)) :: (nat_lit 580,co "keep_joined" 962 "Desk.keep_joined" 963 964 [375,3,0,0,3] [.ref 575,vb,vi,.ref 576,.none,.ref 577,.ref 578,.ref 579] 968 375 969) :: (nat_lit 581,fo "keep_joined" "Desk.keep_joined" xb0 Z7 (.ref 580)) :: (nat_lit 582,tO [.str "words" 971]) :: (nat_lit 583,⟨.type "dict",none,.dict #[en P "__module__" 919 Z7,en P "__firstlineno__" 923 (.int 333 922),zb P "__init__" 930 548,zb P "all_words" 937 555,zb P "say" 943 560,zb P "keep_read" 952 567,zb P "answer" 961 574,zb P "keep_joined" 970 581,zb P "__static_attributes__" 972 582,zb P "__dict__" 974 585,zb P "__weakref__" 976 586,en P "__doc__" 977 (.none)] 4,#[]⟩) :: (nat_lit 584,⟨.type "type",none,.cls ⟨"Desk",[.type "object"],[.ref 584,.type "object"],583, "Desk",true,[],[],false,none,false⟩,#[none,none,some (.str "Desk" 912),some (.str "Desk" 920),some (.builtin "object.__new__"),some (.bool true)]⟩) :: (nat_lit 585,⟨.type "getset_descriptor",none,.fields #[.str "__dict__" 973,.ref 584,.builtin "function.__dict__",.builtin "function.__dict__#set"],#[]⟩) :: (nat_lit 586,⟨.type "getset_descriptor",none,.fields #[.str "__weakref__" 975,.ref 584,.builtin "ExceptionGroup.__weakref__",.none],#[]⟩) :: (nat_lit 594,cq "_law_cell_at" 982 [383,2,0,0,3] [.ref 589,.bool true,.int 181 0,.ref 590,.none,.ref 591,.ref 592,.ref 593] 987 383 988) :: (nat_lit 595,fq "_law_cell_at" s_q0 z8 (.ref 594)) :: (nat_lit 601,cq "_law_state" 990 [387,2,0,0,3] [.ref 596,.bool true,.int 181 0,.ref 597,.none,.ref 598,.ref 599,.ref 600] 996 387 997) :: (nat_lit 602,fq "_law_state" s_q3 z8 (.ref 601)) :: (nat_lit 608,cq "_law_choice" 999 [392,2,0,0,3] [.ref 603,.bool true,.int 181 0,.ref 604,.none,.ref 605,.ref 606,.ref 607] 1006 392 1007) :: (nat_lit 609,fq "_law_choice" s_q1 z8 (.ref 608)) :: (nat_lit 615,cq "_law_odd" 1009 [401,1,0,0,3] [.ref 610,.bool true,.int 181 0,.ref 611,.none,.ref 612,.ref 613,.ref 614] 1014 401 1015) :: (nat_lit 616,fq "_law_odd" s_q2 z8 (.ref 615)) :: (nat_lit 622,cq "law" 1017 [409,1,0,0,3] [.ref 617,.bool true,.int 181 0,.ref 618,.none,.ref 619,.ref 620,.ref 621] 1028 409 1029) :: (nat_lit 623,fq "law" wv0 z8 (.ref 622)) :: []
noncomputable def KA:List Addr:=[2,3,15,22,23,24,25,28,35,36,37,40,47,48,49,52,59,60,61,64,71,72,73,76,77,78,79,80,81,82,83,89,90,96,97,103,104,110,111,131,132,138,139,145,146,152,153,159,160,164,165,171,172,178,179,183,184,190,191,197,198,204,205,211,212,218,219,225,226,232,233,239,240,246,247,253,254,260,261,265,266,272,273,274,275,276,277,278,279,280,281,282,283,317,318,322,323,329,330,336,337,343,344,350,351,355,356,405,406,410,411,460,461,469,473,474,478,479,483,484,490,491,497,498,504,505,511,512,518,519,525,526,532,533,534,547,548,554,555,559,560,566,567,573,574,580,581,582,583,584,585,586,594,595,601,602,608,609,615,616,622,623]
theorem ke:∀ P,KA=(KK P).map (·.1):=λ _=>by kernel_rfl
noncomputable def vw:Program:={ PySem.Challenge.pw_penwright_k88_lines_of_a_desk_refused with main:={ PySem.Challenge.pw_penwright_k88_lines_of_a_desk_refused.main with body:=[top 104] } }
abbrev LS:List Str:=Program.boundNames [28].prog
theorem h_said:PySem.Challenge.rw_penwright_k88_lines_of_a_desk_refused.wellSaid=true:=by kernel_rfl
def th3 (b:Bool) (p q:[83]) (loose:[29]) (Xt:Shared->Bool) {α:Type} (Yf:Shared->α) (Ya:World->α) (N:Nat):Prop:=∀ w:World,(fencedOpening treeTable p w N).map (λ s₀=>(topFrom treeTable p (w.withFollow "special-get-raises" b) N s₀).map (λ s=>(PySem.W.openSeen q loose (importedModules p.main.body) Xt true s,Yf s)))=some (some (PySem.W.openGood q loose,Ya (w.withFollow "special-get-raises" b)))
theorem xa3 {p q:[83]} {loose:[29]} {Xt:Shared->Bool} {α:Type} {Yf:Shared->α} {Ya:World->α} {N:Nat} (h0:th3 false p q loose Xt Yf Ya N) (h1:th3 true p q loose Xt Yf Ya N):LeftO p q loose Xt Yf Ya N:=PySem.W.LeftO.of_split "special-get-raises" λ w=>by
 obtain ⟨s,e,e0⟩:=Option.map_eq_some_iff.mp (h0 w);obtain ⟨s',e',e1⟩:=Option.map_eq_some_iff.mp (h1 w);rw [e] at e';cases e';rw [e];exact congrArg some (Prod.ext e0 e1)
theorem h_l0:th3 false [28].prog vw LS (λ s=>xlAt vw [] s && recOk (PySem.W.RowW.records (PySem.W.OpenRow.toRowW [28])) s) (PySem.W.Hook.obs (kHook KK KA ke)) (PySem.W.Hook.val (kHook KK KA ke)) 8366:=by
 intro w
 delta openEnds fencedOpening topFrom
 rw [PySem.W.Fast.te14082659384304107361,PySem.W.Fast.te10274390034422433532,PySem.W.Fast.te14289696077712309145,PySem.W.Fast.te1435165496053646825,PySem.W.Fast.te14364793385576792824,PySem.W.Fast.te4187177175401517315]
 kernel_rfl
theorem h_l1:th3 true [28].prog vw LS (λ s=>xlAt vw [] s && recOk (PySem.W.RowW.records (PySem.W.OpenRow.toRowW [28])) s) (PySem.W.Hook.obs (kHook KK KA ke)) (PySem.W.Hook.val (kHook KK KA ke)) 8366:=by
 intro w
 delta openEnds fencedOpening topFrom
 rw [PySem.W.Fast.te14082659384304107361,PySem.W.Fast.te10274390034422433532,PySem.W.Fast.te14289696077712309145,PySem.W.Fast.te1435165496053646825,PySem.W.Fast.te14364793385576792824,PySem.W.Fast.te4187177175401517315]
 kernel_rfl
theorem h_left:LeftO [28].prog vw LS (λ s=>xlAt vw [] s && recOk (PySem.W.RowW.records (PySem.W.OpenRow.toRowW [28])) s) (PySem.W.Hook.obs (kHook KK KA ke)) (PySem.W.Hook.val (kHook KK KA ke)) 8366:=xa3 h_l0 h_l1
end Pv
namespace L2
open PySem PySem.Spec PyProof.Rows
abbrev Key:=Sum Int Str
def xb2:Key->Value->Bool
 | .inl k,v=>Value.isInt k v
 | .inr x,v=>Value.isStrOf x v
def keyH (w:World):Key->Int
 | .inl k=>hashInt k
 | .inr x=>hashStr w x
theorem zc0:∀ {k:Key} {v:Value},xb2 k v=true->(∃ i t,k=Sum.inl i /\ v=Value.int i t) \/ (∃ x t,k=Sum.inr x /\ v=Value.str x t)
 | .inl i,v,h=>by
  obtain ⟨t,e⟩:=Value.isInt_shape (k:=i) (v:=v) h;exact .inl ⟨i,t,rfl,e⟩
 | .inr x,v,h=>by
  obtain ⟨t,e⟩:=Value.isStrOf_shape (x:=x) (v:=v) h;exact .inr ⟨x,t,rfl,e⟩
theorem xl2 (i:Int) (t:Tok):xb2 (.inl i) (.int i t)=true:=by simp [xb2,Value.isInt]
theorem sk2 (x:Str) (t:Tok):xb2 (.inr x) (.str x t)=true:=by simp [xb2,Value.isStrOf]
theorem key_ll (a b:Int):decide ((Sum.inl a:Key)=Sum.inl b)=(a == b):=by
 by_cases e:a=b
 ·subst e; simp
 ·have h:¬ (Sum.inl a:Key)=Sum.inl b:=λ q=>e (Sum.inl.inj q);rw [decide_eq_false h];exact (beq_eq_false_iff_ne.mpr e).symm
theorem key_rr (a b:Str):decide ((Sum.inr a:Key)=Sum.inr b)=decide (a=b):=by
 by_cases e:a=b
 ·subst e; simp
 ·have h:¬ (Sum.inr a:Key)=Sum.inr b:=λ q=>e (Sum.inr.inj q);rw [decide_eq_false h,decide_eq_false e]
theorem key_lr (a:Int) (b:Str):decide ((Sum.inl a:Key)=Sum.inr b)=false:=decide_eq_false (λ q=>nomatch q)
theorem key_rl (a:Str) (b:Int):decide ((Sum.inr a:Key)=Sum.inl b)=false:=decide_eq_false (λ q=>nomatch q)
def ze0 (prog:[83]) (w:World):PySem.KeyKind prog w Key where
 is:=xb2
 hash:=keyH w
 inj:=λ v a b ha hb=>by
  rcases zc0 ha with ⟨i,t,rfl,rfl⟩ | ⟨x,t,rfl,rfl⟩
  ·rcases zc0 hb with ⟨j,u,rfl,e⟩ | ⟨y,u,rfl,e⟩
   ·injection e with e1 _; rw [e1]
   ·exact nomatch e
  ·rcases zc0 hb with ⟨j,u,rfl,e⟩ | ⟨y,u,rfl,e⟩
   ·exact nomatch e
   ·injection e with e1 _; rw [e1]
 byValue:=λ k v h=>by
  rcases zc0 h with ⟨i,t,rfl,rfl⟩ | ⟨x,t,rfl,rfl⟩ <;> rfl
 pyHash:=λ hv h=>by
  rcases zc0 hv with ⟨i,t,rfl,rfl⟩ | ⟨x,t,rfl,rfl⟩
  ·exact wpAny_pyHash_int h
  ·exact wpAny_pyHash_str h
 eqBool:=λ hu hv h=>by
  rcases zc0 hu with ⟨i,t,rfl,rfl⟩ | ⟨x,t,rfl,rfl⟩
  ·rcases zc0 hv with ⟨j,u,rfl,rfl⟩ | ⟨y,u,rfl,rfl⟩
   ·rw [key_ll] at h; exact wpAny_eqBool_int h
   ·rw [key_lr] at h; exact SeqAt.EqAt.int_str i t y u _ _ _ _ h
  ·rcases zc0 hv with ⟨j,u,rfl,rfl⟩ | ⟨y,u,rfl,rfl⟩
   ·rw [key_rl] at h; exact SeqAt.EqAt.str_int x t j u _ _ _ _ h
   ·rw [key_rr] at h; exact wpAny_eqBool_str h
 «strs» := λ k x t v h=>by
  rcases zc0 h with ⟨i,u,rfl,e⟩ | ⟨y,u,rfl,e⟩
  ·exact nomatch e
  ·injection e with e1 _
   subst e1;cases v <;> rfl
theorem zl1 (prog:[83]) (w:World) (i:Int) (t:Tok):(ze0 prog w).is (.inl i) (.int i t)=true:=xl2 i t
theorem yl1 (prog:[83]) (w:World) (x:Str) (t:Tok):(ze0 prog w).is (.inr x) (.str x t)=true:=sk2 x t
inductive V where
 | non | bl (b:Bool) | int (i:Int) | str (x:Str) | byt (b:Array UInt8) | flt (b:UInt64) | ref (a:Addr) | ty (n:String)
 deriving DecidableEq
def RelV:V->Value->Prop
 | .non,u=>u=Value.none
 | .bl b,u=>u=Value.bool b
 | .int i,u=>∃ t,u=Value.int i t
 | .str x,u=>∃ t,u=Value.str x t
 | .byt b,u=>∃ t,u=Value.bytes b t
 | .flt b,u=>∃ t,u=Value.float b t
 | .ref a,u=>u=Value.ref a
 | .ty n,u=>u=Value.type n
abbrev Vals:List V->List Value->Prop:=Paired RelV
theorem Vals.length {xs:List V} {us:[27]} (r:Vals xs us):xs.length=us.length:=Paired.length r
theorem Vals.get:∀ {xs:List V} {us:[27]} {i:Nat} {x:V},Vals xs us->xs[i]?=some x->∃ u,us[i]?=some u /\ RelV x u
 | _,_,_,_,.nil,e=>by simp at e
 | _,_,0,_,.cons r _,e=>by simp at e; subst e; exact ⟨_,rfl,r⟩
 | _,_,i + 1,x,.cons _ t,e=>by
  obtain ⟨u,h1,h2⟩:=Vals.get (i:=i) (x:=x) t (by simpa using e);exact ⟨u,by simpa using h1,h2⟩
theorem Vals.set {x:V} {u:Value} (r:RelV x u):∀ {xs:List V} {us:[27]} (i:Nat),Vals xs us->Vals (xs.set i x) (us.set i u)
 | _,_,_,.nil=>.nil
 | _,_,0,.cons _ t=>.cons r t
 | _,_,i + 1,.cons q t=>.cons q (Vals.set r i t)
theorem Vals.append:∀ {xs ys:List V} {us ws:[27]},Vals xs us->Vals ys ws->Vals (xs ++ ys) (us ++ ws)
 | _,_,_,_,.nil,s=>s
 | _,_,_,_,.cons r t,s=>.cons r (Vals.append t s)
theorem Vals.take:∀ {xs:List V} {us:[27]} (n:Nat),Vals xs us->Vals (xs.take n) (us.take n)
 | _,_,0,_=>.nil
 | _,_,_ + 1,.nil=>.nil
 | _,_,n + 1,.cons r t=>.cons r (Vals.take n t)
theorem Vals.drop:∀ {xs:List V} {us:[27]} (n:Nat),Vals xs us->Vals (xs.drop n) (us.drop n)
 | _,_,0,r=>r
 | _,_,_ + 1,.nil=>.nil
 | _,_,n + 1,.cons _ t=>Vals.drop n t
def RelO:Option V->Option Value->Prop
 | some v,some u=>RelV v u
 | none,none=>True
 | _,_=>False
def KV {κ:Type}:List (κ × V)->List (κ × Value)->Prop:=Paired λ (p:κ × V) (q:κ × Value)=>p.1=q.1 /\ RelV p.2 q.2
def kV:Key->V
 | .inl i=>.int i
 | .inr x=>.str x
inductive HO where
 | lst (xs:List V)
 | tup (xs:List V)
 | dK (kvs:List (Key × V)) | dT (kvs:List (List Key × V))
 | set (S:Int->Bool) (n:Nat)
 | ins (C dx:Addr) (fs:List (Str × V))
 | own (x:Addr)
 | xd (fs:List (Str × V))
 | met (f x:Addr)
 | rng (lo hi:Int)
 | frz (o:Obj) (u:HO)
 | tbl (ps:Array Value)
 | ext (φ:Heap->Prop)
abbrev Hp:=Addr->Option HO
def upd (H:Hp) (a:Addr) (o:HO):Hp:=λ b=>if b=a then some o else H b
variable {H:Hp}
theorem zb0 {a:Addr} {o:HO}:upd H a o a=some o:=by unfold upd; rw [if_pos rfl]
theorem va0 {a b:Addr} {o:HO} (h:b ≠ a):upd H a o b=H b:=by unfold upd; rw [if_neg h]
theorem xl1 {a b:Addr} {o u:HO} (h:H a=some o) (h':H b=some u) (d:o ≠ u):a ≠ b:=by
 intro e; subst e; rw [h] at h'; exact d (Option.some.inj h')
theorem ye0 {a b:Addr} {o:HO} (h:H a=some o) (h':H b=none):a ≠ b:=by
 intro e; subst e; rw [h] at h'; cases h'
section
variable (P:[83]) (w:World)
def ObjOk (H:Hp) (h:Heap) (a:Addr):HO->Prop
 | .lst xs=>xs.length<=sizeLine /\ ∃ (its:[27]) (n:Nat),Vals xs its /\ h.get? a=some [59]
 | .tup xs=>xs.length<=sizeLine /\ ∃ its:List Value,Vals xs its /\ IsTup h a its.toArray
 | .dK kvs=>kvs.length<=sizeLine /\ (a == sysModules)=false /\ ∃ vs,KV kvs vs /\ h.DictOf (ze0 P w) a vs
 | .dT kvs=>kvs.length<=sizeLine /\ (a == sysModules)=false /\ ∃ xs:List (List Key × Addr × Value),
     Paired (λ (p:List Key × V) (q:List Key × Addr × Value)=>p.1=q.1 /\ H q.2.1=some (.tup (p.1.map kV)) /\ RelV p.2 q.2.2) kvs xs ∧
     ∃ o es ep,h.get? a=some o /\ o.ExactDict /\ o.data=.dict es ep /\ es.toList=xs.map (entryOfKey (tupleKind (ze0 P w))) /\ (xs.map (·.1)).Nodup /\ ep=kvs.length
 | .set S n=>h.SetOf (intKind P w) a S n
 | .ins C dx fs=>H dx=some (.own a) /\ fs.length<=1000 /\ dx ≠ a /\ h.get? a=some (instObj C dx) ∧
     ∃ mA,h.Ns1 dx mA /\ (∀ f,RelO (fs.lookup f) (mA f)) /\ PySem.Within mA (fs.map (·.1))
 | .own _=>∃ o,h.get? a=some o
 | .xd fs=>∃ mA,h.Ns1 a mA /\ ∀ f,RelO (fs.lookup f) (mA f)
 | .rng lo hi=>∃ t u v,h.get? a=some [38]
 | .frz o u=>h.get? a=some o /\ ObjOk H h a u
 | .tbl ps=>h.get? a=some { cls:=.none,data:=.fields ps }
 | .met f x=>h.get? a=some (methodObj (.ref f) (.ref x))
 | .ext φ=>φ h /\ (∃ o,h.get? a=some o) /\ ∀ h1 h2:Heap,φ h1->(∀ o,h1.get? a=some o->h2.get? a=some o)->φ h2
def HOk (H:Hp) (h:Heap):Prop:=∀ a o,H a=some o->ObjOk P w H h a o
end
variable {H':Hp} {h h':Heap}
section
variable {P:[83]} {w:World} {a:Addr} {o:HO}
theorem ObjOk.lt (x:ObjOk P w H h a o):a < h.objs.size:=by
 cases o with
 | lst xs=>obtain ⟨_,_,_,_,e⟩:=x; exact Heap.lt_size e
 | tup xs=>obtain ⟨_,_,_,p⟩:=x; exact p.lt
 | dK kvs=>obtain ⟨_,_,_,_,o,_,_,e,_⟩:=x; exact Heap.lt_size e
 | dT kvs=>obtain ⟨_,_,_,_,o,_,_,e,_⟩:=x; exact Heap.lt_size e
 | set S n=>obtain ⟨o,_,_,_,e,_⟩:=x; exact Heap.lt_size e
 | ins C dx fs=>obtain ⟨_,_,_,e,_⟩:=x; exact Heap.lt_size e
 | own y=>obtain ⟨_,e⟩:=x; exact Heap.lt_size e
 | xd fs=>obtain ⟨_,⟨_,_,_,e,_⟩,_⟩:=x; exact Heap.lt_size e
 | rng lo hi=>obtain ⟨_,_,_,e⟩:=x; exact Heap.lt_size e
 | frz ob u=>obtain ⟨e,_⟩:=x; exact Heap.lt_size e
 | tbl ps=>exact Heap.lt_size (show h.get? a=some _ from x)
 | met f y=>exact Heap.lt_size (show h.get? a=some _ from x)
 | ext φ=>obtain ⟨_,⟨_,e⟩,_⟩:=x; exact Heap.lt_size e
theorem Paired.mapP {α β:Type} {F G:α->β->Prop}:∀ {l₁:List α} {l₂:List β},Paired F l₁ l₂->(∀ a b,F a b->G a b)->Paired G l₁ l₂
 | _,_,.nil,_=>.nil
 | _,_,.cons r t,f=>.cons (f _ _ r) (Paired.mapP t f)
theorem ObjOk.stay (x:ObjOk P w H h a o) (k:∀ b u,(b=a \/ H b=some (.own a))->h.get? b=some u->h'.get? b=some u)
    (ho:∀ b,H b=some (.own a)->H' b=some (.own a)) (ht:∀ b xs,H b=some (.tup xs)->H' b=some (.tup xs)):ObjOk P w H' h' a o:=by
 induction o with
 | lst xs=>obtain ⟨z,its,n,r,e⟩:=x; exact ⟨z,its,n,r,k _ _ (.inl rfl) e⟩
 | tup xs=>obtain ⟨z,its,r,ob,e,c⟩:=x; exact ⟨z,its,r,ob,k _ _ (.inl rfl) e,c⟩
 | dK kvs=>obtain ⟨z,y,vs,r,ob,es,ep,e,c⟩:=x; exact ⟨z,y,vs,r,ob,es,ep,k _ _ (.inl rfl) e,c⟩
 | dT kvs =>
  obtain ⟨z,y,xs,r,ob,es,ep,e,c⟩:=x;exact ⟨z,y,xs,Paired.mapP r λ p q z=>⟨z.1,ht _ _ z.2.1,z.2.2⟩,ob,es,ep,k _ _ (.inl rfl) e,c⟩
 | set S n=>obtain ⟨ob,es,ep,t,e,c⟩:=x; exact ⟨ob,es,ep,t,k _ _ (.inl rfl) e,c⟩
 | ins C dx fs =>
  obtain ⟨d,z,ne,e,mA,⟨od,es,ep,e2,c⟩,r⟩:=x;exact ⟨ho _ d,z,ne,k _ _ (.inl rfl) e,mA,⟨od,es,ep,k _ _ (.inr d) e2,c⟩,r⟩
 | own y=>obtain ⟨ob,e⟩:=x; exact ⟨ob,k _ _ (.inl rfl) e⟩
 | xd fs=>obtain ⟨mA,⟨od,es,ep,e,c⟩,r⟩:=x; exact ⟨mA,⟨od,es,ep,k _ _ (.inl rfl) e,c⟩,r⟩
 | rng lo hi=>obtain ⟨t,u,v,e⟩:=x; exact ⟨t,u,v,k _ _ (.inl rfl) e⟩
 | frz ob u ih=>obtain ⟨e,q⟩:=x; exact ⟨k _ _ (.inl rfl) e,ih q⟩
 | tbl ps =>
  have e:h.get? a=some { cls:=.none,data:=.fields ps }:=x;show h'.get? a=some { cls:=.none,data:=.fields ps };exact k a _ (.inl rfl) e
 | met f y =>
  have e:h.get? a=some (methodObj (.ref f) (.ref y)):=x;show h'.get? a=some (methodObj (.ref f) (.ref y));exact k a _ (.inl rfl) e
 | ext φ=>obtain ⟨p,⟨o,e⟩,st⟩:=x; exact ⟨st _ _ p λ o q=>k _ _ (.inl rfl) q,⟨o,k _ _ (.inl rfl) e⟩,st⟩
theorem HOk.lt (x:HOk P w H h) (e:H a=some o):a < h.objs.size:=(x a o e).lt
theorem HOk.fresh (x:HOk P w H h) (e:h.objs.size<=a):H a=none:=by
 cases q:H a with
 | none=>rfl
 | some u=>exact absurd (Nat.lt_of_lt_of_le (x.lt q) e) (Nat.lt_irrefl _)
theorem HOk.kept (x:HOk P w H h) (k:∀ b u,h.get? b=some u->h'.get? b=some u):HOk P w H h':=λ a o e =>
 (x a o e).stay (λ b u _ q=>k b u q) (λ _ q=>q) λ _ _ q=>q
theorem HOk.laid (x:HOk P w H h) (k:∀ b u,h.get? b=some u->h'.get? b=some u) (hp:h.objs.size<=a) (new:ObjOk P w (upd H a o) h' a o):HOk P w (upd H a o) h':=λ b u e=>by
 have hn:=x.fresh hp;by_cases hb:b=a
 ·subst hb; rw [zb0] at e; cases e; exact new
 ·rw [va0 hb] at e;exact (x b u e).stay (λ c v _ q=>k c v q) (λ c q=>by rw [va0 (ye0 q hn)]; exact q) λ c xs q=>by rw [va0 (ye0 q hn)]; exact q
end
def Rd (H:Hp) (a:Addr) (u:HO):Prop:=H a=some u \/ ∃ o,H a=some (.frz o u)
theorem Rd.ok {P:[83]} {w:World} {a:Addr} {u:HO} (r:Rd H a u) (x:HOk P w H h):ObjOk P w H h a u:=by
 rcases r with r | ⟨o,r⟩
 ·exact x a u r
 ·obtain ⟨_,q⟩:=x a _ r;exact q
def Mut:Option HO->Prop
 | some (.lst _)=>True
 | some (.dK _)=>True
 | some (.dT _)=>True
 | some (.set _ _)=>True
 | some (.ins _ _ _)=>True
 | some (.ext _)=>True
 | _=>False
section
variable {P:[83]} {w:World} {x e:Addr} {o':HO}
theorem HOk.write (ok:HOk P w H h) (mu:Mut (H x)) (he:e=x \/ H e=some (.own x)) (k:∀ b u,b ≠ e->h.get? b=some u->h'.get? b=some u) (heo:∃ u,h'.get? e=some u)
    (new:ObjOk P w (upd H x o') h' x o'):HOk P w (upd H x o') h':=λ b u q=>by
 have nown:∀ c y,H c=some (.own y)->c ≠ x:=λ c y r z=>by subst z; rw [r] at mu; exact mu
 have ntup:∀ c xs,H c=some (.tup xs)->c ≠ x:=λ c xs r z=>by subst z; rw [r] at mu; exact mu
 by_cases hb:b=x
 ·subst hb; rw [zb0] at q; cases q; exact new
 ·rw [va0 hb] at q;by_cases hbe:b=e
  ·have q':H b=some (.own x):=by
     rcases he with z | z
     ·exact absurd (hbe.trans z) hb
     ·rw [hbe]; exact z
   rw [q] at q'; cases q';obtain ⟨v,hv⟩:=heo;exact ⟨v,by rw [hbe]; exact hv⟩
  ·refine (ok b u q).stay (λ c v hc r=>k c v ?_ r) (λ c r=>by rw [va0 (nown c b r)]; exact r) λ c xs r=>by rw [va0 (ntup c xs r)]; exact r
   rcases hc with rfl | hc
   ·exact hbe
   ·rintro rfl;rcases he with z | z
    ·exact nown c b hc z
    ·rw [hc] at z; cases z; exact hb rfl
end
structure Un (fs ex:List Addr) (H H':Hp) (h h':Heap):Prop where
 keep:∀ b o,h.get? b=some o->H b=none->b ∉ fs->b ∉ ex->h'.get? b=some o
 slot:∀ b o,h.get? b=some o->H b=none->b ∈ fs->b ∉ ex->∃ sl,h'.get? b=some { o with slots:=sl }
 free:∀ b o,h.get? b=some o->H b=none->b ∉ ex->H' b=none
 there:∀ b o,h.get? b=some o->b ∉ ex->∃ o',h'.get? b=some o'
 tups:∀ b xs,H b=some (.tup xs)->H' b=some (.tup xs)
 frzs:∀ b o u,H b=some (.frz o u)->H' b=some (.frz o u)
 tbls:∀ b ps,H b=some (.tbl ps)->∃ more,H' b=some (.tbl (ps ++ more))
section
variable {fs fs' ex ex':List Addr} {H1 H2:Hp} {h1 h2:Heap} {a x e:Addr} {o:HO}
theorem Un.any (u:Un fs ex H H1 h h1) {b:Addr} {ob:Obj} (q:h.get? b=some ob) (n:H b=none) (hx:b ∉ ex):∃ sl,h1.get? b=some { ob with slots:=sl }:=by
 by_cases hb:b ∈ fs
 ·exact u.slot b ob q n hb hx
 ·exact ⟨ob.slots,u.keep b ob q n hb hx⟩
theorem Un.kept (k:∀ b u,h.get? b=some u->h'.get? b=some u):Un fs ex H H h h' :=
 ⟨λ b ob q _ _ _=>k b ob q,λ b ob q _ _ _=>⟨ob.slots,k b ob q⟩,λ _ _ _ n _=>n,λ b ob q _=>⟨ob,k b ob q⟩,λ _ _ q=>q,λ _ _ _ q=>q,λ _ ps q=>⟨#[],by rw [q]; simp⟩⟩
theorem Un.refl:Un fs ex H H h h:=Un.kept λ _ _ q=>q
theorem Un.laid (k:∀ b u,h.get? b=some u->h'.get? b=some u) (hp:h.objs.size<=a) (hn:H a=none):Un fs ex H (upd H a o) h h' where
 keep:=λ b u q _ _ _=>k b u q
 slot:=λ b u q _ _ _=>⟨u.slots,k b u q⟩
 free:=λ b u q n _=>by rw [va0 (Nat.ne_of_lt (Nat.lt_of_lt_of_le (Heap.lt_size q) hp))]; exact n
 there:=λ b u q _=>⟨u,k b u q⟩
 tups:=λ b xs q=>by rw [va0 (ye0 q hn)]; exact q
 frzs:=λ b u xs q=>by rw [va0 (ye0 q hn)]; exact q
 tbls:=λ b ps q=>⟨#[],by rw [va0 (ye0 q hn),q]; simp⟩
theorem Un.write (mu:Mut (H x)) (he:e=x \/ H e=some (.own x)) (k:∀ b u,b ≠ e->h.get? b=some u->h'.get? b=some u) (heo:∃ u,h'.get? e=some u):Un fs ex H (upd H x o) h h':=by
 have hx:∀ b,H b=none->b ≠ x:=λ b n z=>by subst z; rw [n] at mu; exact mu
 have hb:∀ b,H b=none->b ≠ e:=λ b n z=>by
  subst z;rcases he with r | r
  ·exact hx b n r
  ·rw [n] at r; cases r
 have hm:∀ b u,H b=some u->¬ Mut (some u)->b ≠ x:=λ b u q nm z=>by subst z; rw [q] at mu; exact nm mu
 refine ⟨λ b u q n _ _=>k b u (hb b n) q,λ b u q n _ _=>⟨u.slots,k b u (hb b n) q⟩,λ b u q n _=>by rw [va0 (hx b n)]; exact n,λ b u q _=>?_,
  λ b xs q=>by rw [va0 (hm b _ q λ z=>z)]; exact q,λ b u xs q=>by rw [va0 (hm b _ q λ z=>z)]; exact q,λ b ps q=>⟨#[],by rw [va0 (hm b _ q λ z=>z),q]; simp⟩⟩
 by_cases hbe:b=e
 ·subst hbe; exact heo
 ·exact ⟨u,k b u hbe q⟩
end
def trk (h:Heap) (H:Hp):List Addr:=(List.range h.objs.size).filter λ a=>(H a).isSome
def hidT (h:Heap) (H:Hp):Heap:=hideAll h (trk h H)
theorem zm2 (h:Heap) (H:Hp):(hidT h H).objs.size=h.objs.size:=PySem.W.hideAll_size _ _
theorem ub3 {b:Addr} {o:Obj} (e:h.get? b=some o) (n:H b=none):(hidT h H).get? b=some o :=
 hideAll_get _ e λ hm=>by
  have q:(H b).isSome=true:=(List.mem_filter.mp hm).2;rw [n] at q; simp at q
theorem wa4 {b:Addr} {o:Obj} (e:(hidT h H).get? b=some o):h.get? b=some o /\ H b=none:=by
 have e':h.get? b=some o:=of_hideAll (trk h H) e;refine ⟨e',?_⟩;cases q:H b with
 | none=>rfl
 | some x =>
  have hm:b ∈ trk h H:=List.mem_filter.mpr ⟨List.mem_range.mpr (Heap.lt_size e'),by simp [q]⟩;have z:(hidT h H).get? b=none:=PySem.W.hideAll_none (trk h H) hm;rw [z] at e; cases e
def zg4 (g h:Heap) (L:Addr):List (Addr × Obj):=(List.range h.objs.size).filterMap λ a=>if a=L \/ (g.get? a).isSome=true then none else (h.get? a).map λ o=>(a,o)
def rest (g h:Heap) (L d:Addr):List (Addr × Obj):=(zg4 g h L).filter λ p=>decide (p.1 ≠ d)
structure Mod (K:PySem.W.Frag) (mg:Str->Option Value) (base:Heap):Prop where
 kin:K.In base
 glob:base.Ns mainGlobals mg
 blt:∃ mb,base.Ns builtinsNs mb /\ ∀ x:Str,x ≠ "__name__" -> mb x=bootBuiltins x
 nolimit:base.NoLimit
structure Cx where
 prog:Program
 w:World
 K:PySem.W.Frag
 mg:Str->Option Value
 base:Heap
 A:Around
 N:List Str
 s₀:Shared
 H₀:Hp
 env:Env
 outer:List Env
 stack:List Env
 ex:List Addr
 fn:Str->Bool
 calm:Bool
 pn:List (Addr × Obj)
 xe:Value->Shared->Prop
def frs (l:List Env):List Addr:=l.filterMap (·.frame)
abbrev Cx.fs (X:Cx):List Addr:=frs X.outer
def Vis (sc:Scope) (x:Str):Prop:=sc.names.lookup x=some .local \/ sc.names.lookup x=some .cell \/ sc.names.lookup x=some .free
def Loc (sc:Scope) (x:Str):Prop:=sc.names.lookup x=some .local \/ sc.names.lookup x=some .cell
def Look (env:Env) (h:Heap) (m:[25]) (x:Str) (u:Value):Prop :=
 (env.kindOf x=some .local /\ m x=some u) \/ ((env.kindOf x=some .cell \/ env.kindOf x=some .free) /\ ∃ c,env.cells.lookup x=some c /\ h.IsCell c (some u))
structure Cx.Ok (X:Cx):Prop where
 mod:Mod X.K X.mg X.base
 kind:X.env.scope.kind=.function
 glob:X.env.globals=mainGlobals
 blt:X.env.builtins=builtinsNs
 above:X.s₀.heap.objs.size<=X.env.locals
 inj:∀ x y c,X.env.cells.lookup x=some c->X.env.cells.lookup y=some c->x=y
 has:∀ x,(X.env.kindOf x=some .cell \/ X.env.kindOf x=some .free)->∃ c,X.env.cells.lookup x=some c
 cab:∀ x c,X.fn x=true->X.env.cells.lookup x=some c->X.s₀.heap.objs.size<=c
 hd:X.calm=true->X.A.handled=none
 frames:X.A.frames=some X.stack
 stk:X.stack=X.outer \/ (X.stack=X.env :: X.outer /\ X.env.frame=some X.env.locals)
 exf:∀ b ∈ X.ex,b ≠ X.env.locals /\ ∀ x c,X.env.cells.lookup x=some c->c ≠ b
 bs:∀ b o,X.base.get? b=some o->X.s₀.heap.get? b=some o /\ X.H₀ b=none
 bsz:X.base.objs.size<=X.s₀.heap.objs.size
 noex:∀ b o,X.base.get? b=some o->b ∉ X.ex
 exfs:∀ b ∈ X.ex,b ∉ X.fs
 funs:X.s₀.heap.FunFrames X.base X.outer
 frf:∀ b ∈ X.fs,X.H₀ b=none
structure Inv (X:Cx) (pins:List (Addr × Obj)) (σ:List (Option V)) (H:Hp) (s:Shared):Prop where
 ok:X.Ok
 os:s.os=X.s₀.os
 bare:AllBare s.gens
 base:Un X.fs X.ex X.H₀ H X.s₀.heap s.heap
 loc:∃ m,s.heap.Ns X.env.locals m /\ ∀ (i:Nat) (x:Str) (v:V),X.N[i]?=some x->σ[i]?=some (some v)->Vis X.env.scope x->∃ u,RelV v u /\ Look X.env s.heap m x u
 cell:∀ x c,X.env.cells.lookup x=some c->∃ v,s.heap.IsCell c v
 free:H X.env.locals=none
 freeC:∀ x c,X.env.cells.lookup x=some c->H c=none
 pin:∀ p ∈ X.pn ++ pins,s.heap.get? p.1=some p.2 /\ H p.1=none /\ p.1 ≠ X.env.locals /\ p.1 ∉ X.fs /\ ∀ v,p.2.data ≠ .cell v
 hok:HOk X.prog X.w H s.heap
 len:σ.length=X.N.length
variable {X:Cx} {pins:[20]} {s s':[88]} {g':Array GenState} {t':Nat} {d':Drawn} {ch:List Addr} {it:Addr} {N:[29]} {M:Model} {A:Around}
section
variable {σ:List (Option V)} 
theorem Cx.Ok.nofr (ok:X.Ok) {b:Addr} {o:Obj} (e:X.base.get? b=some o):b ∉ X.fs:=λ hb=>by
 have:=(ok.funs.mem hb).1;rw [e] at this; cases this
theorem Inv.bs (I:[10]):∀ b o,X.base.get? b=some o->s.heap.get? b=some o /\ H b=none:=λ b o e =>
 ⟨I.base.keep b o (I.ok.bs b o e).1 (I.ok.bs b o e).2 (I.ok.nofr e) (I.ok.noex b o e),I.base.free b o (I.ok.bs b o e).1 (I.ok.bs b o e).2 (I.ok.noex b o e)⟩
theorem Inv.bk (I:[10]):∀ b o,X.base.get? b=some o->s.heap.get? b=some o:=λ b o e=>(I.bs b o e).1
theorem Inv.mod (I:[10]):Mod X.K X.mg X.base:=I.ok.mod
theorem Inv.kIn (I:[10]):X.K.In s.heap:=I.ok.mod.kin.keeps I.bk
theorem Inv.lt (I:[10]):X.env.locals < s.heap.objs.size:=let ⟨_,hn,_⟩:=I.loc; hn.lt
theorem Inv.sz (I:[10]):X.s₀.heap.objs.size<=s.heap.objs.size:=Nat.le_trans I.ok.above (Nat.le_of_lt I.lt)
theorem Inv.nofs (I:[10]) {a:Addr} (h:s.heap.objs.size<=a):a ∉ X.fs:=λ hb=>by
 obtain ⟨_,o,ho,_⟩:=I.ok.funs.mem hb;exact absurd (Nat.lt_of_lt_of_le (Heap.lt_size ho) (Nat.le_trans I.sz h)) (Nat.lt_irrefl _)
theorem Inv.cne (I:[10]):∀ x c,X.env.cells.lookup x=some c->c ≠ X.env.locals:=λ x c e z=>by
 obtain ⟨v,o,ho,hd⟩:=I.cell x c e;obtain ⟨m,⟨o',es,ep,ho',hd',_⟩,_⟩:=I.loc;rw [z,ho'] at ho; cases ho; rw [hd'] at hd; cases hd
theorem Inv.funs (I:[10]):s.heap.FunFrames X.base X.outer:=by
 have all:∀ (l:List Env),(∀ b ∈ frs l,b ∈ X.fs)->X.s₀.heap.FunFrames X.base l->s.heap.FunFrames X.base l:=by
  intro l
  induction l with
  | nil=>intro _ _; trivial
  | cons env r ih =>
   intro hs hl;obtain ⟨hk,⟨L,o,hf,hn,ho,hd⟩,hr⟩:=hl;have hL:L ∈ X.fs:=hs L (by unfold frs; rw [filterMap_cons,hf]; exact mem_cons_self);obtain ⟨sl,e⟩:=I.base.slot L o ho (I.ok.frf L hL) hL λ z=>I.ok.exfs L z hL;exact ⟨hk,⟨L,_,hf,hn,e,hd⟩,ih (λ b hb=>hs b (by unfold frs; rw [filterMap_cons,hf]; exact mem_cons_of_mem _ hb)) hr⟩
 exact all X.outer (λ _ hb=>hb) I.ok.funs
theorem Inv.stack (I:[10]):s.heap.FunFrames X.base X.stack:=by
 rcases I.ok.stk with e | ⟨e,hf⟩
 ·rw [e]; exact I.funs
 ·rw [e];obtain ⟨m,hn,_⟩:=I.loc;refine .cons (by rw [I.ok.kind]; decide) hf hn ?_ I.funs;exact Heap.get?_none_of_le (Nat.le_trans I.ok.bsz I.ok.above)
theorem Inv.stkSub (I:[10]):∀ b ∈ frs X.stack,b ∈ X.env.locals :: X.fs:=λ b hb=>by
 rcases I.ok.stk with e | ⟨e,hf⟩
 ·rw [e] at hb; exact mem_cons_of_mem _ hb
 ·rw [e] at hb;unfold frs at hb;rw [filterMap_cons,hf] at hb;exact hb
theorem Inv.stkFree (I:[10]):∀ b ∈ frs X.stack,H b=none:=λ b hb=>by
 rcases List.mem_cons.mp (I.stkSub b hb) with e | hb
 ·rw [e]; exact I.free
 ·obtain ⟨_,o,ho,_⟩:=I.ok.funs.mem hb;exact I.base.free b o ho (I.ok.frf b hb) λ z=>I.ok.exfs b z hb
theorem Inv.step (I:[10])
    (hch:[40])
    (keep:∀ b o,b ≠ X.env.locals->b ∉ X.fs->b ∉ ch->s.heap.get? b=some o->H b=none->h'.get? b=some o)
    (slot:∀ b o,b ≠ X.env.locals->b ∈ X.fs->b ∉ ch->s.heap.get? b=some o->H b=none->∃ sl,h'.get? b=some { o with slots:=sl }) (free:∀ b o,b ∉ ch->s.heap.get? b=some o->H b=none->H' b=none)
    (there:∀ b o,b ∉ ch->s.heap.get? b=some o->∃ o',h'.get? b=some o')
    (tups:∀ b xs,H b=some (.tup xs)->H' b=some (.tup xs)) (frzs:∀ b o u,H b=some (.frz o u)->H' b=some (.frz o u)) (tbls:∀ b ps,H b=some (.tbl ps)->∃ more,H' b=some (.tbl (ps ++ more)))
    (ns:∀ m,s.heap.Ns X.env.locals m->h'.Ns X.env.locals m) (hok:HOk X.prog X.w H' h') (hg:AllBare g') :
    Inv X pins σ H' { s with heap:=h',gens:=g',drawn:=d',toks:=t' }:=by
 have neL:∀ b o,X.s₀.heap.get? b=some o->b ≠ X.env.locals:=λ b o e=>Nat.ne_of_lt (Nat.lt_of_lt_of_le [102] I.ok.above)
 have neC:∀ b o,X.s₀.heap.get? b=some o->b ∉ X.ex->b ∉ ch:=λ b o e hx hb=>by
  rcases (hch b hb).1 with z | z
  ·exact hx z
  ·exact absurd (Nat.lt_of_lt_of_le [102] z) (Nat.lt_irrefl _)
 have cellK:∀ x c,X.env.cells.lookup x=some c->∀ v,s.heap.IsCell c v->h'.IsCell c v:=λ x c e v ⟨o,ho,hd⟩=>by
  have nch:c ∉ ch:=λ z=>(hch c z).2.2.1 x c e rfl;by_cases hc:c ∈ X.fs
  ·obtain ⟨sl,q⟩:=slot c o (I.cne x c e) hc nch ho (I.freeC x c e);exact ⟨_,q,hd⟩
  ·exact ⟨o,keep c o (I.cne x c e) hc nch ho (I.freeC x c e),hd⟩
 refine ⟨I.ok,I.os,hg,⟨λ b o e n hb hx=>?_,λ b o e n hb hx=>?_,λ b o e n hx=>?_,λ b o e hx=>?_,λ b xs e=>tups b xs (I.base.tups b xs e),λ b o xs e=>frzs b o xs (I.base.frzs b o xs e),λ b ps e=>?_⟩,?_,λ x c e=>?_,?_,λ x c e=>?_,λ p hp=>?_,hok,I.len⟩
 ·exact keep b o (neL b o e) hb (neC b o e hx) (I.base.keep b o e n hb hx) (I.base.free b o e n hx)
 ·obtain ⟨sl,e1⟩:=I.base.slot b o e n hb hx;obtain ⟨sl',e2⟩:=slot b _ (neL b o e) hb (neC b o e hx) e1 (I.base.free b o e n hx);exact ⟨sl',e2⟩
 ·obtain ⟨o',e1⟩:=I.base.there b o e hx;exact free b o' (neC b o e hx) e1 (I.base.free b o e n hx)
 ·obtain ⟨o',e1⟩:=I.base.there b o e hx;exact there b o' (neC b o e hx) e1
 ·obtain ⟨m1,e1⟩:=I.base.tbls b ps e;obtain ⟨m2,e2⟩:=tbls b _ e1;exact ⟨m1 ++ m2,by rw [e2,Array.append_assoc]⟩
 ·obtain ⟨m,hn,hl⟩:=I.loc;refine ⟨m,ns m hn,λ i x v e1 e2 e3=>?_⟩;obtain ⟨u,r,l⟩:=hl i x v e1 e2 e3;refine ⟨u,r,?_⟩;rcases l with l | ⟨k,c,e,z⟩
  ·exact .inl l
  ·exact .inr ⟨k,c,e,cellK x c e _ z⟩
 ·obtain ⟨v,z⟩:=I.cell x c e;exact ⟨v,cellK x c e v z⟩
 ·obtain ⟨m,⟨o,_,_,ho,_⟩,_⟩:=I.loc;exact free _ o (λ z=>(hch _ z).2.1 rfl) ho I.free
 ·obtain ⟨v,o,ho,hd⟩:=I.cell x c e;exact free c o (λ z=>(hch c z).2.2.1 x c e rfl) ho (I.freeC x c e)
 ·obtain ⟨e,n,ne,nf,d⟩:=I.pin p hp;have nch:p.1 ∉ ch:=λ z=>(hch p.1 z).2.2.2 p hp rfl;exact ⟨keep p.1 p.2 ne nf nch e n,free p.1 p.2 nch e n,ne,nf,d⟩
theorem Inv.un (I:[10]) (u:Un X.fs [] H H' s.heap h') (hok:HOk X.prog X.w H' h'):Inv X pins σ H' { s with heap:=h',toks:=t' }:=by
 obtain ⟨m,⟨o,es,ep,ho,r⟩,_⟩:=id I.loc;obtain ⟨sl,hL⟩:=u.any ho I.free [18]
 exact I.step (g':=s.gens) (d':=s.drawn) (ch:=[]) (λ _ z=>nomatch z) (λ b o _ hb _ e n=>u.keep b o e n hb [18]) (λ b o _ hb _ e n=>u.slot b o e n hb [18]) (λ b o _ e n=>u.free b o e n [18]) (λ b o _ e=>u.there b o e [18]) u.tups u.frzs u.tbls (λ m' hm=>by
  obtain ⟨o',es',ep',ho',r'⟩:=hm;rw [ho] at ho'; cases ho';exact ⟨_,es',ep',hL,r'⟩) hok I.bare
theorem Inv.call (I:[10]) (u:Un (frs X.stack) ch H H' s.heap h') (hok:HOk X.prog X.w H' h') (hg:AllBare g')
    (hch:[40]) :
    Inv X pins σ H' { s with heap:=h',gens:=g',drawn:=d',toks:=t' }:=by
 obtain ⟨m,⟨o,es,ep,ho,r⟩,_⟩:=id I.loc;obtain ⟨sl,hL⟩:=u.any ho I.free λ z=>(hch _ z).2.1 rfl
 exact I.step (ch:=ch) hch (λ b o hL hb hc e n=>u.keep b o e n (λ z=>(List.mem_cons.mp (I.stkSub b z)).elim hL hb) hc) (λ b o _ _ hc e n=>u.any e n hc) (λ b o hc e n=>u.free b o e n hc) (λ b o hc e=>u.there b o e hc) u.tups u.frzs u.tbls (λ m' hm=>by
  obtain ⟨o',es',ep',ho',r'⟩:=hm;rw [ho] at ho'; cases ho';exact ⟨_,es',ep',hL,r'⟩) hok hg
theorem Inv.turned (I:[10]) (k:∀ b o,b ≠ it->s.heap.get? b=some o->h'.get? b=some o) (hn:H it=none) (hL:it ≠ X.env.locals)
    (h1:it ∈ X.ex \/ X.s₀.heap.objs.size<=it) (h2:∀ x c,X.env.cells.lookup x=some c->c ≠ it) (h3:∀ p ∈ X.pn ++ pins,p.1 ≠ it):Inv X pins σ H { s with heap:=h',toks:=t' }:=by
 have nit:∀ b u,H b=some u->b ≠ it:=λ b u e z=>by rw [z,hn] at e; cases e
 refine I.step (g':=s.gens) (d':=s.drawn) (ch:=[it]) (λ b hb=>?_) (λ b o _ _ hc e _=>k b o (λ z=>hc (by simp [z])) e) (λ b o _ _ hc e _=>⟨o.slots,k b o (λ z=>hc (by simp [z])) e⟩) (λ _ _ _ _ n=>n)
  (λ b o hc e=>⟨o,k b o (λ z=>hc (by simp [z])) e⟩) (λ _ _ e=>e) (λ _ _ _ e=>e) (λ b ps e=>⟨#[],by rw [e]; simp⟩) (λ m hm=>?_) (λ b u e=>?_) I.bare
 ·have e:b=it:=by simpa using hb
  subst e;exact ⟨h1,hL,h2,h3⟩
 ·obtain ⟨o,es,ep,ho,r⟩:=hm;exact ⟨o,es,ep,k _ o (Ne.symm hL) ho,r⟩
 ·refine (I.hok b u e).stay (λ c v hc q=>k c v ?_ q) (λ _ q=>q) λ _ _ q=>q;rcases hc with z | z
  ·rw [z]; exact nit b u e
  ·exact nit c _ z
theorem Inv.tok (I:[10]) (t:Nat):Inv X pins σ H { s with toks:=t }:=I.un (h':=s.heap) (t':=t) Un.refl I.hok
theorem Inv.kept {t':Nat} (I:[10]) (k:∀ b u,s.heap.get? b=some u->h'.get? b=some u):Inv X pins σ H { s with heap:=h',toks:=t' }:=I.un (Un.kept k) (I.hok.kept k)
theorem Inv.laid {a:Addr} {o:HO} {t':Nat} (I:[10]) (k:∀ b u,s.heap.get? b=some u->h'.get? b=some u) (hp:s.heap.objs.size<=a) (new:ObjOk X.prog X.w (upd H a o) h' a o) :
    Inv X pins σ (upd H a o) { s with heap:=h',toks:=t' }:=I.un (Un.laid k hp (I.hok.fresh hp)) (I.hok.laid k hp new)
theorem Inv.write {x e:Addr} {o:HO} {t':Nat} (I:[10]) (mu:Mut (H x)) (he:e=x \/ H e=some (.own x)) (k:∀ b u,b ≠ e->s.heap.get? b=some u->h'.get? b=some u) (heo:∃ u,h'.get? e=some u)
    (new:ObjOk X.prog X.w (upd H x o) h' x o):Inv X pins σ (upd H x o) { s with heap:=h',toks:=t' }:=I.un (Un.write mu he k heo) (I.hok.write mu he k heo new)
theorem Inv.pins_of {pins':[20]} (I:[10]) (h:∀ p ∈ pins',s.heap.get? p.1=some p.2 /\ H p.1=none /\ p.1 ≠ X.env.locals /\ p.1 ∉ X.fs /\ ∀ v,p.2.data ≠ .cell v):Inv X pins' σ H s :=
 ⟨I.ok,I.os,I.bare,I.base,I.loc,I.cell,I.free,I.freeC,λ p hp=>(List.mem_append.mp hp).elim (λ z=>I.pin p (List.mem_append_left _ z)) (h p),I.hok,I.len⟩
theorem vq1 (hN:N.Nodup) {i j:Nat} {x:Str} (a:N[i]?=some x) (b:N[j]?=some x):i=j:=by
 obtain ⟨h1,e1⟩:=List.getElem?_eq_some_iff.mp a;obtain ⟨h2,e2⟩:=List.getElem?_eq_some_iff.mp b;exact (List.getElem_inj hN).mp (e1.trans e2.symm)
theorem ue1 {E:[9]} {i:Nat} {x:Str} {v:V} {u:Value} {Q:Unit->Shared->Prop} (I:[10]) (hN:X.N.Nodup) (hi:X.N[i]?=some x) (hx:Loc X.env.scope x) (r:RelV v u)
    (h:∀ s',Inv X pins (σ.set i (some v)) H s'->(∃ a,Heap.SameBut a s.heap s'.heap /\ (a=X.env.locals \/ X.env.cells.lookup x=some a))->Q () s') (hf:X.fn x=true \/ X.env.scope.names.lookup x=some .local:=by first | exact .inl rfl | exact .inr rfl | assumption):wpAny M A (storeName X.env x u) Q E s:=by
 obtain ⟨m,hn,hl⟩:=id I.loc;have hcls:(X.env.scope.kind == .class || (X.env.scope.kind == .module && X.env.locals != X.env.globals))=false:=by rw [I.ok.kind]; rfl
 have hiσ:i < σ.length:=by rw [I.len]; exact (List.getElem?_eq_some_iff.mp hi).1
 have cne:=I.cne
 have tracked:∀ {a:Addr} {h':Heap},(∃ o,s.heap.get? a=some o /\ H a=none)->Heap.SameBut a s.heap h'->HOk X.prog X.w H h':=λ {a h'} ha hs b ob e=>by
  obtain ⟨_,_,hfree⟩:=ha;refine (I.hok b ob e).stay (λ c w' hc q=>(hs.2 c ?_).trans q) (λ _ q=>q) λ _ _ q=>q;rintro rfl;rcases hc with rfl | hc
  ·rw [hfree] at e; cases e
  ·rw [hfree] at hc; cases hc
 rcases hx with hk | hk
 ·refine wpAny_storeName_local hk hn (λ h' hn' hs=>?_) hcls;obtain ⟨oL,_,_,hoL,_⟩:=id hn;refine h _ ⟨I.ok,I.os,I.bare,⟨λ b o e n hb hx=>?_,λ b o e n hb hx=>?_,I.base.free,λ b o e hx=>?_,I.base.tups,I.base.frzs,I.base.tbls⟩,⟨_,hn',λ j y v' e1 e2 e3=>?_⟩,λ y c e=>?_,I.free,I.freeC,λ p hp=>?_,tracked ⟨oL,hoL,I.free⟩ hs,by simpa using I.len⟩ ⟨_,hs,.inl rfl⟩
  ·exact (hs.2 b (Nat.ne_of_lt (Nat.lt_of_lt_of_le [102] I.ok.above))).trans (I.base.keep b o e n hb hx)
  ·obtain ⟨sl,e1⟩:=I.base.slot b o e n hb hx;exact ⟨sl,(hs.2 b (Nat.ne_of_lt (Nat.lt_of_lt_of_le [102] I.ok.above))).trans e1⟩
  ·obtain ⟨o',e1⟩:=I.base.there b o e hx;exact ⟨o',(hs.2 b (Nat.ne_of_lt (Nat.lt_of_lt_of_le [102] I.ok.above))).trans e1⟩
  ·by_cases hj:j=i
   ·subst hj;rw [hi] at e1; cases e1;rw [List.getElem?_set_self hiσ] at e2;cases e2;exact ⟨u,r,.inl ⟨hk,by simp⟩⟩
   ·rw [List.getElem?_set_ne (Ne.symm hj)] at e2;obtain ⟨u',r',q⟩:=hl j y v' e1 e2 e3;refine ⟨u',r',?_⟩;rcases q with ⟨k,e⟩ | ⟨k,c,e,z⟩
    ·refine .inl ⟨k,?_⟩;have:y ≠ x:=λ e=>hj (vq1 hN e1 (e ▸ hi));simp [this,e]
    ·exact .inr ⟨k,c,e,z.sameBut hs (cne y c e)⟩
  ·obtain ⟨w',z⟩:=I.cell y c e;exact ⟨w',z.sameBut hs (cne y c e)⟩
  ·obtain ⟨e,n,ne,nf,d⟩:=I.pin p hp;exact ⟨(hs.2 p.1 ne).trans e,n,ne,nf,d⟩
 ·have hfn:X.fn x=true:=by
    rcases hf with z | z
    ·exact z
    ·rw [z] at hk; cases hk
  obtain ⟨c,hc⟩:=I.ok.has x (.inl hk);obtain ⟨w',z⟩:=I.cell x c hc;refine wpAny_storeName_cell I.ok.kind hk hc z (λ h' hc' hs=>?_);obtain ⟨oc,hoc,hocd⟩:=id z;refine h [96] ⟨I.ok,I.os,I.bare,⟨λ b o e n hb hx=>?_,λ b o e n hb hx=>?_,I.base.free,λ b o e hx=>?_,I.base.tups,I.base.frzs,I.base.tbls⟩,⟨m,hn.sameBut hs (Ne.symm (cne x c hc)),λ j y v' e1 e2 e3=>?_⟩,λ y c' e=>?_,I.free,I.freeC,λ p hp=>?_,tracked ⟨oc,hoc,I.freeC x c hc⟩ hs,by simpa using I.len⟩ ⟨c,hs,.inr hc⟩
  ·exact (hs.2 b (Nat.ne_of_lt (Nat.lt_of_lt_of_le [102] (I.ok.cab x c hfn hc)))).trans (I.base.keep b o e n hb hx)
  ·obtain ⟨sl,e1⟩:=I.base.slot b o e n hb hx;exact ⟨sl,(hs.2 b (Nat.ne_of_lt (Nat.lt_of_lt_of_le [102] (I.ok.cab x c hfn hc)))).trans e1⟩
  ·obtain ⟨o',e1⟩:=I.base.there b o e hx;exact ⟨o',(hs.2 b (Nat.ne_of_lt (Nat.lt_of_lt_of_le [102] (I.ok.cab x c hfn hc)))).trans e1⟩
  ·by_cases hj:j=i
   ·subst hj;rw [hi] at e1; cases e1;rw [List.getElem?_set_self hiσ] at e2;cases e2;exact ⟨u,r,.inr ⟨.inl hk,c,hc,hc'⟩⟩
   ·rw [List.getElem?_set_ne (Ne.symm hj)] at e2;obtain ⟨u',r',q⟩:=hl j y v' e1 e2 e3;refine ⟨u',r',?_⟩;rcases q with q | ⟨k,c',e,z'⟩
    ·exact .inl q
    ·refine .inr ⟨k,c',e,z'.sameBut hs ?_⟩;rintro rfl;exact hj (vq1 hN e1 (I.ok.inj _ _ _ e hc ▸ hi))
  ·by_cases hcc:c'=c
   ·subst hcc; exact ⟨_,hc'⟩
   ·obtain ⟨w2,z2⟩:=I.cell y c' e;exact ⟨w2,z2.sameBut hs hcc⟩
  ·obtain ⟨e,n,ne,nf,d⟩:=I.pin p hp;refine ⟨(hs.2 p.1 ?_).trans e,n,ne,nf,d⟩;intro q;rw [q,hoc] at e;have q':oc=p.2:=Option.some.inj e;exact d w' (by rw [<- q']; exact hocd)
theorem yz0 {E:[9]} {i:Nat} {x:Str} {v:V} {u:Value} {Q:Unit->Shared->Prop} (I:[10]) (hN:X.N.Nodup) (hi:X.N[i]?=some x) (hx:Loc X.env.scope x) (r:RelV v u)
    (h:∀ s',Inv X pins (σ.set i (some v)) H s'->Q () s') (hf:X.fn x=true \/ X.env.scope.names.lookup x=some .local:=by first | exact .inl rfl | exact .inr rfl | assumption):wpAny M A (storeName X.env x u) Q E s :=
 ue1 I hN hi hx r (λ s' I' _=>h s' I') hf
theorem Inv.call' (I:[10]) (ho:s'.os=s.os) (u:Un (frs X.stack) ch H H' s.heap s'.heap) (hok:HOk X.prog X.w H' s'.heap) (hg:AllBare s'.gens)
    (hch:[40]):Inv X pins σ H' s':=by
 obtain ⟨h',g',d',t',o'⟩:=s';have e:o'=s.os:=ho;subst e;exact I.call (g':=g') (t':=t') (d':=d') u hok hg hch
end
abbrev XK:=Value->Option Addr->Hp->Prop
abbrev St:=List (Option V)
abbrev VK:=V->Hp->Prop
abbrev TE:=St->Hp->VK->Prop
abbrev TT:=St->Hp->(Bool->Hp->Prop)->Prop
abbrev TA:=St->Hp->(List V->Hp->Prop)->Prop
structure Ends where
 nx:St->Hp->Prop
 rt:VK
 bk:St->Hp->Prop:=λ _ _=>False
 ct:St->Hp->Prop:=λ _ _=>False
abbrev TS:=Ends->St->Hp->Prop
def EP (X:Cx) (pins:[20]) (σ:St) (Q:VK) (u:Value) (s':[88]):Prop:=∃ v H',Inv X pins σ H' s' /\ RelV v u /\ Q v H'
def TP (X:Cx) (pins:[20]) (σ:St) (Q:Bool->Hp->Prop) (b:Bool) (s':[88]):Prop:=∃ H',Inv X pins σ H' s' /\ Q b H'
def AP (X:Cx) (pins:[20]) (σ:St) (Q:List V->Hp->Prop) (us:[27]) (s':[88]):Prop:=∃ vs H',Inv X pins σ H' s' /\ Vals vs us /\ Q vs H'
def SP (X:Cx) (pins:[20]) (D:Ends) (f:Flow) (s':[88]):Prop :=
 match f with
 | .next=>∃ σ' H',Inv X pins σ' H' s' /\ D.nx σ' H'
 | .brk=>∃ σ' H',Inv X pins σ' H' s' /\ D.bk σ' H'
 | .cont=>∃ σ' H',Inv X pins σ' H' s' /\ D.ct σ' H'
 | .ret u=>∃ v σ' H',Inv X pins σ' H' s' /\ RelV v u /\ D.rt v H'
def PE (X:Cx) (e:Expr) (t:TE):Prop :=
 ∀ (pins:[20]) (s:[88]) (σ:St) (H:Hp) (Q:VK),Inv X pins σ H s->t σ H Q->wpAny [11] X.A (eval e X.env) (EP X pins σ Q) X.xe s
def PT (X:Cx) (e:Expr) (t:TT):Prop :=
 ∀ (pins:[20]) (s:[88]) (σ:St) (H:Hp) (Q:Bool->Hp->Prop),Inv X pins σ H s->t σ H Q->wpAny [11] X.A (isTrue e X.env (eval e X.env)) (TP X pins σ Q) X.xe s
def PW (X:Cx) (e:Expr) (t:TT):Prop :=
 ∀ (whole:Sem Value) (pins:[20]) (s:[88]) (σ:St) (H:Hp) (Q:Bool->Hp->Prop),Inv X pins σ H s->t σ H Q->wpAny [11] X.A (isTrue e X.env whole) (TP X pins σ Q) X.xe s
theorem PW.pt {e:Expr} {t:TT} (h:PW X e t):PT X e t:=h _
def PA (X:Cx) (es:List Expr) (t:TA):Prop :=
 ∀ (pos:Pos) (pins:[20]) (s:[88]) (σ:St) (H:Hp) (Q:List V->Hp->Prop),Inv X pins σ H s->t σ H Q->wpAny [11] X.A (spliced [71]) (AP X pins σ Q) X.xe s
def PS (X:Cx) (st:Stmt) (t:TS):Prop :=
 ∀ (pins:[20]) (s:[88]) (σ:St) (H:Hp) (D:Ends),Inv X pins σ H s->t D σ H->wpAny [11] X.A (exec st X.env) (SP X pins D) X.xe s
def PSs (X:Cx) (st:List Stmt) (t:TS):Prop :=
 ∀ (pins:[20]) (s:[88]) (σ:St) (H:Hp) (D:Ends),Inv X pins σ H s->t D σ H->wpAny [11] X.A (execs st X.env) (SP X pins D) X.xe s
theorem thn {α:Type} {t:Sem α} {Q Q':α->Shared->Prop} {E:[9]} (h:wpAny M A t Q E s) (hQ:∀ a s,Q a s->Q' a s):wpAny M A t Q' E s:=wpAny_mono h hQ λ _ _ x=>x
variable {Q:[9]} {ta tb:TE}
section
def tVar (i:Nat):TE:=λ σ H Q=>∃ v,σ[i]?=some (some v) /\ Q v H
def tC (v:V):TE:=λ _ H Q=>Q v H
theorem vk3 {i:Nat} {x:Str} {pos:Pos} (hN:X.N[i]?=some x) (hv:Vis X.env.scope x) (hd:[17]=false:=by decide) (hcd:(x == ("__classdict__" : Str))=false:=by decide):PE X (.Name x pos) (tVar i):=by
 intro pins s σ H Q I h;obtain ⟨v,e,h⟩:=h;obtain ⟨m,hn,hl⟩:=I.loc;obtain ⟨u,r,l⟩:=hl i x v hN e hv;have fin:EP X pins σ Q u s:=⟨v,H,I,r,h⟩;rcases l with ⟨hk,hm⟩ | ⟨hk,c,hc,hcell⟩
 ·exact wpAny_Name (wpAny_loadName_local I.ok.kind hk hn hm fin) hd
 ·rcases hk with hk | hk
  ·exact wpAny_Name (wpAny_loadName_cell I.ok.kind hk hc hcell fin) hd
  ·exact wpAny_Name (wpAny_loadName_free I.ok.kind hk hc hcell fin hcd) hd
theorem si5 {i j pos}:PE X (.Constant (.int i) j pos) (tC (.int i)):=λ _ _ _ H _ I h=>wpAny_Constant_int ⟨.int i,H,I.tok _,⟨_,rfl⟩,h⟩
theorem pe_bl {b j pos}:PE X (.Constant (.bool b) j pos) (tC (.bl b)):=λ _ _ _ H _ I h=>Constant_bool ⟨.bl b,H,I,rfl,h⟩
theorem vi5 {j pos}:PE X (.Constant .none j pos) (tC .non):=λ _ _ _ H _ I h=>Constant_none ⟨.non,H,I,rfl,h⟩
theorem zi5 {x j pos}:PE X (.Constant (.str x) j pos) (tC (.str x)):=λ _ _ _ H _ I h=>Calls.Constant_str ⟨.str x,H,I.tok _,⟨_,rfl⟩,h⟩
def Gl (X:Cx) (x:Str):Prop:=X.env.kindOf x=some .globalImplicit
theorem xf0 {E:[9]} {σ:St} {x:Str} {u:Value} {pos:Pos} (I:[10]) (hg:Gl X x) (hm:X.mg x=some u) (h:Q u s)
    (hd:[17]=false:=by decide):wpAny [11] X.A (eval (.Name x pos) X.env) Q E s :=
 Calls.Name_function_global I.ok.kind hg (Calls.loadGlobal_global (by rw [I.ok.glob]; exact I.mod.glob.keeps I.bk) hm h) hd
theorem ul0 {E:[9]} {σ:St} {x:Str} {u:Value} {pos:Pos} (I:[10]) (hg:Gl X x) (hm:X.mg x=none) (hv:bootBuiltins x=some u) (h:Q u s)
    (hn:x ≠ "__name__" := by decide) (hd:[17]=false:=by decide):wpAny [11] X.A (eval (.Name x pos) X.env) Q E s:=by
 obtain ⟨mb,h1,h2⟩:=I.mod.blt;exact Calls.Name_function_global I.ok.kind hg (Calls.loadGlobal_builtin (by rw [I.ok.glob]; exact I.mod.glob.keeps I.bk) hm (by rw [I.ok.blt]; exact h1.keeps I.bk) ((h2 x hn).trans hv) h) hd
theorem ty3 {x:Str} {v:V} {u:Value} {pos:Pos} (hg:Gl X x) (hm:X.mg x=some u) (r:RelV v u) (hd:[17]=false:=by decide):PE X (.Name x pos) (tC v) :=
 λ _ _ _ H _ I h=>xf0 I hg hm ⟨v,H,I,r,h⟩ hd
theorem zz3 {x:Str} {v:V} {u:Value} {pos:Pos} (hg:Gl X x) (hm:X.mg x=none) (hv:bootBuiltins x=some u) (r:RelV v u) (hn:x ≠ "__name__" := by decide) (hd:[17]=false:=by decide):PE X (.Name x pos) (tC v) :=
 λ _ _ _ H _ I h=>ul0 I hg hm hv ⟨v,H,I,r,h⟩ hn hd
variable {a b:Expr} {pos:Pos}
def PC (X:Cx) (op:CmpOp) (a b:Expr) (t:TE):Prop :=
 ∀ (pins:[20]) (s:[88]) (σ:St) (H:Hp) (Q:VK),Inv X pins σ H s->t σ H Q ->
  wpAny [11] X.A (eval a X.env) (λ v s₁=>wpAny [11] X.A (eval b X.env) (λ u s₂=>wpAny [11] X.A (compareOp op v u) (EP X pins σ Q) X.xe s₂) X.xe s₁) X.xe s
theorem ty2 (b:Expr) {op:CmpOp} (h:op ≠ .In) (h2:op ≠ .NotIn):behindInMarks op b=false:=by
 have e1:(op == CmpOp.In)=false:=by cases op <;> first | rfl | exact absurd rfl h
 have e2:(op == CmpOp.NotIn)=false:=by cases op <;> first | rfl | exact absurd rfl h2
 cases b <;> simp [behindInMarks,e1,e2]
def tB (t:TE):TT:=λ σ H Q=>t σ H λ x H1=>∃ c,x=.bl c /\ Q c H1
theorem tg5 {op:CmpOp} {t:TE} (h:PC X op a b t) (h1:behindInMarks op b=false:=by first | exact ty2 _ [8] [8] | rfl):PT X (.Compare a [op] [b] pos) (tB t):=by
 intro pins s σ H Q I hw;refine wpAny_isTrue_Compare1 (thn (h pins s σ H _ I hw) λ v s1 h1=>thn h1 λ u s2 h2=>thn h2 λ c s3 ⟨x,H1,I1,r1,q1⟩=>?_) h1;obtain ⟨d,rfl,q⟩:=q1;cases r1;exact wpAny_truthy_bool ⟨H1,I1,q⟩
theorem vg5 {e:Expr} {t:TE} (h:PE X e t) (he:∀ whole,isTrue e X.env whole=(do let v <- whole; standAt e.pos; holding [v] (truthy v)):=by intro _; rfl):PT X e (tB t):=by
 intro pins s σ H Q I hw;refine isTrue_plain (thn (h pins s σ H _ I hw) λ v s1 ⟨x,H1,I1,r1,q1⟩=>?_) (he _);obtain ⟨d,rfl,q⟩:=q1;cases r1;exact wpAny_truthy_bool ⟨H1,I1,q⟩
variable {tA tB':TT} {rest:List Expr}
def tAnd (t u:TT):TT:=λ σ H Q=>t σ H λ c H1=>if c=true then u σ H1 Q else Q false H1
def tOr (t u:TT):TT:=λ σ H Q=>t σ H λ c H1=>if c=true then Q true H1 else u σ H1 Q
def tNot (t:TT):TT:=λ σ H Q=>t σ H λ c H1=>Q (!c) H1
theorem ww3 (ha:PT X a tA):PW X (.BoolOp .And [a] pos) tA:=by
 intro wh pins s σ H Q I h;refine isTrue_and (thn (ha pins s σ H Q I h) λ c s1 e=>?_);cases c with
 | true=>exact isTrue_and_nil e
 | false=>exact e
theorem xg5 (ha:PT X a tA):PW X (.BoolOp .Or [a] pos) tA:=by
 intro wh pins s σ H Q I h;refine isTrue_or (thn (ha pins s σ H Q I h) λ c s1 e=>?_);cases c with
 | false=>exact isTrue_or_nil e
 | true=>exact e
theorem wg5 (ha:PT X a tA) (hb:PW X (.BoolOp .And (b :: rest) pos) tB'):PW X (.BoolOp .And (a :: b :: rest) pos) (tAnd tA tB'):=by
 intro wh pins s σ H Q I h;refine isTrue_and (thn (ha pins s σ H _ I h) λ c s1 ⟨H1,I1,q1⟩=>?_);cases c with
 | true=>exact hb wh pins s1 σ H1 Q I1 q1
 | false=>exact ⟨H1,I1,q1⟩
theorem pw_or (ha:PT X a tA) (hb:PW X (.BoolOp .Or (b :: rest) pos) tB'):PW X (.BoolOp .Or (a :: b :: rest) pos) (tOr tA tB'):=by
 intro wh pins s σ H Q I h;refine isTrue_or (thn (ha pins s σ H _ I h) λ c s1 ⟨H1,I1,q1⟩=>?_);cases c with
 | true=>exact ⟨H1,I1,q1⟩
 | false=>exact hb wh pins s1 σ H1 Q I1 q1
theorem ug5 (ha:PT X a tA):PT X (.UnaryOp .Not a pos) (tNot tA):=by
 intro pins s σ H Q I h;exact isTrue_not (ha pins s σ H (λ c H1=>Q (!c) H1) I h)
def tAndV (ta tb:TE):TE:=λ σ H Q=>ta σ H λ x H1=>∃ c,x=.bl c /\ if c=true then tb σ H1 Q else Q (.bl false) H1
def tOrV (ta tb:TE):TE:=λ σ H Q=>ta σ H λ x H1=>∃ c,x=.bl c /\ if c=true then Q (.bl true) H1 else tb σ H1 Q
theorem wi5 {op} {t:TE} (h:PE X a t):PE X (.BoolOp op [a] pos) t:=λ pins s σ H Q I hw=>BoolOp_one (h pins s σ H Q I hw)
theorem wj5 (ha:PE X a ta) (hb:PE X (.BoolOp .And (b :: rest) pos) tb):PE X (.BoolOp .And (a :: b :: rest) pos) (tAndV ta tb):=by
 intro pins s σ H Q I h;refine BoolOp_and (thn (ha pins s σ H _ I h) λ v s1 ⟨x,H1,I1,r1,q1⟩=>?_);obtain ⟨c,rfl,q1⟩:=q1;cases r1;refine wpAny_truthy_bool ?_;cases c with
 | true=>exact hb pins s1 σ H1 Q I1 q1
 | false=>exact ⟨.bl false,H1,I1,rfl,q1⟩
theorem pe_or (ha:PE X a ta) (hb:PE X (.BoolOp .Or (b :: rest) pos) tb):PE X (.BoolOp .Or (a :: b :: rest) pos) (tOrV ta tb):=by
 intro pins s σ H Q I h;refine BoolOp_or (thn (ha pins s σ H _ I h) λ v s1 ⟨x,H1,I1,r1,q1⟩=>?_);obtain ⟨c,rfl,q1⟩:=q1;cases r1;refine wpAny_truthy_bool ?_;cases c with
 | false=>exact hb pins s1 σ H1 Q I1 q1
 | true=>exact ⟨.bl true,H1,I1,rfl,q1⟩
def tIf (t:TT) (ta tb:TE):TE:=λ σ H Q=>t σ H λ c H1=>if c=true then ta σ H1 Q else tb σ H1 Q
theorem sx2 {c:Expr} (hc:PT X c tA) (ha:PE X a ta) (hb:PE X b tb):PE X (.IfExp c a b pos) (tIf tA ta tb):=by
 intro pins s σ H Q I h;refine wpAny_IfExp (thn (hc pins s σ H _ I h) λ d s1 ⟨H1,I1,q1⟩=>?_);cases d with
 | true=>exact ha pins s1 σ H1 Q I1 q1
 | false=>exact hb pins s1 σ H1 Q I1 q1
end
def SqL (K:[94]) (H:Hp) (a:Addr) (xs:List V):Prop :=
 Rd H a (.lst xs) ∨
  ∃ (o:Obj) (its:Array Value) (n:Nat),K.lookup a=some o /\ o.cls=.type "list" /\ o.dict=none /\ o.data=.seq its n /\ its.size<=sizeLine /\ Vals xs its.toList
def SqT (K:[94]) (H:Hp) (a:Addr) (xs:List V):Prop :=
 Rd H a (.tup xs) ∨
  ∃ (o:Obj) (its:Array Value) (n:Nat),K.lookup a=some o /\ o.cls=.type "tuple" /\ o.data=.seq its n /\ its.size<=sizeLine /\ Vals xs its.toList
def absV:Value->Option V
 | .none=>some .non
 | .bool b=>some (.bl b)
 | .int i _=>some (.int i)
 | .str x _=>some (.str x)
 | .bytes b _=>some (.byt b)
 | .float b _=>some (.flt b)
 | .ref a=>some (.ref a)
 | .type n=>some (.ty n)
 | _=>none
theorem RelV.abs {x:V} {u:Value} (r:RelV x u):absV u=some x:=by
 cases x with
 | non=>cases r; rfl
 | bl _=>cases r; rfl
 | int _=>obtain ⟨t,rfl⟩:=r; rfl
 | str _=>obtain ⟨t,rfl⟩:=r; rfl
 | byt _=>obtain ⟨t,rfl⟩:=r; rfl
 | flt _=>obtain ⟨t,rfl⟩:=r; rfl
 | ref _=>cases r; rfl
 | ty _=>cases r; rfl
theorem RelV.inj {x y:V} {u:Value} (r:RelV x u) (q:RelV y u):x=y:=Option.some.inj (r.abs.symm.trans q.abs)
theorem Vals.inj:∀ {xs ys:List V} {us:[27]},Vals xs us->Vals ys us->xs=ys
 | _,_,_,.nil,.nil=>rfl
 | _,_,_,.cons r t,.cons r' t'=>by rw [r.inj r',Vals.inj t t']
variable {K:[94]}
section
variable {σ:St} {a:Addr} {xs ys:List V}
theorem SqL.of (h:H a=some (.lst xs)):SqL K H a xs:=.inl (.inl h)
theorem SqT.of (h:H a=some (.tup xs)):SqT K H a xs:=.inl (.inl h)
theorem Inv.list (I:[10]) (h:SqL X.K H a xs):∃ its:List Value,Vals xs its /\ PlainL s.heap a its.toArray /\ xs.length<=sizeLine:=by
 rcases h with h | ⟨o,its,n,hk,hc,hd,hs,hz,r⟩
 ·obtain ⟨z,its,n,r,e⟩:=h.ok I.hok;exact ⟨its,r,⟨_,n,e,rfl,rfl,rfl⟩,z⟩
 ·refine ⟨its.toList,r,⟨o,n,I.kIn a o hk,hc,hd,by simpa using hs⟩,?_⟩;have e:=r.length;simp only [length_toList] at e;omega
theorem Inv.tuple (I:[10]) (h:SqT X.K H a xs):∃ its:List Value,Vals xs its /\ IsTup s.heap a its.toArray /\ xs.length<=sizeLine:=by
 rcases h with h | ⟨o,its,n,hk,hc,hs,hz,r⟩
 ·obtain ⟨z,its,r,p⟩:=h.ok I.hok;exact ⟨its,r,p,z⟩
 ·refine ⟨its.toList,r,⟨o,I.kIn a o hk,hc,n,by simpa using hs⟩,?_⟩;have e:=r.length;simp only [length_toList] at e;omega
theorem Inv.list_inj (I:[10]) (h:SqL X.K H a xs) (h':SqL X.K H a ys):xs=ys:=by
 obtain ⟨its,r,⟨o,n,e,_,_,d⟩,_⟩:=I.list h;obtain ⟨its',r',⟨o',n',e',_,_,d'⟩,_⟩:=I.list h';rw [e] at e'; cases e';rw [d] at d';injection d' with d1 _
 have:its=its':=by simpa using congrArg Array.toList d1
 subst this;exact r.inj r'
theorem Inv.tuple_inj (I:[10]) (h:SqT X.K H a xs) (h':SqT X.K H a ys):xs=ys:=by
 obtain ⟨its,r,⟨o,e,_,n,d⟩,_⟩:=I.tuple h;obtain ⟨its',r',⟨o',e',_,n',d'⟩,_⟩:=I.tuple h';rw [e] at e'; cases e';rw [d] at d';injection d' with d1 _
 have:its=its':=by simpa using congrArg Array.toList d1
 subst this;exact r.inj r'
end
abbrev Cx.wish (X:Cx) (E:[9]):Cx:={ X with xe:=E }
abbrev Cx.nox (X:Cx):Cx:=X.wish λ _ _=>False
theorem Cx.Ok.wish {X:Cx} (ok:X.Ok) (E:[9]):(X.wish E).Ok :=
 ⟨ok.mod,ok.kind,ok.glob,ok.blt,ok.above,ok.inj,ok.has,ok.cab,ok.hd,ok.frames,ok.stk,ok.exf,ok.bs,ok.bsz,ok.noex,ok.exfs,ok.funs,ok.frf⟩
theorem Cx.Ok.unwish {E:[9]} (ok:(X.wish E).Ok):X.Ok :=
 ⟨ok.mod,ok.kind,ok.glob,ok.blt,ok.above,ok.inj,ok.has,ok.cab,ok.hd,ok.frames,ok.stk,ok.exf,ok.bs,ok.bsz,ok.noex,ok.exfs,ok.funs,ok.frf⟩
section
variable {σ:St} {E:[9]}
theorem Inv.wish (I:[10]) (E:[9]):Inv (X.wish E) pins σ H s:=⟨I.ok.wish E,I.os,I.bare,I.base,I.loc,I.cell,I.free,I.freeC,I.pin,I.hok,I.len⟩
theorem Inv.unwish (I:Inv (X.wish E) pins σ H s):Inv X pins σ H s:=⟨I.ok.unwish,I.os,I.bare,I.base,I.loc,I.cell,I.free,I.freeC,I.pin,I.hok,I.len⟩
theorem SP.unwish {D:Ends} {f:Flow} {s':[88]} (h:SP (X.wish E) pins D f s'):SP X pins D f s':=by
 cases f with
 | next=>obtain ⟨σ',H',I,q⟩:=h; exact ⟨σ',H',I.unwish,q⟩
 | brk=>obtain ⟨σ',H',I,q⟩:=h; exact ⟨σ',H',I.unwish,q⟩
 | cont=>obtain ⟨σ',H',I,q⟩:=h; exact ⟨σ',H',I.unwish,q⟩
 | ret u=>obtain ⟨v,σ',H',I,r,q⟩:=h; exact ⟨v,σ',H',I.unwish,r,q⟩
theorem PSs.nox {st:List Stmt} {t:TS} (h:PSs X.nox st t):PSs X st t:=λ pins s σ H D I hw =>
 wpAny_mono (h pins s σ H D (I.wish _) hw) (λ _ _ q=>q.unwish) λ _ _ z=>False.elim z
end
variable {te:TE}
section
variable {st:Stmt} {rest:List Stmt} {t u:TS} {e:Expr} {pos:Pos}
def tNext:TS:=λ D σ H=>D.nx σ H
def tSeq (t u:TS):TS:=λ D σ H=>t { D with nx:=u D } σ H
theorem yx3:PSs X [] tNext:=λ _ _ σ H _ I h=>wpAny_execs_nil ⟨σ,H,I,h⟩
theorem uw2 (h1:PS X st t) (h2:PSs X rest u):PSs X (st :: rest) (tSeq t u):=by
 intro pins s σ H D I h;refine wpAny_execs_cons (thn (h1 pins s σ H { D with nx:=u D } I h) λ f s1 q=>?_);cases f with
 | next =>
  obtain ⟨σ',H',I',q⟩:=q;exact h2 pins s1 σ' H' D I' q
 | ret v=>exact q
 | brk=>exact q
 | cont=>exact q
theorem xx3 (h1:PS X st t):PSs X [st] t:=by
 intro pins s σ H D I h;refine wpAny_execs_cons (thn (h1 pins s σ H D I h) λ f s1 q=>?_);cases f with
 | next=>exact wpAny_execs_nil q
 | ret v=>exact q
 | brk=>exact q
 | cont=>exact q
theorem Inv.quiet {σ:St} (I:[10]):interactive X.env=false:=by simp [interactive,I.ok.kind]
def tDrop (te:TE):TS:=λ D σ H=>te σ H λ _ H1=>D.nx σ H1
theorem vx3 (he:PE X e te) (hs:swapsWith e none pos.line X.env=pure false:=by rfl):PS X (.Expr e pos) (tDrop te):=by
 intro pins s σ H D I h;exact wpAny_Expr_any (thn (he pins s σ H _ I h) λ v s1 ⟨x,H1,I1,r1,q1⟩=>⟨σ,H1,I1,q1⟩) I.quiet hs
def tRet (te:TE):TS:=λ D σ H=>te σ H D.rt
theorem sg5 (he:PE X e te):PS X (.Return (some e) pos) (tRet te):=by
 intro pins s σ H D I h;exact wpAny_Return_some (thn (he pins s σ H _ I h) λ v s1 ⟨x,H1,I1,r1,q1⟩=>⟨x,σ,H1,I1,r1,q1⟩)
def tIfS (c:TT) (t u:TS):TS:=λ D σ H=>c σ H λ b H1=>if b=true then t D σ H1 else u D σ H1
theorem ps_if {c:Expr} {a b:List Stmt} {tc:TT} (hc:PT X c tc) (ha:PSs X a t) (hb:PSs X b u):PS X (.If c a b pos) (tIfS tc t u):=by
 intro pins s σ H D I h;refine wpAny_If (thn (hc pins s σ H _ I h) λ d s1 ⟨H1,I1,q1⟩=>?_);cases d with
 | true=>exact ha pins s1 σ H1 D I1 q1
 | false=>exact hb pins s1 σ H1 D I1 q1
end
abbrev TG:=V->St->Hp->(St->Hp->Prop)->Prop
def PG (X:Cx) (target:Expr) (t:TG):Prop :=
 ∀ (pins:[20]) (s:[88]) (σ:St) (H:Hp) (v:V) (u:Value) (Q:St->Hp->Prop),Inv X pins σ H s->RelV v u->t v σ H Q ->
  wpAny [11] X.A (assign target X.env u) (λ _ s'=>∃ σ' H',Inv X pins σ' H' s' /\ Q σ' H') X.xe s
abbrev TSet:=V->V->V->Hp->(Hp->Prop)->Prop
def PSet (X:Cx) (t:TSet):Prop :=
 ∀ (pins:[20]) (s:[88]) (σ:St) (H:Hp) (o i v:V) (ov iv u:Value) (Q:Hp->Prop),Inv X pins σ H s->RelV o ov->RelV i iv->RelV v u->t o i v H Q ->
  wpAny [11] X.A (setItem ov iv u) (λ _ s'=>∃ H',Inv X pins σ H' s' /\ Q H') X.xe s
variable {tg:Expr} {g:TG} {pos':Pos}
section
variable {pos:Pos}
def ud4 (i:Nat):TG:=λ v σ H Q=>Q (σ.set i (some v)) H
theorem zy3 {i:Nat} {x:Str} (hN:X.N.Nodup) (hi:X.N[i]?=some x) (hx:Loc X.env.scope x) (hf:X.fn x=true \/ X.env.scope.names.lookup x=some .local:=by first | exact .inl rfl | exact .inr rfl | assumption):PG X (.Name x pos) (ud4 i):=by
 intro pins s σ H v u Q I r h;exact wpAny_assign_Name (yz0 I hN hi hx r (λ s' I'=>⟨_,H,I',h⟩) hf)
def gSub (to ti:TE) (t:TSet):TG:=λ v σ H Q=>to σ H λ o H1=>ti σ H1 λ i H2=>t o i v H2 λ H3=>Q σ H3
theorem xi5 {o i:Expr} {to ti:TE} {t:TSet} (ho:PE X o to) (hi:PE X i ti) (hs:PSet X t)
    (ha:∀ v,assign (.Subscript o i pos) X.env v=(do
     let ov <- holding [v] (eval o X.env)
     let iv <- holding [v,ov] (eval i X.env)
     standAt pos
     holding [v,ov,iv] (setItem ov iv v)
     release [v,ov,iv] []):=by intro _; rfl):PG X (.Subscript o i pos) (gSub to ti t):=by
 intro pins s σ H v u Q I r h;rw [ha];refine wpAny_bind (wpAny_holding (thn (ho pins s σ H _ I h) λ ov s1 ⟨x,H1,I1,r1,q1⟩=>?_));refine wpAny_bind (wpAny_holding (thn (hi pins s1 σ H1 _ I1 q1) λ iv s2 ⟨y,H2,I2,r2,q2⟩=>?_));refine wpAny_bind (wpAny_standAt (wpAny_bind (wpAny_holding (thn (hs pins s2 σ H2 x y v ov iv u _ I2 r1 r2 r q2) λ _ s3 ⟨H3,I3,q3⟩=>?_))));exact wpAny_release ⟨σ,H3,I3,q3⟩
def tAsg (te:TE) (g:TG):TS:=λ D σ H=>te σ H λ x H1=>g x σ H1 D.nx
theorem zh5 {e:Expr} (he:PE X e te) (hg:PG X tg g) (hs:swapsWithSole [tg] e pos.line X.env=pure false:=by rfl) (hw:swappedStores [tg] e X.env=pure none:=by rfl)
    (h1:(assignEach [tg] X.env).map (·.2)=[assign tg X.env]:=by rfl):PS X (.Assign [tg] e pos) (tAsg te g):=by
 intro pins s σ H D I h;refine wpAny_Assign_stores (thn (he pins s σ H _ I h) λ v s1 ⟨x,H1,I1,r1,q1⟩=>?_) hs hw;rw [h1];exact thn (hg pins s1 σ H1 x v _ I1 r1 q1) λ _ s2 q=>q
theorem th2 {i:Nat} {x:Str} {e:Expr} (hN:X.N.Nodup) (hi:X.N[i]?=some x) (hx:Loc X.env.scope x) (he:PE X e te) (hs:swapsWith e (some (.Name x pos')) pos.line X.env=pure false:=by rfl) (hf:X.fn x=true \/ X.env.scope.names.lookup x=some .local:=by first | exact .inl rfl | exact .inr rfl | assumption) :
    PS X (.Assign [.Name x pos'] e pos) (tAsg te (ud4 i)):=by
 intro pins s σ H D I h;refine wpAny_Assign_Name (thn (he pins s σ H _ I h) λ v s1 ⟨y,H1,I1,r1,q1⟩=>?_) hs;exact yz0 I1 hN hi hx r1 (λ s2 I2=>⟨_,H1,I2,q1⟩) hf
end
variable {body:List Stmt}
section
variable {pos:Pos}
def sn4 (c:TT) (tb:TS):TS:=λ D σ H=>∃ W:Nat->St->Hp->Prop,(∃ m,W m σ H) /\ ∀ m σ H,W m σ H ->
 c σ H λ b H1=>if b=true then ∃ N:St->Hp->Prop,(∀ σ' H',N σ' H'->∃ m',m' < m /\ W m' σ' H') /\ tb { D with nx:=N,ct:=N,bk:=D.nx } σ H1 else D.nx σ H1
theorem tw2 {c:Expr} {tc:TT} {tb:TS} (hp:PassesOwn [11] X.A X.env X.xe) (hc:PT X c tc) (hb:PSs X body tb):PS X (.While c body [] pos) (sn4 tc tb):=by
 intro pins s σ H D I h;obtain ⟨W,⟨m0,w0⟩,turn⟩:=h;refine wpAny_While (codeAny_whileLoop (λ n s'=>∃ σ' H',Inv X pins σ' H' s' /\ W n σ' H') ?_ m0 ⟨σ,H,I,w0⟩);rintro n s1 ⟨σ1,H1,I1,w1⟩;refine wpAny_passesOwn hp (thn (hc pins s1 σ1 H1 _ I1 (turn n σ1 H1 w1)) λ b s2 ⟨H2,I2,q2⟩=>?_);cases b with
 | true =>
  obtain ⟨N,hN,q2⟩:=q2;rw [if_pos rfl];refine wpAny_passesOwn hp (thn (hb pins s2 σ1 H2 _ I2 q2) λ f s3 q3=>?_);cases f with
  | next =>
   obtain ⟨σ3,H3,I3,n3⟩:=q3;obtain ⟨m',hm,w3⟩:=hN σ3 H3 n3;exact ⟨m',hm,σ3,H3,I3,w3⟩
  | cont =>
   obtain ⟨σ3,H3,I3,n3⟩:=q3;obtain ⟨m',hm,w3⟩:=hN σ3 H3 n3;exact ⟨m',hm,σ3,H3,I3,w3⟩
  | brk=>exact q3
  | ret v=>exact q3
 | false =>
  rw [if_neg Bool.false_ne_true];exact wpAny_execs_nil ⟨σ1,H2,I2,q2⟩
end
structure It where
 go:Nat->Hp->Prop
 yld:Nat->Hp->V->Hp->Prop
 stop:Nat->Hp->Prop
def FpOk (X:Cx) (pins:[20]) (H:Hp) (b:Addr):Prop :=
 H b=none /\ b ≠ X.env.locals /\ b ∉ X.fs /\ (b ∈ X.ex \/ X.s₀.heap.objs.size<=b) /\ (∀ x c,X.env.cells.lookup x=some c->c ≠ b) /\ ∀ p ∈ X.pn ++ pins,p.1 ≠ b
theorem Inv.fpOk {σ:St} {b:Addr} (I:[10]) (hb:s.heap.objs.size<=b) (hn:H' b=none):FpOk X pins H' b:=by
 refine ⟨hn,Nat.ne_of_gt (Nat.lt_of_lt_of_le I.lt hb),I.nofs hb,.inr (Nat.le_trans I.sz hb),λ x c e z=>?_,λ p hp z=>?_⟩
 ·obtain ⟨v,q⟩:=I.cell x c e;exact absurd (Nat.lt_of_lt_of_le q.lt (by rw [z]; exact hb)) (Nat.lt_irrefl _)
 ·exact absurd (Nat.lt_of_lt_of_le (Heap.lt_size (I.pin p hp).1) (by rw [z]; exact hb)) (Nat.lt_irrefl _)
structure Turn (P:Program) (w:World) (K:PySem.W.Frag) (tg:Expr) (J:It) (fp:List Addr) (it:Addr) (tn:Nat->Heap->Prop):Prop where
 mem:it ∈ fp
 obj:∀ i h,tn i h->∀ b ∈ fp,∃ o,h.get? b=some o /\ ∀ v,o.data ≠ .cell v
 keep:∀ i h h',tn i h->(∀ b ∈ fp,∀ o,h.get? b=some o->h'.get? b=some o)->tn i h'
 item:∀ (X:Cx),X.prog=P->X.w=w->X.K=K->X.calm=true->∀ (i:Nat) (pins:List (Addr × Obj)) (s:Shared) (σ:St) (H:Hp) (E:Value->Shared->Prop),Inv X pins σ H s->(∀ b ∈ fp,FpOk X pins H b)->tn i s.heap->J.go i H ->
  wpAny (model P w) X.A (pyNext (.ref it)) (λ r s1=>∃ u,r=some u ∧
   wpAny (model P w) X.A (letOwnedTupleGo tg (.ref it) u) (λ _ s2=>∃ x H',Inv X pins σ H' s2 /\ RelV x u /\ J.yld i H x H' /\ tn (i + 1) s2.heap /\ ∀ b ∈ fp,H' b=none) E s1) E s
 done:∀ (X:Cx),X.prog=P->X.w=w->X.K=K->X.calm=true->∀ (i:Nat) (pins:List (Addr × Obj)) (s:Shared) (σ:St) (H:Hp) (E:Value->Shared->Prop),Inv X pins σ H s->(∀ b ∈ fp,FpOk X pins H b)->tn i s.heap->J.stop i H ->
  wpAny (model P w) X.A (pyNext (.ref it)) (λ r s1=>r=none /\ Inv X pins σ H s1) E s
 self:∀ (A:Around) (i:Nat) (s:Shared) (Q:Value->Shared->Prop) (E:Value->Shared->Prop),tn i s.heap->Q (.ref it) s->wpAny (model P w) A (pyIter (.ref it)) Q E s
abbrev TI:=St->Hp->(It->Hp->Prop)->Prop
def PIE (X:Cx) (pins:[20]) (σ:St) (tg:Expr) (R:It->Hp->Prop) (itv:Value) (s2:[88]):Prop :=
 ∃ (it:Addr) (fp:List Addr) (tn:Nat->Heap->Prop) (J:It) (H':Hp),itv=.ref it /\ Inv X pins σ H' s2 /\ Turn X.prog X.w X.K tg J fp it tn /\ tn 0 s2.heap /\ (∀ b ∈ fp,FpOk X pins H' b) /\ R J H'
def PI (X:Cx) (tg iter:Expr) (wi:TI):Prop :=
 ∀ (pins:[20]) (s:[88]) (σ:St) (H:Hp) (R:It->Hp->Prop),Inv X pins σ H s->wi σ H R ->
  wpAny [11] X.A (eval iter X.env) (λ v s1=>wpAny [11] X.A (pyIter v) (PIE X pins σ tg R) X.xe s1) X.xe s
theorem sb3 {E:[9]} {u:Value} {o:Obj} {n:String} {vs:Array Value} {Q:Unit->Shared->Prop} (ho:s.heap.get? it=some o) (hc:o.cls=.type n) (hd:o.data=.fields vs)
    (hn:["enumerate", "zip", "dict_itemiterator", "dict_reverseitemiterator", "odict_iterator", "itertools.zip_longest", "itertools.pairwise"].contains n=false) (hQ:Q () s):wpAny M A (letOwnedTupleGo tg (.ref it) u) Q E s:=by
 unfold letOwnedTupleGo
 cases tg <;> first
  | exact wpAny_pure hQ
  | (cases u <;> first
      | exact wpAny_pure hQ
      | (refine wpAny_bind (wpAny_load ho ?_)
         rw [hc,hd];show wpAny M A (if (["enumerate", "zip", "dict_itemiterator", "dict_reverseitemiterator", "odict_iterator", "itertools.zip_longest", "itertools.pairwise"].contains n && vs[0]? == some (rawInt _))=true then _ else _) Q E s;rw [if_neg (by intro h; rw [hn,Bool.false_and] at h; cases h)];exact wpAny_pure hQ))
def Itl (K:[94]) (a:Addr):It :=
 ⟨λ i H=>∃ xs x,SqL K H a xs /\ xs[i]?=some x,λ i H x H'=>H'=H /\ ∀ xs,SqL K H a xs->xs[i]?=some x,λ i H=>∃ xs,SqL K H a xs /\ xs.length<=i⟩
def Itt (K:[94]) (a:Addr):It :=
 ⟨λ i H=>∃ xs x,SqT K H a xs /\ xs[i]?=some x,λ i H x H'=>H'=H /\ ∀ xs,SqT K H a xs->xs[i]?=some x,λ i H=>∃ xs,SqT K H a xs /\ xs.length<=i⟩
def Itr (lo:Int) (n:Nat):It:=⟨λ i _=>i < n,λ i H x H'=>H'=H /\ x=.int (lo + i),λ i _=>n<=i⟩
theorem yd2 {P:[83]} {w:World} (a it:Addr):Turn P w K tg (Itl K a) [it] it (λ i h=>h.IsListIter it a i) where
 mem:=by simp
 obj:=λ i h st b hb=>by
  have e:b=it:=by simpa using hb
  subst e;obtain ⟨o,e,c,d⟩:=st;exact ⟨o,e,λ v z=>by rw [d] at z; cases z⟩
 keep:=λ i h h' st k=>st.at λ o e=>k it [18] o e
 item:=by
  intro X hP hw hK hc i pins s σ H E I hf st hg;subst hP hw hK;obtain ⟨xs,x,hq,hx⟩:=hg;obtain ⟨its,rv,p,hz⟩:=I.list hq;obtain ⟨u,hu,ru⟩:=rv.get hx;obtain ⟨f0,f1,f2,f3,f4,f5⟩:=hf it [18];refine wpAny_pyNext_list_item st p.isList (x:=u) (by simpa using hu) λ h' st' sb=>?_;have I1:Inv X pins σ H [96]:=I.turned (t':=s.toks) (λ b o hb e=>(sb.2 b hb).trans e) f0 f1 f3 f4 f5;obtain ⟨o,e,c,d⟩:=id st';exact ⟨u,rfl,sb3 (s:=[96]) e c d [8] ⟨x,H,I1,ru,⟨rfl,λ ys hy=>by rw [I.list_inj hy hq]; exact hx⟩,st',λ b hb=>(hf b hb).1⟩⟩
 done:=by
  intro X hP hw hK hc i pins s σ H E I hf st hg;subst hP hw hK;obtain ⟨xs,hq,hx⟩:=hg;obtain ⟨its,rv,p,hz⟩:=I.list hq;obtain ⟨f0,f1,f2,f3,f4,f5⟩:=hf it [18];have hl:=rv.length;exact wpAny_pyNext_list_end (I.ok.hd hc) st p.isList (by simp; omega) λ h' eb=>⟨rfl,I.turned (t':=s.toks) (λ b o hb e=>eb b o hb e) f0 f1 f3 f4 f5⟩
 self:=λ _ _ _ _ _ st h=>wpAny_pyIter_listiter st h
theorem vt1 {P:[83]} {w:World} (a it:Addr):Turn P w K tg (Itt K a) [it] it (λ i h=>h.IsTupleIter it a i) where
 mem:=by simp
 obj:=λ i h st b hb=>by
  have e:b=it:=by simpa using hb
  subst e;obtain ⟨o,e,c,d⟩:=st;exact ⟨o,e,λ v z=>by rw [d] at z; cases z⟩
 keep:=λ i h h' st k=>st.at λ o e=>k it [18] o e
 item:=by
  intro X hP hw hK hc i pins s σ H E I hf st hg;subst hP hw hK;obtain ⟨xs,x,hq,hx⟩:=hg;obtain ⟨its,rv,p,hz⟩:=I.tuple hq;obtain ⟨u,hu,ru⟩:=rv.get hx;obtain ⟨f0,f1,f2,f3,f4,f5⟩:=hf it [18];refine wpAny_pyNext_tuple_item st (show s.heap.IsTuple a its.toArray from p) (x:=u) (by simpa using hu) λ h' st' sb=>?_;have I1:Inv X pins σ H [96]:=I.turned (t':=s.toks) (λ b o hb e=>(sb.2 b hb).trans e) f0 f1 f3 f4 f5;obtain ⟨o,e,c,d⟩:=id st';exact ⟨u,rfl,sb3 (s:=[96]) e c d [8] ⟨x,H,I1,ru,⟨rfl,λ ys hy=>by rw [I.tuple_inj hy hq]; exact hx⟩,st',λ b hb=>(hf b hb).1⟩⟩
 done:=by
  intro X hP hw hK hc i pins s σ H E I hf st hg;subst hP hw hK;obtain ⟨xs,hq,hx⟩:=hg;obtain ⟨its,rv,p,hz⟩:=I.tuple hq;obtain ⟨f0,f1,f2,f3,f4,f5⟩:=hf it [18];have hl:=rv.length;exact wpAny_pyNext_tuple_end (I.ok.hd hc) st (show s.heap.IsTuple a its.toArray from p) (by simp; omega) λ h' eb=>⟨rfl,I.turned (t':=s.toks) (λ b o hb e=>eb b o hb e) f0 f1 f3 f4 f5⟩
 self:=λ _ _ _ _ _ st h=>wpAny_pyIter_tupleiter st h
theorem ut1 {P:[83]} {w:World} (it:Addr) (lo:Int) (n:Nat):Turn P w K tg (Itr lo n) [it] it (λ i h=>IsRangeIter h it (lo + (i:Nat) * 1) ((n:Int) - (i:Nat)) 1) where
 mem:=by simp
 obj:=λ i h st b hb=>by
  have e:b=it:=by simpa using hb
  subst e
  exact ⟨_,st,λ v z=>by
   have z':Data.fields _=Data.cell v:=z;cases z'⟩
 keep:=λ i h h' st k=>k it [18] _ st
 item:=by
  intro X hP hw hK hc i pins s σ H E I hf st hg;subst hP hw hK;obtain ⟨f0,f1,f2,f3,f4,f5⟩:=hf it [18];have W:=Walks.range (prog:=X.prog) (w:=X.w) (I.ok.hd hc) it lo 1 n;refine W.item i s _ _ hg st λ v h' tk hv st' kk=>?_;obtain ⟨t,rfl⟩:=hv;have I1:Inv X pins σ H [21]:=I.turned (λ b o hb e=>kk b o (by simpa using hb) e) f0 f1 f3 f4 f5;refine ⟨_,rfl,sb3 (s:=[21]) (n := "range_iterator") st' rfl rfl [8] ⟨.int (lo + i),H,I1,⟨t,?_⟩,⟨rfl,rfl⟩,st',λ b hb=>(hf b hb).1⟩⟩;rw [Int.mul_one]
 done:=by
  intro X hP hw hK hc i pins s σ H E I hf st hg;subst hP hw hK;obtain ⟨f0,f1,f2,f3,f4,f5⟩:=hf it [18];exact wpAny_pyNext_range_end (I.ok.hd hc) st (by have:n<=i:=hg; omega) λ h' eb=>⟨rfl,I.turned (t':=s.toks) (λ b o hb e=>eb b o hb e) f0 f1 f3 f4 f5⟩
 self:=λ _ _ _ _ _ st h=>wpAny_pyIter_rangeiter st h
variable {p:Pos} {fp:List Addr}
section
theorem sp1 {σ:St} {R:It->Hp->Prop} {E:[9]} {lo hi:Int} {t u v:Tok} {tk:Nat} (I:[10]) (h1 : -(2 ^ 62)<=lo) (h2:lo < 2 ^ 62) (h3 : -(2 ^ 62)<=hi) (h4:hi < 2 ^ 62)
    (q:R (Itr lo (hi - lo).toNat) H):wpAny [11] X.A (pyIter [70]) (PIE X pins σ tg R) E { s with heap:=s.heap.push [38],toks:=tk }:=by
 refine wpAny_pyIter_range (IsRange.new ..) (small_one h1 h2 h3 h4) ?_;have I1:Inv X pins σ H { s with heap:=s.heap.push [38],toks:=tk }:=I.kept λ b o e=>Heap.get?_push_of_some _ e
 refine ⟨(s.heap.push [38]).objs.size,[(s.heap.push [38]).objs.size],_,_,H,rfl,
  I1.kept (t':=tk) λ b o e=>Heap.get?_push_of_some _ e,ut1 _ lo (hi - lo).toNat,?_,λ b hb=>?_,q⟩
 ·have e1:lo + ((0:Nat):Int) * 1=lo:=by simp
  have e2:(((hi - lo).toNat:Nat):Int) - ((0:Nat):Int)=Builtin.Range.rangeSize lo hi 1:=by rw [rangeSize_one]; split <;> omega
  show IsRangeIter _ _ (lo + ((0:Nat):Int) * 1) ((((hi - lo).toNat:Nat):Int) - ((0:Nat):Int)) 1;rw [e1,e2];exact Heap.get?_push_size _ rfl
 ·have e:b=(s.heap.push [38]).objs.size:=by simpa using hb
  subst e;exact I1.fpOk [19] (I1.hok.fresh [19])
def iRng1 (ta:TA):TI:=λ σ H R=>ta σ H λ vs H1=>∃ j:Int,vs=[.int j] /\ -(2 ^ 62)<=j /\ j < 2 ^ 62 /\ R (Itr 0 j.toNat) H1
def iRng2 (ta:TA):TI:=λ σ H R=>ta σ H λ vs H1=>∃ i j:Int,vs=[.int i,.int j] /\ (-(2 ^ 62)<=i /\ i < 2 ^ 62 /\ -(2 ^ 62)<=j /\ j < 2 ^ 62) /\ R (Itr i (j - i).toNat) H1
theorem wi2 {a:Expr} {ta:TA} {pos:Pos} (hg:Gl X "range") (hm:X.mg "range" = none) (ha:PA X [a] ta) (hs:starEach [a] X.env=[(false,eval a X.env)]:=by rfl):PI X tg (.Call (.Name "range" p) [a] [] pos) (iRng1 ta):=by
 intro pins s σ H R I h;refine Call_ (ul0 I hg hm boot_range (PyProof.Rows.callWith_type1 (thn (ha pos pins s σ H _ I h) λ us s1 ⟨vs,H1,I1,r1,q1⟩=>?_) hs rfl));obtain ⟨j,e,q1,q2,q⟩:=q1;subst e;cases r1 with
 | cons r rr =>
  cases rr;obtain ⟨t,rfl⟩:=r;exact call_range_1 (sp1 I1 [7] [7] q1 q2 (by simpa using q))
theorem zi2 {a b:Expr} {ta:TA} {pos:Pos} (hg:Gl X "range") (hm:X.mg "range" = none) (ha:PA X [a,b] ta) (hs:starEach [a,b] X.env=[(false,eval a X.env),(false,eval b X.env)]:=by rfl) (hs2:starEach [b] X.env=[(false,eval b X.env)]:=by rfl) :
    PI X tg (.Call (.Name "range" p) [a,b] [] pos) (iRng2 ta):=by
 intro pins s σ H R I h;refine Call_ (ul0 I hg hm boot_range (PyProof.Rows.callWith_type1 (thn (ha pos pins s σ H _ I h) λ us s1 ⟨vs,H1,I1,r1,q1⟩=>?_) (by rw [hs,hs2]) (by rw [hs2]; rfl)));obtain ⟨i,j,e,⟨q1,q2,q3,q4⟩,q⟩:=q1;subst e;cases r1 with
 | cons r rr =>
  cases rr with
  | cons r' rr =>
   cases rr;obtain ⟨t,rfl⟩:=r;obtain ⟨t',rfl⟩:=r';exact call_range_2 (sp1 I1 q1 q2 q3 q4 q)
def tFor (wi:TI) (g:TG) (tb:TS):TS:=λ D σ H=>wi σ H λ J H1=>∃ W:Nat->Nat->St->Hp->Prop,(∃ m,W 0 m σ H1) /\ ∀ i m σ H,W i m σ H ->
 (J.stop i H /\ D.nx σ H) \/ (J.go i H /\ ∃ N:St->Hp->Prop,(∀ σ' H',N σ' H'->∃ m',m' < m /\ W (i + 1) m' σ' H') /\ ∀ x H',J.yld i H x H'->g x σ H' λ σ2 H2=>tb { D with nx:=N,ct:=N,bk:=D.nx } σ2 H2)
def xx0 (fp:List Addr) (h:Heap):List (Addr × Obj):=fp.filterMap λ b=>(h.get? b).map λ o=>(b,o)
theorem uf0 {b:Addr} {o:Obj} (hb:b ∈ fp) (e:h.get? b=some o):(b,o) ∈ xx0 fp h:=List.mem_filterMap.mpr ⟨b,hb,by rw [e]; rfl⟩
theorem vj2 {p:Addr × Obj} (hp:p ∈ xx0 fp h):p.1 ∈ fp /\ h.get? p.1=some p.2:=by
 obtain ⟨b,hb,e⟩:=List.mem_filterMap.mp hp;cases q:h.get? b with
 | none=>rw [q] at e; cases e
 | some o =>
  rw [q] at e;have e':(b,o)=p:=Option.some.inj e;subst e';exact ⟨hb,q⟩
theorem Inv.pinned {σ:St} (I:[10]) (hf:∀ b ∈ fp,FpOk X pins H b) (ho:∀ b ∈ fp,∃ o,s.heap.get? b=some o /\ ∀ v,o.data ≠ .cell v):Inv X (pins ++ xx0 fp s.heap) σ H s :=
 I.pins_of λ p hp=>(List.mem_append.mp hp).elim (λ z=>I.pin p (mem_append_right _ z)) λ z=>by
  obtain ⟨hb,e⟩:=vj2 z;obtain ⟨f0,f1,f2,_⟩:=hf p.1 hb;obtain ⟨o,e',d⟩:=ho p.1 hb;rw [e] at e'; cases e';exact ⟨e,f0,f1,f2,d⟩
theorem Inv.unpinned {pl:[20]} {σ:St} (I:Inv X (pins ++ pl) σ H s):Inv X pins σ H s:=I.pins_of λ p hp=>I.pin p (mem_append_right _ (List.mem_append_left _ hp))
theorem xh5 {iter:Expr} {wi:TI} {tb:TS} {pos:Pos} (hp:PassesOwn [11] X.A X.env X.xe) (hc:X.calm=true) (hi:PI X tg iter wi) (hg:PG X tg g) (hb:PSs X body tb)
    (hs:∀ x,foldedSetIterable iter X.env x=pure x:=by intro _; rfl):PS X (.For tg iter body [] pos) (tFor wi g tb):=by
 intro pins s σ H D I h;refine wpAny_For (thn (hi pins s σ H _ I h) λ v s1 h1=>thn h1 λ itv s2 h2=>?_) hs;obtain ⟨it,fp,tn,J,H2,e,I2,T,st2,f2,W,⟨m0,w0⟩,turn⟩:=h2;subst e;have stat:∀ {H':Hp},(∀ b ∈ fp,H' b=none)->∀ b ∈ fp,FpOk X pins H' b:=λ hn b hb=>⟨hn b hb,(f2 b hb).2⟩;refine codeAny_forLoop_any (λ n s'=>∃ i σ' H',Inv X pins σ' H' s' /\ tn i s'.heap /\ (∀ b ∈ fp,H' b=none) /\ W i n σ' H') ?_ m0 ⟨0,σ,H2,I2,st2,λ b hb=>(f2 b hb).1,w0⟩;rintro n s3 ⟨i,σ3,H3,I3,st3,fr3,w3⟩;rcases turn i n σ3 H3 w3 with ⟨stop,qn⟩ | ⟨go,N,hN,step⟩
 ·refine wpAny_passesOwn hp (thn (T.done X rfl rfl rfl hc i pins s3 σ3 H3 X.xe I3 (stat fr3) st3 stop) λ r s4 ⟨hr,I4⟩=>?_);subst hr;exact wpAny_execs_nil ⟨σ3,H3,I4,qn⟩
 ·refine wpAny_passesOwn hp (thn (T.item X rfl rfl rfl hc i pins s3 σ3 H3 X.xe I3 (stat fr3) st3 go) λ r s4 ⟨u,hr,h4⟩=>?_);subst hr;refine wpAny_passesOwn hp (thn h4 λ _ s5 ⟨x,H5,I5,r5,y5,st5,fr5⟩=>?_);have I5':=I5.pinned (stat fr5) (T.obj _ _ st5);refine wpAny_passesOwn hp (thn (hg _ s5 σ3 H5 x u _ I5' r5 (step x H5 y5)) λ _ s6 ⟨σ6,H6,I6,q6⟩=>?_);refine wpAny_passesOwn hp (thn (hb _ s6 σ6 H6 _ I6 q6) λ f s7 q7=>?_)
  have again:∀ {σ7:St} {H7:Hp},Inv X (pins ++ xx0 fp s5.heap) σ7 H7 s7->N σ7 H7->∃ m,m < n /\ ∃ i σ' H',Inv X pins σ' H' s7 /\ tn i s7.heap /\ (∀ b ∈ fp,H' b=none) /\ W i m σ' H':=λ {σ7 H7} I7 n7=>by
   obtain ⟨m',hm,w7⟩:=hN σ7 H7 n7;refine ⟨m',hm,i + 1,σ7,H7,I7.unpinned,T.keep _ _ _ st5 λ b hb o e=>(I7.pin (b,o) [65]).1,λ b hb=>?_,w7⟩;obtain ⟨o,e,d⟩:=T.obj _ _ st5 b hb;exact (I7.pin (b,o) [65]).2.1
  cases f with
  | next=>obtain ⟨σ7,H7,I7,n7⟩:=q7; exact again I7 n7
  | cont=>obtain ⟨σ7,H7,I7,n7⟩:=q7; exact again I7 n7
  | brk=>obtain ⟨σ7,H7,I7,q7⟩:=q7; exact ⟨σ7,H7,I7.unpinned,q7⟩
  | ret v=>obtain ⟨x7,σ7,H7,I7,r7,q7⟩:=q7; exact ⟨x7,σ7,H7,I7.unpinned,r7,q7⟩
end
abbrev R2:=V->V->Hp->VK->Prop
def OpR (X:Cx) (f:Value->Value->Sem Value) (r:R2):Prop :=
 ∀ (pins:[20]) (s:[88]) (σ:St) (H:Hp) (x y:V) (v u:Value) (Q:VK),Inv X pins σ H s->RelV x v->RelV y u->r x y H Q ->
  wpAny [11] X.A (f v u) (EP X pins σ Q) X.xe s
def UnR (X:Cx) (f:Value->Sem Value) (r:V->Hp->VK->Prop):Prop :=
 ∀ (pins:[20]) (s:[88]) (σ:St) (H:Hp) (x:V) (v:Value) (Q:VK),Inv X pins σ H s->RelV x v->r x H Q ->
  wpAny [11] X.A (f v) (EP X pins σ Q) X.xe s
def CallR (X:Cx) (f:Value) (r:List V->Hp->VK->Prop):Prop :=
 ∀ (pins:[20]) (s:[88]) (σ:St) (H:Hp) (xs:List V) (us:[27]) (Q:VK),Inv X pins σ H s->Vals xs us->r xs H Q ->
  wpAny [11] X.A (call f us) (EP X pins σ Q) X.xe s
def tOp (r:R2) (ta tb:TE):TE:=λ σ H Q=>ta σ H λ x H1=>tb σ H1 λ y H2=>r x y H2 Q
def tUn (r:V->Hp->VK->Prop) (ta:TE):TE:=λ σ H Q=>ta σ H λ x H1=>r x H1 Q
def rI (C:Int->Int->Prop) (g:Int->Int->V):R2:=λ x y H Q=>∃ i j,x=.int i /\ y=.int j /\ C i j /\ Q (g i j) H
def rI0 (g:Int->Int->V):R2:=λ x y H Q=>∃ i j,x=.int i /\ y=.int j /\ Q (g i j) H
def rU (g:Int->V):V->Hp->VK->Prop:=λ x H Q=>∃ i,x=.int i /\ Q (g i) H
section
variable {a b c:Expr} {tc:TE} {pos:Pos}
theorem binT (ha:PE X a ta) (hb:PE X b tb) {σ:St} {R:V->V->Hp->Prop} (I:[10])
    (h:ta σ H λ x H1=>tb σ H1 λ y H2=>R x y H2) {f:Value->Value->Sem Value}
    (hf:∀ v u s2 x y H2,Inv X pins σ H2 s2->RelV x v->RelV y u->R x y H2->wpAny [11] X.A (f v u) Q X.xe s2) :
    wpAny [11] X.A (eval a X.env) (λ v s₁=>wpAny [11] X.A (eval b X.env) (λ u s₂=>wpAny [11] X.A (f v u) Q X.xe s₂) X.xe s₁) X.xe s:=by
 refine thn (ha pins s σ H _ I h) λ v s1 ⟨x,H1,I1,r1,q1⟩=>?_;refine thn (hb pins s1 σ H1 _ I1 q1) λ u s2 ⟨y,H2,I2,r2,q2⟩=>?_;exact hf v u s2 x y H2 I2 r1 r2 q2
theorem pe_op {op:Operator} {r:R2} (ho:OpR X (binaryOp op) r) (ha:PE X a ta) (hb:PE X b tb):PE X (.BinOp a op b pos) (tOp r ta tb):=by
 intro pins s σ H Q I h;exact wpAny_BinOp (binT ha hb I h λ v u s2 x y H2 I2 rx ry q=>ho pins s2 σ H2 x y v u Q I2 rx ry q)
theorem pe_un {op:UnaryOp} {r:V->Hp->VK->Prop} (ho:UnR X (unaryOp op) r) (ha:PE X a ta):PE X (.UnaryOp op a pos) (tUn r ta):=by
 intro pins s σ H Q I h;exact UnaryOp_ (thn (ha pins s σ H _ I h) λ v s1 ⟨x,H1,I1,r1,q1⟩=>ho pins s1 σ H1 x v Q I1 r1 q1)
theorem opI {f:Value->Value->Sem Value} {C:Int->Int->Prop} {g:Int->Int->Int}
    (rule:∀ (i j:Int) (t u:Tok) (s:[88]) (Q:[9]) (E:[9]),C i j->Q (.int (g i j) s.toks) { s with toks:=s.toks + 1 }->wpAny [11] X.A (f (.int i t) (.int j u)) Q E s) :
    OpR X f (rI C λ i j=>.int (g i j)):=by
 intro pins s σ H x y v u Q I rx ry h;obtain ⟨i,j,rfl,rfl,hc,q⟩:=h;obtain ⟨t,rfl⟩:=rx;obtain ⟨t',rfl⟩:=ry;exact rule i j t t' s _ _ hc ⟨.int (g i j),H,I.tok _,⟨_,rfl⟩,q⟩
theorem opI0 {f:Value->Value->Sem Value} {g:Int->Int->Int}
    (rule:∀ (i j:Int) (t u:Tok) (s:[88]) (Q:[9]) (E:[9]),Q (.int (g i j) s.toks) { s with toks:=s.toks + 1 }->wpAny [11] X.A (f (.int i t) (.int j u)) Q E s) :
    OpR X f (rI0 λ i j=>.int (g i j)):=by
 intro pins s σ H x y v u Q I rx ry h;obtain ⟨i,j,rfl,rfl,q⟩:=h;obtain ⟨t,rfl⟩:=rx;obtain ⟨t',rfl⟩:=ry;exact rule i j t t' s _ _ ⟨.int (g i j),H,I.tok _,⟨_,rfl⟩,q⟩
theorem opB0 {f:Value->Value->Sem Value} {g:Int->Int->Bool}
    (rule:∀ (i j:Int) (t u:Tok) (s:[88]) (Q:[9]) (E:[9]),Q (.bool (g i j)) s->wpAny [11] X.A (f (.int i t) (.int j u)) Q E s) :
    OpR X f (rI0 λ i j=>.bl (g i j)):=by
 intro pins s σ H x y v u Q I rx ry h;obtain ⟨i,j,rfl,rfl,q⟩:=h;obtain ⟨t,rfl⟩:=rx;obtain ⟨t',rfl⟩:=ry;exact rule i j t t' s _ _ ⟨.bl (g i j),H,I,rfl,q⟩
def CPow (i j:Int):Prop:=0<=j /\ j<=1000000 /\ i.natAbs < 2 ^ 64
def CMul (i j:Int):Prop:=(-(2 ^ 64) < i /\ i < 2 ^ 64) \/ (-(2 ^ 64) < j /\ j < 2 ^ 64)
theorem CMul.ok {i j:Int} (h:CMul i j):IntMulOk i j:=by
 rcases h with ⟨h1,h2⟩ | ⟨h1,h2⟩
 ·exact .of_left (intBits_le_64 h1 h2)
 ·exact .of_right (intBits_le_64 h1 h2)
theorem op_add:OpR X (binaryOp .Add) (rI0 λ i j=>.int (i + j)):=opI0 λ _ _ _ _ _ _ _ q=>add_int q
theorem tj5:OpR X (binaryOp .Sub) (rI0 λ i j=>.int (i - j)):=opI0 λ _ _ _ _ _ _ _ q=>sub_int q
theorem op_mod:OpR X (binaryOp .Mod) (rI (λ _ j=>0 < j) λ i j=>.int (i % j)):=opI λ i j _ _ _ _ _ hc q=>by
 have h1:(0:Int) < j:=hc;exact mod_int' [7] (by rw [Int.fmod_eq_emod_of_nonneg i [7]]; exact q)
theorem op_pow:OpR X (binaryOp .Pow) (rI CPow λ i j=>.int (i ^ j.toNat)):=opI λ _ _ _ _ _ _ _ hc q=>pow_int_small hc.1 hc.2.1 hc.2.2 q
theorem unI {f:Value->Sem Value} {g:Int->Int}
    (rule:∀ (i:Int) (t:Tok) (s:[88]) (Q:[9]) (E:[9]),Q (.int (g i) s.toks) { s with toks:=s.toks + 1 }->wpAny [11] X.A (f (.int i t)) Q E s) :
    UnR X f (rU λ i=>.int (g i)):=by
 intro pins s σ H x v Q I rx h;obtain ⟨i,rfl,q⟩:=h;obtain ⟨t,rfl⟩:=rx;exact rule i t s _ _ ⟨.int (g i),H,I.tok _,⟨_,rfl⟩,q⟩
theorem sj4:UnR X (unaryOp .USub) (rU λ i=>.int (-i)):=unI λ _ _ _ _ _ q=>neg_int q
end
def scal:V->V->Bool
 | .non,.non=>true | .non,.int _=>true | .int _,.non=>true | .non,.bl _=>true | .bl _,.non=>true | .non,.str _=>true | .str _,.non=>true
 | .int _,.int _=>true | .bl _,.bl _=>true | .str _,.str _=>true | .byt _,.byt _=>true
 | .int _,.str _=>true | .str _,.int _=>true | .bl _,.str _=>true | .str _,.bl _=>true
 | _,_=>false
def rEq:R2:=λ x y H Q=>scal x y=true /\ Q (.bl (decide (x=y))) H
def rNe:R2:=λ x y H Q=>scal x y=true /\ Q (.bl (!decide (x=y))) H
theorem so2 {i j:Int}:decide (V.int i=V.int j)=(i == j):=by
 rw [Bool.eq_iff_iff];simp
theorem wm3 {i j:Bool}:decide (V.bl i=V.bl j)=(i == j):=by
 rw [Bool.eq_iff_iff];simp
theorem to2 {i j:Str}:decide (V.str i=V.str j)=(i == j):=by
 rw [Bool.eq_iff_iff];simp
theorem xp2 {i j:Array UInt8}:decide (V.byt i=V.byt j)=(i.toList == j.toList):=by
 rw [Bool.eq_iff_iff];cases i;cases j;simp
variable {us:[27]}
section
variable {a b c:Expr} {tc:TE} {pos:Pos}
theorem yb0 {σ:St} {Q:VK} {k k':Bool} (I:[10]) (q:Q (.bl k) H) (e:k=k'):EP X pins σ Q (.bool k') s:=by
 subst e;exact ⟨.bl k,H,I,rfl,q⟩
theorem op_eq:OpR X (compareOp .Eq) rEq:=by
 intro pins s σ H x y v u Q I rx ry h;obtain ⟨hs,q⟩:=h;cases x with
 | non =>
  cases rx;cases y with
  | non=>cases ry; exact PySem.EqNone.eq_none_none [74]
  | bl j=>cases ry; exact PySem.EqNone.eq_none_bool [74]
  | int j=>obtain ⟨t',rfl⟩:=ry; exact PySem.EqNone.eq_none_int [74]
  | str j=>obtain ⟨t',rfl⟩:=ry; exact PySem.EqNone.eq_none_str [74]
  | _=>exact absurd [68] Bool.false_ne_true
 | bl i =>
  cases rx;cases y with
  | non=>cases ry; exact PySem.EqNone.eq_bool_none [74]
  | bl j=>cases ry; exact eq_bool (yb0 I q wm3)
  | str j=>obtain ⟨t',rfl⟩:=ry; exact PySem.EqMixed.eq_bool_str [74]
  | _=>exact absurd [68] Bool.false_ne_true
 | int i =>
  obtain ⟨t,rfl⟩:=rx;cases y with
  | non=>cases ry; exact PySem.EqNone.eq_int_none [74]
  | int j=>obtain ⟨t',rfl⟩:=ry; exact eq_int (yb0 I q so2)
  | str j=>obtain ⟨t',rfl⟩:=ry; exact PySem.EqMixed.eq_int_str [74]
  | _=>exact absurd [68] Bool.false_ne_true
 | str i =>
  obtain ⟨t,rfl⟩:=rx;cases y with
  | non=>cases ry; exact PySem.EqNone.eq_str_none [74]
  | bl j=>cases ry; exact PySem.EqMixed.eq_str_bool [74]
  | int j=>obtain ⟨t',rfl⟩:=ry; exact PySem.EqMixed.eq_str_int [74]
  | str j=>obtain ⟨t',rfl⟩:=ry; exact eq_str (yb0 I q to2)
  | _=>exact absurd [68] Bool.false_ne_true
 | byt i =>
  obtain ⟨t,rfl⟩:=rx;cases y with
  | byt j=>obtain ⟨t',rfl⟩:=ry; exact PySem.W.eq_bytes (yb0 I q xp2)
  | _=>exact absurd [68] Bool.false_ne_true
 | _=>cases y <;> exact absurd [68] Bool.false_ne_true
theorem op_ne:OpR X (compareOp .NotEq) rNe:=by
 intro pins s σ H x y v u Q I rx ry h;obtain ⟨hs,q⟩:=h;cases x with
 | non =>
  cases rx;cases y with
  | non=>cases ry; exact PySem.EqNone.ne_none_none [74]
  | bl j=>cases ry; exact PySem.EqNone.ne_none_bool [74]
  | int j=>obtain ⟨t',rfl⟩:=ry; exact PySem.EqNone.ne_none_int [74]
  | str j=>obtain ⟨t',rfl⟩:=ry; exact PySem.EqNone.ne_none_str [74]
  | _=>exact absurd [68] Bool.false_ne_true
 | bl i =>
  cases rx;cases y with
  | non=>cases ry; exact PySem.EqNone.ne_bool_none [74]
  | bl j=>cases ry; exact ne_bool (yb0 I q (congrArg not wm3))
  | str j=>obtain ⟨t',rfl⟩:=ry; exact PySem.EqMixed.ne_bool_str [74]
  | _=>exact absurd [68] Bool.false_ne_true
 | int i =>
  obtain ⟨t,rfl⟩:=rx;cases y with
  | non=>cases ry; exact PySem.EqNone.ne_int_none [74]
  | int j=>obtain ⟨t',rfl⟩:=ry; exact ne_int (yb0 I q (congrArg not so2))
  | str j=>obtain ⟨t',rfl⟩:=ry; exact PySem.EqMixed.ne_int_str [74]
  | _=>exact absurd [68] Bool.false_ne_true
 | str i =>
  obtain ⟨t,rfl⟩:=rx;cases y with
  | non=>cases ry; exact PySem.EqNone.ne_str_none [74]
  | bl j=>cases ry; exact PySem.EqMixed.ne_str_bool [74]
  | int j=>obtain ⟨t',rfl⟩:=ry; exact PySem.EqMixed.ne_str_int [74]
  | str j=>obtain ⟨t',rfl⟩:=ry; exact ne_str (yb0 I q (congrArg not to2))
  | _=>exact absurd [68] Bool.false_ne_true
 | byt i =>
  obtain ⟨t,rfl⟩:=rx;cases y with
  | byt j=>obtain ⟨t',rfl⟩:=ry; exact PySem.W.ne_bytes (yb0 I q (congrArg not xp2))
  | _=>exact absurd [68] Bool.false_ne_true
 | _=>cases y <;> exact absurd [68] Bool.false_ne_true
theorem op_lt:OpR X (compareOp .Lt) (rI0 λ i j=>.bl (decide (i < j))):=opB0 λ _ _ _ _ _ _ _ q=>lt_int q
theorem op_le:OpR X (compareOp .LtE) (rI0 λ i j=>.bl (decide (i<=j))):=opB0 λ _ _ _ _ _ _ _ q=>le_int q
theorem op_gt:OpR X (compareOp .Gt) (rI0 λ i j=>.bl (decide (j < i))):=opB0 λ _ _ _ _ _ _ _ q=>gt_int q
theorem op_ge:OpR X (compareOp .GtE) (rI0 λ i j=>.bl (decide (j<=i))):=opB0 λ _ _ _ _ _ _ _ q=>ge_int q
theorem wj2:OpR X (compareOp .In) (λ x y H Q=>∃ i j,x=.str i /\ y=.str j /\ Q (.bl (!(Builtin.Str.occurrences j i 0 j.length 1).isEmpty)) H):=by
 intro pins s σ H x y v u Q I rx ry h;obtain ⟨i,j,rfl,rfl,q⟩:=h;obtain ⟨t,rfl⟩:=rx;obtain ⟨t',rfl⟩:=ry;exact in_str (yb0 I q rfl)
theorem op_isN:OpR X (compareOp .Is) (λ x y H Q=>y=.non /\ Q (.bl (decide (x=.non))) H):=by
 intro pins s σ H x y v u Q I rx ry h;obtain ⟨rfl,q⟩:=h;cases ry;refine is_none_gen (yb0 I q ?_)
 cases x <;> first
  | (cases rx; rfl)
  | (obtain ⟨t,rfl⟩:=rx; rfl)
theorem OpR.or {f:Value->Value->Sem Value} {r r':R2} (h:OpR X f r) (h':OpR X f r'):OpR X f (λ x y H Q=>r x y H Q \/ r' x y H Q):=by
 intro pins s σ H x y v u Q I rx ry q;rcases q with q | q
 ·exact h pins s σ H x y v u Q I rx ry q
 ·exact h' pins s σ H x y v u Q I rx ry q
theorem uk3 (b:Expr) {op:CmpOp} (h:op ≠ .In:=by decide) (h2:op ≠ .NotIn:=by decide):behindInMarks op b=false:=by
 have e1:(op == CmpOp.In)=false:=by cases op <;> first | rfl | exact absurd rfl h
 have e2:(op == CmpOp.NotIn)=false:=by cases op <;> first | rfl | exact absurd rfl h2
 cases b <;> simp [behindInMarks,e1,e2]
theorem yz3 {op:CmpOp} {r:R2} (ho:OpR X (compareOp op) r) (ha:PE X a ta) (hb:PE X b tb) (hm:behindInMarks op b=false):PE X (.Compare a [op] [b] pos) (tOp r ta tb):=by
 intro pins s σ H Q I h;exact wpAny_Compare1 (binT ha hb I h λ v u s2 x y H2 I2 rx ry q=>ho pins s2 σ H2 x y v u Q I2 rx ry q) hm
def xo4 (t:TE):TT:=λ σ H Q=>t σ H λ x H'=>∃ k,x=.bl k /\ Q k H'
theorem sw3 {op:CmpOp} {r:R2} (ho:OpR X (compareOp op) r) (ha:PE X a ta) (hb:PE X b tb) (hm:behindInMarks op b=false):PT X (.Compare a [op] [b] pos) (xo4 (tOp r ta tb)):=by
 intro pins s σ H Q I h
 refine wpAny_isTrue_Compare1 (thn (ha pins s σ H _ I h) λ v s1 ⟨x,H1,I1,r1,q1⟩=>thn (hb pins s1 σ H1 _ I1 q1) λ u s2 ⟨y,H2,I2,r2,q2⟩ =>
  thn (ho pins s2 σ H2 x y v u _ I2 r1 r2 q2) λ c s3 ⟨z,H3,I3,r3,k,e,q3⟩=>?_) hm
 subst e;cases r3;exact wpAny_truthy_bool ⟨H3,I3,q3⟩
theorem vg1:(sizeLine:Nat) < 2 ^ 63:=by rw [sizeLine_eq]; decide
theorem za2:OpR X (binaryOp .Add) (λ x y H Q=>∃ i j,x=.str i /\ y=.str j /\ i.length + j.length<=sizeLine /\ Q (.str (i ++ j)) H):=by
 intro pins s σ H x y v u Q I rx ry h;obtain ⟨i,j,rfl,rfl,hz,q⟩:=h;obtain ⟨t,rfl⟩:=rx;obtain ⟨t',rfl⟩:=ry;exact add_str (λ t' tk=>⟨.str (i ++ j),H,I.tok _,⟨_,rfl⟩,q⟩) hz
theorem zr0 {x:V} (r:Vals [x] us):∃ u,us=[u] /\ RelV x u:=by
 cases r with
 | cons r1 r2=>cases r2; exact ⟨_,rfl,r1⟩
theorem sc2 {x y:V} (r:Vals [x,y] us):∃ u w',us=[u,w'] /\ RelV x u /\ RelV y w':=by
 cases r with
 | cons r1 r2 =>
  cases r2 with
  | cons r3 r4=>cases r4; exact ⟨_,_,rfl,r1,r3⟩
theorem ve3:CallR X (.builtin "abs") (λ xs H Q=>∃ i,xs=[.int i] /\ Q (.int (if i < 0 then -i else i)) H):=by
 intro pins s σ H xs us Q I r h;obtain ⟨i,rfl,q⟩:=h;obtain ⟨u,rfl,t,rfl⟩:=zr0 r;exact call_abs_int λ u tk=>⟨.int (if i < 0 then -i else i),H,I.tok _,⟨_,rfl⟩,q⟩
theorem wq2 (hc:X.calm=true):CallR X (.builtin "min") (λ xs H Q=>∃ i j,xs=[.int i,.int j] /\ Q (.int (if j < i then j else i)) H):=by
 intro pins s σ H xs us Q I r h;obtain ⟨i,j,rfl,q⟩:=h;obtain ⟨u,w',rfl,⟨t,rfl⟩,⟨t',rfl⟩⟩:=sc2 r;refine min_two_ints (I.ok.hd hc) λ h' tk k=>⟨_,H,I.kept k,?_,q⟩;by_cases hj:j < i
 ·rw [if_pos hj,if_pos hj]; exact ⟨_,rfl⟩
 ·rw [if_neg hj,if_neg hj]; exact ⟨_,rfl⟩
theorem call_int1:CallR X (.type "int") (λ xs H Q=>(∃ i,xs=[.int i] /\ Q (.int i) H) \/ ∃ k,xs=[.bl k] /\ Q (.int (if k then 1 else 0)) H):=by
 intro pins s σ H xs us Q I r h;rcases h with ⟨i,rfl,q⟩ | ⟨k,rfl,q⟩
 ·obtain ⟨u,rfl,t,rfl⟩:=zr0 r;exact call_int_int ⟨.int i,H,I,⟨_,rfl⟩,q⟩
 ·obtain ⟨u,rfl,r1⟩:=zr0 r;cases r1;exact call_int_bool ⟨.int (if k then 1 else 0),H,I.tok _,⟨_,rfl⟩,q⟩
theorem vi1:CallR X (.type "str") (λ xs H Q=>∃ i,xs=[.int i] /\ i.natAbs.log2 < 1920 /\ Q (.str (toString i)) H):=by
 intro pins s σ H xs us Q I r h;obtain ⟨i,rfl,hz,q⟩:=h;obtain ⟨u,rfl,t,rfl⟩:=zr0 r;exact PySem.P.str_of_int hz ⟨.str _,H,I.tok _,⟨_,rfl⟩,q⟩
end
structure ObjM (h:Heap) (x dx C:Addr) (mA:Str->Option Value):Prop where
 obj:h.get? x=some (instObj C dx)
 ns:h.Ns1 dx mA
 ne:dx ≠ x
variable {dx:Addr} {mA:[25]}
theorem wk2 (n:h.Ns1 dx mA):∃ od,h.get? dx=some od /\ ∀ name,lookIn name od=some (mA name):=by
 obtain ⟨o,es,ep,ho,hd,hk,_,hm⟩:=n;refine ⟨o,ho,λ name=>?_⟩;have e:=hm name;unfold nsFind findBy at e;rw [<- Array.find?_toList] at e;unfold lookIn;rw [hd];dsimp only;split
 ·rename_i y q;rw [q] at e;exact congrArg some e
 ·rename_i q;rw [q] at e
  have a:es.toList.any (·.refKey)=false:=by
   rw [List.any_eq_false];intro y hy;obtain ⟨z,t,hkey⟩:=hk y (Array.mem_toList_iff.mp hy);simp [DictEntry.refKey,hkey]
  have a':¬ es.toList.any (·.refKey)=true:=by rw [a]; exact Bool.false_ne_true
  rw [if_neg a'];exact congrArg some e
variable {C:Addr}
theorem ObjM.look {x:Addr} (I:ObjM h x dx C mA):∃ od,PySem.W.InstAt h x (instObj C dx) C (some od) /\ ∀ name,lookIn name od=some (mA name) :=
 let ⟨od,ho,hl⟩:=wk2 I.ns
 ⟨od,⟨I.obj,rfl,rfl,ho⟩,hl⟩
variable {pl:Sem Bool} {name:Str} {kw:List (Str × Value)}
section
variable {prog:[83]} {w:World} {E:[9]} {x f:Addr} {v:Value}
theorem vd4 {expr:Bool} (X:K.In s.heap) (I:ObjM s.heap x dx C mA) (hg:plainGet K C name=true) (hh:hasDictIn K C=true)
    (ha:findIn K (.ref C) name=some none) (hv:mA name=some v) (hv':handedIn v=true) (h:Q v { s with toks:=s.toks + 1 }) :
    wpAny [13] A (getAttr (.ref x) name expr) Q E s:=by
 obtain ⟨od,J,hl⟩:=I.look;exact PySem.W.get_value X J (plainGet_of hg).1 (PySem.W.findObj_own hh ha rfl (by rw [hl,hv])) hv' h
theorem zc3 {Q:Value × List Value->Shared->Prop} (X:K.In s.heap) (I:ObjM s.heap x dx C mA) (hg:plainGet K C name=true)
    (hf:findIn K (.ref C) name=some (some (.ref f))) (ht:isFn K (.ref f)=true) (hv:mA name=none) (h:Q (.ref f,[.ref x]) s) :
    wpAny [13] A (getMethod (.ref x) name pl) Q E s:=by
 obtain ⟨od,J,hl⟩:=I.look;exact PySem.W.method_fn X J (plainGet_of hg).1 (plainGet_of hg).2 hf (beq_iff_eq.mp ht) (by show (lookIn name od).map (·.isSome)=some false; rw [hl,hv]; rfl) h
theorem xt3 {ns:[29]} {Q:Unit->Shared->Prop} (X:K.In s.heap) (I:ObjM s.heap x dx C mA)
    (hs:findIn K (.ref C) "__setattr__" = some (some (.builtin "object.__setattr__"))) (hp:plainOver K C=true) (ht:takerIn K C name=some none) (hh:hasDictIn K C=true)
    (hw:PySem.Within mA ns) (hsz:ns.length<=sizeLine)
    (h:∀ h',ObjM h' x dx C (λ y=>if y=name then some v else mA y)->Heap.SameBut dx s.heap h'->Q () { s with heap:=h',toks:=s.toks + 2 }) :
    wpAny [13] A (setAttr (.ref x) name v) Q E s:=by
 obtain ⟨od,J,hl⟩:=I.look;refine PySem.W.set_plain X J hs (PySem.W.osa_open (s:={ s with toks:=s.toks + 1 }) (r:=none) X J hp ht λ b=>?_);obtain ⟨cd,hc,hd'⟩:=PySem.W.any_some hh;have hx:s.heap.get? x=some ⟨.ref C,some dx,.plain,#[]⟩:=I.obj;refine wpAny_bind (wpAny_pure (wpAny_bind (wpAny_bind (wpAny_loadPart hx (wpAny_bind (PySem.W.Looks.here (s:={ s with toks:=s.toks + 1 }) (PySem.W.looks_clsIn X hc) ?_))))));rw [hd'];refine wpAny_pure (a:=some dx) (wpAny_bind (wpAny_pure (wpAny_bind ?_)));refine wpAny_nsSet1 (s:={ s with toks:=s.toks + 1 }) I.ns λ h' hn2 hs2=>?_;obtain ⟨oD,esD,epD,hoD,hdD,hcD⟩:=hn2.count (PySem.Within.cons name v hw);refine wpAny_bind (wpAny_lookBehind hoD (by rw [hdD]; exact pastItsLine_dict (Nat.le_trans hcD (by rw [length_cons]; omega))) ?_);exact wpAny_pure (h _ ⟨(hs2.2 _ (Ne.symm I.ne)).trans I.obj,hn2,I.ne⟩ hs2)
theorem zz2 {R:Result->Shared->Prop} {vs:[27]} (X:K.In s.heap) (hm:makesIn K C=true)
    (hi:findIn K (.ref C) "__init__" = some (some (.ref f))) (hf:typeIn K (.ref f)=some (.type "function"))
    (h:codeAny [13] (A.under (.builtin "type.__call__" ⟨.ref C :: vs,kw⟩)) (.call (.ref f) ⟨.ref [54] :: vs,kw⟩) (PySem.W.InitBack [54] R)
     { s with heap:=(s.heap.push emptyDict).push (instObj C s.heap.objs.size) }) :
    codeAny [13] A (.call (.ref C) ⟨vs,kw⟩) R s:=by
 obtain ⟨hh,g,d,t,os⟩:=s;exact PySem.W.make_core (PySem.W.makes_of X hm) (PySem.W.looks_findIn X hi) (λ self=>PySem.W.bind_fn X self hf) (.inl rfl) h
end
def putF (f:Str) (v:V):List (Str × V)->List (Str × V)
 | []=>[(f,v)]
 | (g,x) :: r=>if g=f then (g,v) :: r else (g,x) :: putF f v r
theorem ts0 (f g:Str) (v:V):∀ fs:List (Str × V),(putF f v fs).lookup g=if g=f then some v else fs.lookup g
 | []=>by
  show List.lookup g [(f,v)]=_;by_cases h:g=f
  ·have hb:(g == f)=true:=beq_iff_eq.mpr h;simp only [List.lookup,hb,if_pos h]
  ·have hb:(g == f)=false:=beq_eq_false_iff_ne.mpr h;simp only [List.lookup,hb,if_neg h]
 | (k,x) :: r=>by
  have ih:=ts0 f g v r;rw [show putF f v ((k,x) :: r)=(if k=f then (k,v) :: r else (k,x) :: putF f v r) from rfl];by_cases hk:k=f
  ·rw [if_pos hk];by_cases h:g=k
   ·have hb:(g == k)=true:=beq_iff_eq.mpr h;simp only [List.lookup,hb,if_pos (h.trans hk)]
   ·have hb:(g == k)=false:=beq_eq_false_iff_ne.mpr h;simp only [List.lookup,hb,if_neg (λ e:g=f=>h (e.trans hk.symm))]
  ·rw [if_neg hk];by_cases h:g=k
   ·have hb:(g == k)=true:=beq_iff_eq.mpr h;simp only [List.lookup,hb,if_neg (λ e:g=f=>hk (h.symm.trans e))]
   ·have hb:(g == k)=false:=beq_eq_false_iff_ne.mpr h;simp only [List.lookup,hb];exact ih
theorem zt0 (f:Str) (v:V):∀ fs:List (Str × V),f ∈ (putF f v fs).map (·.1) /\ ∀ g,g ∈ fs.map (·.1)->g ∈ (putF f v fs).map (·.1)
 | []=>⟨by simp [putF],λ g h=>by simp at h⟩
 | (k,x) :: r=>by
  obtain ⟨i1,i2⟩:=zt0 f v r;rw [show putF f v ((k,x) :: r)=(if k=f then (k,v) :: r else (k,x) :: putF f v r) from rfl];by_cases hk:k=f
  ·rw [if_pos hk];subst hk;exact ⟨by simp,λ g h=>by simpa using h⟩
  ·rw [if_neg hk];refine ⟨?_,λ g h=>?_⟩
   ·rw [map_cons];exact mem_cons_of_mem _ i1
   ·rw [map_cons] at h ⊢;rcases List.mem_cons.mp h with e | e
    ·exact List.mem_cons.mpr (.inl e)
    ·exact mem_cons_of_mem _ (i2 g e)
theorem xt0 (f:Str) (v:V):∀ fs:List (Str × V),(putF f v fs).length<=fs.length + 1
 | []=>by simp [putF]
 | (k,x) :: r=>by
  have ih:=xt0 f v r;rw [show putF f v ((k,x) :: r)=(if k=f then (k,v) :: r else (k,x) :: putF f v r) from rfl];by_cases hk:k=f
  ·rw [if_pos hk,length_cons,length_cons]; omega
  ·rw [if_neg hk,length_cons,length_cons]; omega
theorem RelO.some_of {v:V} {o:Option Value} (r:RelO (some v) o):∃ u,o=some u /\ RelV v u:=by
 cases o with
 | none=>exact (show False from r).elim
 | some u=>exact ⟨u,rfl,r⟩
theorem RelO.none_of {o:Option Value} (r:RelO none o):o=none:=by
 cases o with
 | none=>rfl
 | some u=>exact (show False from r).elim
theorem um2 {v:V} {u:Value} (r:RelV v u):handedIn u=true:=by
 cases v with
 | non=>cases (show u=Value.none from r); rfl
 | bl b=>cases (show u=Value.bool b from r); rfl
 | int i=>obtain ⟨t,e⟩:=(show ∃ t,u=Value.int i t from r); cases e; rfl
 | str x=>obtain ⟨t,e⟩:=(show ∃ t,u=Value.str x t from r); cases e; rfl
 | byt b=>obtain ⟨t,e⟩:=(show ∃ t,u=Value.bytes b t from r); cases e; rfl
 | flt b=>obtain ⟨t,e⟩:=(show ∃ t,u=Value.float b t from r); cases e; rfl
 | ref a=>cases (show u=Value.ref a from r); rfl
 | ty n=>cases (show u=Value.type n from r); rfl
section
variable {P:[83]} {w:World} {a:Addr} {fs fs':List (Str × V)}
theorem ym1 (hok:HOk P w H h) (e:H a=some (.ins C dx fs)):∃ mA,ObjM h a dx C mA /\ (∀ f,RelO (fs.lookup f) (mA f)) /\ PySem.Within mA (fs.map (·.1)) /\ fs.length<=1000 /\ H dx=some (.own a):=by
 obtain ⟨d,z,ne,ob,mA,n,r,q⟩:=(show ObjOk P w H h a (.ins C dx fs) from hok a _ e);exact ⟨mA,⟨ob,n,ne⟩,r,q,z,d⟩
end
structure Cls (K:PySem.W.Frag) (C:Addr):Prop where
 pg:plainGet K C Str.empty=true
 hd:hasDictIn K C=true
 po:plainOver K C=true
 sa:findIn K (.ref C) "__setattr__" = some (some (.builtin "object.__setattr__"))
theorem Cls.get (c:Cls K C) (f:Str):plainGet K C f=true:=c.pg
def NoAttr (K:[94]) (C:Addr) (f:Str):Prop:=findIn K (.ref C) f=some none
theorem NoAttr.taker {f:Str} (n:NoAttr K C f):takerIn K C f=some none:=by
 unfold takerIn;rw [show findIn K (.ref C) f=some none from n];rfl
structure Meth (K:PySem.W.Frag) (C:Addr) (m:Str) (f:Addr):Prop where
 at_:findIn K (.ref C) m=some (some (.ref f))
 fn:isFn K (.ref f)=true
 kp:keepIn K (.ref f)=true
variable {m:Str}
section
variable {σ:St} {a:Addr} {fs:List (Str × V)} {f:Str} {v:V} {E:[9]}
theorem zb2 {b:Bool} (I:[10]) (e:H a=some (.ins C dx fs)) (c:Cls X.K C) (n:NoAttr X.K C f) (l:fs.lookup f=some v)
    (h:∀ u s',Inv X pins σ H s'->RelV v u->Q u s'):wpAny [11] A (getAttr (.ref a) f b) Q E s:=by
 obtain ⟨mA,O,r,_,_,_⟩:=ym1 I.hok e;obtain ⟨u,hu,ru⟩:=RelO.some_of (v:=v) (o:=mA f) (by rw [<- l]; exact r f);exact vd4 I.kIn O (c.get f) c.hd n hu (um2 ru) (h u _ (I.tok _) ru)
theorem tx0 {g:Addr} {Q:Value × List Value->Shared->Prop} (I:[10]) (e:H a=some (.ins C dx fs)) (c:Cls X.K C) (k:Meth X.K C m g) (l:fs.lookup m=none)
    (h:Q (.ref g,[.ref a]) s):wpAny [11] A (getMethod (.ref a) m pl) Q E s:=by
 obtain ⟨mA,O,r,_,_,_⟩:=ym1 I.hok e;have hn:mA m=none:=RelO.none_of (by rw [<- l]; exact r m);exact zc3 I.kIn O (c.get m) k.at_ k.fn hn h
theorem xu1 {y:V} {u:Value} {Q:Unit->Shared->Prop} (I:[10]) (e:H a=some (.ins C dx fs)) (c:Cls X.K C) (n:NoAttr X.K C f) (hl:fs.length < 1000) (ry:RelV y u)
    (h:∀ s',Inv X pins σ (upd H a (.ins C dx (putF f y fs))) s'->Q () s'):wpAny [11] A (setAttr (.ref a) f u) Q E s:=by
 obtain ⟨mA,O,r,wi,_,ho⟩:=ym1 I.hok e;have hz:(fs.map (·.1)).length<=sizeLine:=by rw [length_map,sizeLine_eq]; omega
 refine xt3 I.kIn O c.sa c.po n.taker c.hd wi hz λ h' O' sb=>h _ ?_;have hd:∃ o,h'.get? dx=some o:=let ⟨o,_,_,e',_⟩:=O'.ns; ⟨o,e'⟩
 refine I.write (x:=a) (e:=dx) (by rw [e]; exact True.intro) (.inr ho) (λ b q hb z=>(sb.2 b hb).trans z) hd ?_;refine ⟨by rw [va0 O.ne]; exact ho,?_,O.ne,O'.obj,_,O'.ns,λ g=>?_,λ g hg=>?_⟩
 ·have:=xt0 f y fs; omega
 ·show RelO ((putF f y fs).lookup g) (if g=f then some u else mA g);rw [ts0];by_cases q:g=f
  ·rw [if_pos q,if_pos q]; exact ry
  ·rw [if_neg q,if_neg q]; exact r g
 ·by_cases q:g=f
  ·rw [q]; exact (zt0 f y fs).1
  ·refine (zt0 f y fs).2 g (wi g λ z=>hg ?_);show (if g=f then some u else mA g)=none;rw [if_neg q]; exact z
theorem Inv.made (I:[10]):Inv X pins σ (upd (upd H s.heap.objs.size (.own [54])) [54] (.ins C s.heap.objs.size []))
    { s with heap:=(s.heap.push emptyDict).push (instObj C s.heap.objs.size) }:=by
 have e1:(s.heap.push emptyDict).get? s.heap.objs.size=some emptyDict:=Heap.get?_push_size s.heap rfl
 have e2:((s.heap.push emptyDict).push (instObj C s.heap.objs.size)).get? [54]=some (instObj C s.heap.objs.size):=by
  have:=Heap.get?_push_size (s.heap.push emptyDict) (o:=instObj C s.heap.objs.size) rfl
  rwa [Heap.size_push] at this
 have e3:(s.heap.push emptyDict).Ns s.heap.objs.size (λ _=>none):=⟨emptyDict,#[],_,e1,rfl,(λ e he=>absurd he [18]),λ _=>rfl⟩;have I1:=I.laid (a:=s.heap.objs.size) (o:=.own [54]) (h':=s.heap.push emptyDict) (t':=s.toks) (λ b u q=>Heap.get?_push_of_some _ q) [19] ⟨_,e1⟩;refine I1.laid (a:=s.heap.objs.size + 1) (o:=.ins C s.heap.objs.size []) (t':=s.toks) (λ b u q=>Heap.get?_push_of_some _ q) (Nat.le_of_eq (Heap.size_push _ _)) ?_;have ne:s.heap.objs.size ≠ s.heap.objs.size + 1:=Nat.ne_of_lt (Nat.lt_succ_self _);refine ⟨by rw [va0 ne,zb0],Nat.zero_le _,ne,e2,λ _=>none,(Heap.Ns1.of_empty e3).at λ o q=>Heap.get?_push_of_some _ q,λ _=>True.intro,λ y hy=>absurd rfl hy⟩
theorem yg4 {prog:[83]} {w:World} {env:Env} {e:Expr} {f:Str} {pos:Pos} (hb:attributeBase e f env (eval e env)=eval e env)
    (h:wpAny [13] A (eval e env) (λ o s₁=>wpAny [13] A (getAttr o f true) Q E s₁) E s):wpAny [13] A (eval (.Attribute e f pos) env) Q E s :=
 Attribute_any_ h (by rw [arm_eval_Attribute,hb])
end
def tFld (K:[94]) (ta:TE) (f:Str):TE:=λ σ H Q=>ta σ H λ x H1=>∃ a C dx fs v,x=.ref a /\ H1 a=some (.ins C dx fs) /\ Cls K C /\ NoAttr K C f /\ fs.lookup f=some v /\ Q v H1
def sFld (K:[94]) (ta tv:TE) (f:Str):TS:=λ D σ H=>tv σ H λ y H1=>ta σ H1 λ x H2=>∃ a C dx fs,x=.ref a /\ H2 a=some (.ins C dx fs) /\ Cls K C /\ NoAttr K C f /\ fs.length < 1000 ∧
 D.nx σ (upd H2 a (.ins C dx (putF f y fs)))
section
variable {o e value:Expr} {f:Str} {pos tpos:Pos} {tv:TE}
theorem xj5 (he:PE X e ta) (hb:attributeBase e f X.env (eval e X.env)=eval e X.env):PE X (.Attribute e f pos) (tFld X.K ta f):=by
 intro pins s σ H Q I h;refine yg4 hb (thn (he pins s σ H _ I h) λ u s1 ⟨x,H1,I1,rx,a,C,dx,fs,v,ex,ea,c,n,l,q⟩=>?_);subst ex;obtain rfl:u=Value.ref a:=rx;exact zb2 I1 ea c n l λ u' s2 I2 ru=>⟨v,H1,I2,ru,q⟩
theorem yh5 (ha:PE X o ta) (hv:PE X value tv) (hs:swapsWith value (some (.Attribute o f pos')) pos.line X.env=pure false):PS X (.Assign [.Attribute o f pos'] value pos) (sFld X.K ta tv f):=by
 intro pins s σ H D I h;refine plainObj_wpAny_Assign_Attribute (thn (hv pins s σ H _ I h) λ u s1 ⟨y,H1,I1,ry,q⟩=>thn (ha pins s1 σ H1 _ I1 q) λ ov s2 ⟨x,H2,I2,rx,a,C,dx,fs,ex,ea,c,n,l,q2⟩=>?_) hs;subst ex;obtain rfl:ov=Value.ref a:=rx;exact xu1 I2 ea c n l ry λ s3 I3=>⟨σ,_,I3,q2⟩
end
section
variable {σ:St} {E:[9]} {c:Value} {b:Bool}
inductive TyOf (K:PySem.W.Frag) (H:Hp):V->Value->Prop where
 | non:TyOf K H .non (.type "NoneType")
 | bl (x:Bool):TyOf K H (.bl x) (.type "bool")
 | int (i:Int):TyOf K H (.int i) (.type "int")
 | str (x:Str):TyOf K H (.str x) (.type "str")
 | flt (x:UInt64):TyOf K H (.flt x) (.type "float")
 | lst {a:Addr} {xs:List V} (e:H a=some (.lst xs)):TyOf K H (.ref a) (.type "list")
 | frz {a:Addr} {o:Obj} {xs:List V} (e:H a=some (.frz o (.lst xs))):TyOf K H (.ref a) (.type "list")
 | tup {a:Addr} {xs:List V} (e:H a=some (.tup xs)):TyOf K H (.ref a) (.type "tuple")
 | dK {a:Addr} {kvs:List (Key × V)} (e:H a=some (.dK kvs)):TyOf K H (.ref a) (.type "dict")
 | dT {a:Addr} {kvs:List (List Key × V)} (e:H a=some (.dT kvs)):TyOf K H (.ref a) (.type "dict")
 | ins {a C dx:Addr} {fs:List (Str × V)} (e:H a=some (.ins C dx fs)) (cl:Cls K C) (ha:findIn K (.ref C) "__class__" = some (some (.builtin "object.__class__")))
     (hn:PySem.W.specialIn K (.builtin "object.__class__") "__get__" = some (some (.builtin "getset_descriptor.__get__"))) (htk:PySem.W.takesIn K (.builtin "object.__class__")=some true)
     (hm:PySem.W.mroIn K C (.type "object")=some true):TyOf K H (.ref a) (.ref C)
end
structure Room (k:Nat) (A:Around):Prop where
 hd:A.handled=none
 dp:A.depth + 3 * k + 5 < recursionLimit
 un:A.units + 16 * k + 200 < cLine
theorem Room.mono {j k:Nat} (r:Room k A) (h:j<=k):Room j A:=⟨r.hd,by have:=r.dp; omega,by have:=r.un; omega⟩
theorem Room.deeper {k:Nat} {A:Around} (r:Room (k + 1) A) (env:Env):Room k (A.deeper env) :=
 ⟨r.hd,by have:=r.dp; show A.depth + 1 + 3 * k + 5 < _; omega,by have:=r.un; show A.units + 3 + 16 * k + 200 < _; omega⟩
theorem sa2:(A.under (.builtin "type.__call__" ⟨.ref C :: us,kw⟩)).depth=A.depth + 1:=by
 first | rfl | simp [Around.under,Code.weight,Code.isCreation,Code.isGuard,Code.isCaller,Code.frames,Code.isFrame,guardIds]
theorem ta2:(A.under (.builtin "type.__call__" ⟨.ref C :: us,kw⟩)).units=A.units + 1:=by
 first | rfl | simp [Around.under,Code.cUnits,Code.frames,Code.isFrame]
theorem Room.make {k:Nat} (r:Room (k + 1) A) (C:Addr) (us:[27]) (kw:List (Str × Value)):Room k (A.under (.builtin "type.__call__" ⟨.ref C :: us,kw⟩)) :=
 ⟨r.hd,by have:=r.dp; rw [sa2]; omega,by have:=r.un; rw [ta2]; omega⟩
theorem Room.depth {k:Nat} {A:Around} (r:Room k A):A.depth < recursionLimit:=by have:=r.dp; omega
def tNil:TA:=λ _ H Q=>Q [] H
def tCons (ta:TE) (tr:TA):TA:=λ σ H Q=>ta σ H λ x H1=>tr σ H1 λ xs H2=>Q (x :: xs) H2
variable {es:List Expr}
section
variable {e:Expr} {t:TA} {pos:Pos}
theorem uj5:PA X [] tNil:=λ _ _ _ _ H Q I h=>Calls.spliced_nil ⟨[],H,I,.nil,h⟩
theorem uz3 (ha:PE X e te) (hr:PA X es t) (hs:starEach (e :: es) X.env=[26] :: starEach es X.env:=by rfl):PA X (e :: es) (tCons te t):=by
 intro pos pins s σ H Q I h;rw [hs];show wpAny _ _ (spliced ([26] :: backTo pos (starEach es X.env))) _ _ s;refine Calls.spliced_cons (thn (ha pins s σ H _ I h) λ u s1 ⟨x,H1,I1,r1,q1⟩=>?_);exact thn (hr pos pins s1 σ H1 _ I1 q1) λ us s2 ⟨xs,H2,I2,r2,q2⟩=>⟨x :: xs,H2,I2,.cons r1 r2,q2⟩
def tTup (t:TA):TE:=λ σ H Q=>t σ H λ xs H1=>xs.length<=sizeLine /\ ∀ p,H1 p=none->Q [43] (upd H1 p (.tup xs))
def tLst (t:TA):TE:=λ σ H Q=>t σ H λ xs H1=>xs.length<=sizeLine /\ ∀ p,H1 p=none->Q [43] (upd H1 p (.lst xs))
theorem yi5 {x1} (h:PA X es t):PE X (.Tuple es x1 pos) (tTup t):=by
 intro pins s σ H Q I hq;refine wpAny_Tuple_spliced (thn (h pos pins s σ H _ I hq) λ us s1 ⟨xs,H1,I1,r,z,q⟩=>⟨by rw [<- r.length]; exact z,?_⟩);have hf:H1 s1.heap.objs.size=none:=I1.hok.fresh [19];refine ⟨.ref s1.heap.objs.size,upd H1 s1.heap.objs.size (.tup xs),I1.laid (t':=s1.toks) (λ b u e=>Heap.get?_push_of_some _ e) [19] ?_,rfl,q _ hf⟩;exact ⟨z,us,r,⟨_,Heap.get?_push_size _ rfl,rfl,_,rfl⟩⟩
theorem ti5 (h:PA X es t):PE X (.List es pos) (tLst t):=by
 intro pins s σ H Q I hq;refine wpAny_List_spliced (thn (h pos pins s σ H _ I hq) λ us s1 ⟨xs,H1,I1,r,z,q⟩=>⟨by rw [<- r.length]; exact z,?_⟩);have hf:H1 s1.heap.objs.size=none:=I1.hok.fresh [19];refine ⟨.ref s1.heap.objs.size,upd H1 s1.heap.objs.size (.lst xs),I1.laid (t':=s1.toks) (λ b u e=>Heap.get?_push_of_some _ e) [19] ?_,rfl,q _ hf⟩;exact ⟨z,us,0,r,Heap.get?_push_size _ rfl⟩
end
abbrev Sp:=List V->Hp->VK->XK->Prop
abbrev CXT:=List Env->Hp->Shared->XK->Value->Shared->Prop
structure Env0 (P:Program) (w:World) (K:PySem.W.Frag) (mg:Str->Option Value) (base:Heap) (A:Around) (outer:List Env) (s:Shared) (H:Hp):Prop where
 frames:A.frames=some outer
 mod:Mod K mg base
 bs:∀ b o,base.get? b=some o->s.heap.get? b=some o /\ H b=none
 bsz:base.objs.size<=s.heap.objs.size
 funs:s.heap.FunFrames base outer
 frf:∀ b ∈ frs outer,H b=none
 hok:HOk P w H s.heap
 bare:AllBare s.gens
def CE (outer:List Env) (P:[83]) (w:World) (H:Hp) (s:[88]) (Q:VK) (u:Value) (s':[88]):Prop :=
 ∃ v H',s'.os=s.os /\ AllBare s'.gens /\ Un (frs outer) [] H H' s.heap s'.heap /\ HOk P w H' s'.heap /\ RelV v u /\ Q v H'
def CR (CX:CXT) (outer:List Env) (P:[83]) (w:World) (H:Hp) (s:[88]) (Q:VK) (E:XK) (r:Result) (s':[88]):Prop :=
 match r with
 | .ok (.ret u)=>CE outer P w H s Q u s'
 | .ok _=>False
 | .error e=>CX outer H s E e s'
structure FnOk (P:Program) (w:World) (K:PySem.W.Frag) (mg:Str->Option Value) (base:Heap) (CX:CXT) (k:Nat) (f:Addr) (fd:FuncData) (ps:List Str) (sp:Sp):Prop where
 len:∀ vs H Q E,sp vs H Q E->vs.length=ps.length
 run:∀ (A:Around) (outer:List Env) (s:Shared) (H:Hp) (args:Args) (us:List Value) (vs:List V) (Q:VK) (E:XK),Room k A->Env0 P w K mg base A outer s H->BindsTo s fd args (ps.zip us)->Vals vs us->sp vs H Q E ->
  codeAny (model P w) A (.call (.ref f) args) (CR CX outer P w H s Q E) s
theorem FnOk.mono {P:[83]} {w:World} {K:[94]} {mg:[25]} {base:Heap} {CX:CXT} {j k:Nat} {f:Addr} {fd:FuncData} {ps:[29]} {sp:Sp} (F:FnOk P w K mg base CX j f fd ps sp) (h:j<=k) :
    FnOk P w K mg base CX k f fd ps sp:=⟨F.len,λ A outer s H args us vs Q E hr=>F.run A outer s H args us vs Q E (hr.mono h)⟩
variable {mg:[25]} {base:Heap} {outer:List Env}
theorem Env0.make {P:[83]} {w:World} (e:Env0 P w K mg base A outer s H) (C:Addr) (us:[27]) (kw:List (Str × Value)) :
    Env0 P w K mg base (A.under (.builtin "type.__call__" ⟨.ref C :: us,kw⟩)) outer s H:=⟨by first | exact e.frames | (simpa [Around.under,Code.envs,Code.isFrame,pushEnvs] using e.frames),e.mod,e.bs,e.bsz,e.funs,e.frf,e.hok,e.bare⟩
section
variable {σ:St} 
theorem Inv.env0 (I:[10]):Env0 X.prog X.w X.K X.mg X.base X.A X.stack s H :=
 ⟨I.ok.frames,I.ok.mod,I.bs,Nat.le_trans I.ok.bsz I.sz,I.stack,I.stkFree,I.hok,I.bare⟩
theorem Inv.after {Q:VK} {u:Value} (I:[10]) (h:CE X.stack X.prog X.w H s Q u s'):EP X pins σ Q u s':=by
 obtain ⟨v,H',os,bare,un,hok,r,q⟩:=h;obtain ⟨hh,g,d,t,os'⟩:=s';obtain rfl:os'=s.os:=os;exact ⟨v,H',I.call (h':=hh) (g':=g) (d':=d) (t':=t) (ch:=[]) un hok bare (λ b z=>absurd z [18]),r,q⟩
end
def tCall (sp:Sp) (dvs:List V) (E:XK) (t:TA):TE:=λ σ H Q=>t σ H λ vs H1=>sp (vs ++ dvs) H1 Q E
def zo4 (C:Addr) (m:Str) (sp:Sp) (dvs:List V) (E:XK) (ta:TE) (t:TA):TE:=λ σ H Q=>ta σ H λ x H1=>∃ a dx fs,x=.ref a /\ H1 a=some (.ins C dx fs) /\ fs.lookup m=none ∧
 t σ H1 λ vs H2=>sp (x :: (vs ++ dvs)) H2 Q E
def tMake (C:Addr) (sp:Sp) (dvs:List V) (E:XK) (t:TA):TE:=λ σ H Q=>t σ H λ vs H1=>∀ x dx,H1 x=none->H1 dx=none->dx ≠ x ->
 sp (.ref x :: (vs ++ dvs)) (upd (upd H1 dx (.own x)) x (.ins C dx [])) (λ v H2=>v=.non /\ Q (.ref x) H2) E
def Binds (K:[94]) (fd:FuncData) (ps:[29]) (ds:[27]):Prop :=
 ∀ (s:[88]) (us:[27]),K.In s.heap->(us ++ ds).length=ps.length->BindsTo s fd ⟨us,[]⟩ (ps.zip (us ++ ds))
variable {fd:FuncData} {ps:[29]}
theorem Binds.all (h:∀ us:List Value,us.length=ps.length->bindArgs fd ⟨us,[]⟩=pure (ps.zip us)):Binds K fd ps []:=λ s us _ hl=>by
 rw [append_nil] at hl ⊢;exact .of_eq (h us hl)
def vo0 (CX:CXT) (X:Cx) (E:XK):Prop:=∀ (pins:[20]) (σ:St) (H:Hp) (s:[88]) (e:Value) (s':[88]),Inv X pins σ H s->CX X.stack H s E e s'->X.xe e s'
variable {vs:List V} {CX:CXT} {sp:Sp}
section
variable {k:Nat} {f:Addr} {dvs:List V} {ds:[27]} {E:XK} {x:Str} {pos apos:Pos} {e o:Expr} {t:TA}
theorem xg2 {σ:St} {Q:VK} (F:[72]) (hr:Room k X.A) (hb:Binds X.K fd ps ds) (hd:Vals dvs ds) (hx:vo0 CX X E)
    (I:[10]) (r:Vals vs us) (h:sp (vs ++ dvs) H Q E):wpAny [11] X.A (call (.ref f) us) (EP X pins σ Q) X.xe s:=by
 have r2:Vals (vs ++ dvs) (us ++ ds):=r.append hd;have hl:(us ++ ds).length=ps.length:=by rw [<- r2.length]; exact F.len _ _ _ _ h
 refine wpAny_call (codeAny_mono (F.run X.A X.stack s H ⟨us,[]⟩ (us ++ ds) (vs ++ dvs) Q E hr I.env0 (hb s us I.kIn hl) r2 h) λ r s' hq=>?_);cases r with
 | error e=>exact hx pins σ H s e s' I hq
 | ok fl =>
  cases fl with
  | ret u=>exact I.after hq
  | next=>exact False.elim hq
  | brk=>exact False.elim hq
  | cont=>exact False.elim hq
theorem ui2 (F:[72]) (hr:Room k X.A) (hg:Gl X x) (hm:X.mg x=some (.ref f)) (hk:keepIn X.K (.ref f)=true) (hb:Binds X.K fd ps ds) (hd:Vals dvs ds) (hx:vo0 CX X E)
    (ha:PA X (e :: es) t) (hdb:[17]=false:=by decide) (he:starEach (e :: es) X.env=[26] :: starEach es X.env:=by rfl) (hpl:[71].any (·.1)=false:=by rfl) :
    PE X [87] (tCall sp dvs E t):=by
 intro pins s σ H Q I h;refine wpAny_Call_Name_kw (xf0 I hg hm ?_ hdb);refine callWith_K (h₀:=X.base) I.ok.mod.kin hk (thn (ha pos pins s σ H _ I h) λ us s1 ⟨vs,H1,I1,r,q⟩=>⟨I1.kIn,?_⟩) he hpl;exact xg2 F hr hb hd hx I1 r q
theorem vy3 (he:PE X o ta) (c:Cls X.K C) (hm:Meth X.K C m f) (F:[72]) (hr:Room k X.A) (hb:Binds X.K fd ps ds) (hd:Vals dvs ds) (hx:vo0 CX X E) (ha:PA X (e :: es) t)
    (hst:starEach (e :: es) X.env=[26] :: starEach es X.env:=by rfl) (hpl:[71].any (·.1)=false:=by rfl)
    (ht:eval (.Call (.Attribute o m apos) (e :: es) [] pos) X.env=(do
     let ov <- eval o X.env
     standAt apos.atName
     let (f,first) <- holding [ov] (getMethod ov m pl)
     callWith pos f first (backTo pos (starEach (e :: es) X.env)) (backToKw pos (keywordEach [] X.env))):=by rfl) :
    PE X (.Call (.Attribute o m apos) (e :: es) [] pos) (zo4 C m sp dvs E ta t):=by
 intro pins s σ H Q I h;refine methodCall_KW (pl:=pl) (thn (he pins s σ H _ I h) λ u s1 ⟨x,H1,I1,rx,a,dx,fs,ex,ea,l,q⟩=>?_) ht;subst ex;obtain rfl:u=Value.ref a:=rx;refine tx0 I1 ea c hm l ?_;refine callWith_K (first:=[.ref a]) (h₀:=X.base) I.ok.mod.kin hm.kp (thn (ha pos pins s1 σ H1 _ I1 q) λ us s2 ⟨vs,H2,I2,r,q2⟩=>⟨I2.kIn,?_⟩) hst hpl;exact xg2 (us:=.ref a :: us) (vs:=.ref a :: vs) F hr hb hd hx I2 (.cons rfl r) q2
theorem ux2 (he:PE X o ta) (c:Cls X.K C) (hm:Meth X.K C m f) (F:[72]) (hr:Room k X.A) (hb:Binds X.K fd ps ds) (hd:Vals dvs ds) (hx:vo0 CX X E)
    (ht:eval (.Call (.Attribute o m apos) [] [] pos) X.env=(do
     let ov <- eval o X.env
     standAt apos.atName
     let (f,first) <- holding [ov] (getMethod ov m pl)
     callWith pos f first (backTo pos (starEach [] X.env)) (backToKw pos (keywordEach [] X.env))):=by rfl) :
    PE X (.Call (.Attribute o m apos) [] [] pos) (zo4 C m sp dvs E ta tNil):=by
 intro pins s σ H Q I h;refine methodCall_KW (pl:=pl) (thn (he pins s σ H _ I h) λ u s1 ⟨x,H1,I1,rx,a,dx,fs,ex,ea,l,q⟩=>?_) ht;subst ex;obtain rfl:u=Value.ref a:=rx;refine tx0 I1 ea c hm l ?_;exact callWith_K0 (first:=[.ref a]) I1.kIn hm.kp (xg2 (us:=[.ref a]) (vs:=[.ref a]) F hr hb hd hx I1 (.cons rfl .nil) q)
structure Mk (K:PySem.W.Frag) (C f:Addr):Prop where
 makes:makesIn K C=true
 init:findIn K (.ref C) "__init__" = some (some (.ref f))
 fn:isFn K (.ref f)=true
 kp:keepIn K (.ref C)=true
theorem zu2 {σ:St} {Q:VK} (M:Mk X.K C f) (F:[72]) (hr:Room (k + 1) X.A) (hb:Binds X.K fd ps ds) (hd:Vals dvs ds)
    (hx:vo0 CX X E) (I:[10]) (r:Vals vs us)
    (h:∀ x dx,H x=none->H dx=none->dx ≠ x->sp (.ref x :: (vs ++ dvs)) (upd (upd H dx (.own x)) x (.ins C dx [])) (λ v H2=>v=.non /\ Q (.ref x) H2) E) :
    wpAny [11] X.A (call (.ref C) us) (EP X pins σ Q) X.xe s:=by
 have hq:=h [54] s.heap.objs.size (I.hok.fresh (Nat.le_succ _)) (I.hok.fresh [19]) (Nat.ne_of_lt (Nat.lt_succ_self _));have I2:=Inv.made (C:=C) I;have r2:Vals (V.ref [54] :: (vs ++ dvs)) (Value.ref [54] :: (us ++ ds)):=.cons rfl (r.append hd)
 have hl:(Value.ref [54] :: us ++ ds).length=ps.length:=by
  have e:=r2.length;rw [F.len _ _ _ _ hq] at e;exact e.symm
 refine wpAny_call (zz2 (f:=f) I.kIn M.makes M.init (beq_iff_eq.mp M.fn) (codeAny_mono (F.run _ X.stack _ _ ⟨Value.ref [54] :: us,[]⟩ (Value.ref [54] :: (us ++ ds)) _ _ E (hr.make C us [])
  (I2.env0.make C us []) (hb _ (Value.ref [54] :: us) I2.kIn hl) r2 hq) λ r s' hq'=>?_))
 cases r with
 | error e=>exact hx pins σ _ _ e s' I2 hq'
 | ok fl =>
  cases fl with
  | ret u =>
   obtain ⟨v,H',I3,rv,ev,q3⟩:=I2.after hq';subst ev;exact ⟨rv,⟨V.ref [54],H',I3,rfl,q3⟩⟩
  | next=>exact False.elim hq'
  | brk=>exact False.elim hq'
  | cont=>exact False.elim hq'
theorem tx2 (M:Mk X.K C f) (F:[72]) (hr:Room (k + 1) X.A) (hg:Gl X x) (hm:X.mg x=some (.ref C)) (hb:Binds X.K fd ps ds) (hd:Vals dvs ds) (hx:vo0 CX X E)
    (hdb:[17]=false:=by decide):PE X (.Call (.Name x p) [] [] pos) (tMake C sp dvs E tNil):=by
 intro pins s σ H Q I h;refine wpAny_Call_Name_kw (xf0 I hg hm ?_ hdb);exact callWith_K0 I.kIn M.kp (zu2 (us:=[]) M F hr hb hd hx I .nil h)
end
structure FnScope (N P:List Str) (sc:Scope):Prop where
 kind:sc.kind=.function
 co:sc.isCoroutine=false
 gen:sc.isGenerator=false
 nd:N.Nodup
 pre:N.take P.length=P
 par:∀ x ∈ P,sc.names.lookup x=some .local \/ sc.names.lookup x=some .cell
 nofree:∀ y ∈ sc.names,y.2 ≠ .free
theorem si1 {kindOf:Str->Option NameKind} {x:Str}:∀ {binds:List (Str × Value)} {m:[25]},(∀ v,(x,v) ∉ binds)->bindL kindOf binds m x=m x
 | [],_,_=>rfl
 | (n,v) :: r,m,h=>by
  unfold bindL;rw [si1 λ w hw=>h w (mem_cons_of_mem _ hw)];split
  ·have:x ≠ n:=by rintro rfl; exact h v mem_cons_self
   simp [this]
  ·rfl
theorem yj1 {kindOf:Str->Option NameKind} {x:Str}:∀ {binds:List (Str × Value)} {m:[25]},(∀ v,(x,v) ∉ binds)->bindC kindOf binds m x=m x
 | [],_,_=>rfl
 | (n,v) :: r,m,h=>by
  unfold bindC;rw [yj1 λ w hw=>h w (mem_cons_of_mem _ hw)];split
  ·rfl
  ·have:x ≠ n:=by rintro rfl; exact h v mem_cons_self
   simp [this]
theorem xj1 {kindOf:Str->Option NameKind} {x:Str} {v:Value}:∀ {P:[29]} {vs:[27]} {i:Nat} {m:[25]},P.Nodup->P[i]?=some x->vs[i]?=some v->kindOf x=some .local ->
    bindL kindOf (P.zip vs) m x=some v
 | [],_,_,_,_,h,_,_=>by simp at h
 | _ :: _,[],_,_,_,_,h,_=>by simp at h
 | p :: P,w :: vs,0,m,nd,h1,h2,hk=>by
  simp at h1 h2; subst h1; subst h2;show bindL kindOf ((p,w) :: P.zip vs) m p=_;unfold bindL;rw [si1 λ v hv=>(List.nodup_cons.mp nd).1 (List.of_mem_zip hv).1,if_pos hk];simp
 | p :: P,w :: vs,i + 1,m,nd,h1,h2,hk=>by
  show bindL kindOf ((p,w) :: P.zip vs) m x=_;unfold bindL;exact xj1 (i:=i) (List.nodup_cons.mp nd).2 (by simpa using h1) (by simpa using h2) hk
theorem zj1 {kindOf:Str->Option NameKind} {x:Str} {v:Value}:∀ {P:[29]} {vs:[27]} {i:Nat} {m:[25]},P.Nodup->P[i]?=some x->vs[i]?=some v->kindOf x ≠ some .local ->
    bindC kindOf (P.zip vs) m x=some v
 | [],_,_,_,_,h,_,_=>by simp at h
 | _ :: _,[],_,_,_,_,h,_=>by simp at h
 | p :: P,w :: vs,0,m,nd,h1,h2,hk=>by
  simp at h1 h2; subst h1; subst h2;show bindC kindOf ((p,w) :: P.zip vs) m p=_;unfold bindC;rw [yj1 λ v hv=>(List.nodup_cons.mp nd).1 (List.of_mem_zip hv).1,if_neg hk];simp
 | p :: P,w :: vs,i + 1,m,nd,h1,h2,hk=>by
  show bindC kindOf ((p,w) :: P.zip vs) m x=_;unfold bindC;exact zj1 (i:=i) (List.nodup_cons.mp nd).2 (by simpa using h1) (by simpa using h2) hk
def start (N:[29]) (vs:List V):St:=vs.map some ++ List.replicate (N.length - vs.length) none
def cxOf (CX:CXT) (P:[83]) (w:World) (K:[94]) (mg:[25]) (base:Heap) (N:[29]) (qual:Str) (scope:Scope) (f:Addr) (cd:Value) (A:Around) (outer:List Env) (s:[88]) (H:Hp) (E:XK):Cx where
 prog:=P
 w:=w
 K:=K
 mg:=mg
 base:=base
 A:=A.deeper (envOfC qual scope s.heap.objs.size f cd)
 N:=N
 s₀:=s
 H₀:=H
 env:=envOfC qual scope s.heap.objs.size f cd
 outer:=outer
 stack:=envOfC qual scope s.heap.objs.size f cd :: outer
 ex:=[]
 calm:=true
 fn:=λ _=>true
 pn:=[]
 xe:=λ e s'=>wpAny (model P w) (A.deeper (envOfC qual scope s.heap.objs.size f cd)) (leaving (envOfC qual scope s.heap.objs.size f cd) e) (λ _ s''=>CX outer H s E e s'') (λ e' s''=>CX outer H s E e' s'') s'
theorem sc1 {sc:Scope} {n:Nat} {x:Str} (h:sc.names.lookup x=some .cell):∃ c,(cellsFrom n sc.names []).lookup x=some c:=by
 have q:=cellsFrom_some sc.names n [] (.inl h);exact Option.isSome_iff_exists.mp q
variable {qual:Str} {scope:Scope}
theorem xm2 {P:[83]} {w:World} {f:Addr} {cd:Value} {s1:[88]} {E:XK} 
    (S:FnScope N ps scope) (hd:A.handled=none) (e0:Env0 P w K mg base A outer s H) (hl:vs.length=ps.length) (r:Vals vs us)
    (x:InCallC s s.heap.objs.size (bindL (envOfC qual scope s.heap.objs.size f cd).kindOf (ps.zip us) λ _=>none) (cellsFrom [54] scope.names []) (bindC (envOfC qual scope s.heap.objs.size f cd).kindOf (ps.zip us) λ _=>none) s1) :
    Inv (cxOf CX P w K mg base N qual scope f cd A outer s H E) [] (start N vs) H s1:=by
 have hpl:ps.length<=N.length:=by have:=congrArg List.length S.pre; rw [length_take] at this; omega
 obtain ⟨h1,tk,rfl,hk⟩:=x.done;have noA:∀ b:Addr,b ∉ (cxOf CX P w K mg base N qual scope f cd A outer s H E).ex:=λ b z=>absurd (show b ∈ ([]:List Addr) from z) [18]
 refine ⟨⟨e0.mod,S.kind,rfl,rfl,Nat.le_refl _,λ y z c h1 h2=>?_,λ y hy=>?_,λ y c _ h=>?_,λ _=>hd,Around.frames_deeper e0.frames,.inr ⟨rfl,rfl⟩,λ b z=>absurd z (noA b),e0.bs,e0.bsz,λ b _ _=>noA b,λ b z=>absurd z (noA b),e0.funs,e0.frf⟩,
  rfl,e0.bare,Un.kept hk,⟨_,x.toInCall.ns,λ i y v h1 h2 h3=>?_⟩,λ y c h=>⟨_,x.cell y c h⟩,e0.hok.fresh [19],λ y c h=>?_,λ p hp=>absurd (show p ∈ ([]:List (Addr × Obj)) from hp) [18],e0.hok.kept hk,?_⟩
 ·exact name_of_addr x.apart (PySem.mem_of_lookup h1) (PySem.mem_of_lookup h2)
 ·have hy:scope.names.lookup y=some .cell \/ scope.names.lookup y=some .free:=hy;rcases hy with hy | hy
  ·exact sc1 hy
  ·exact absurd rfl (S.nofree _ (PySem.mem_of_lookup hy))
 ·exact Nat.le_of_lt (x.above y c (PySem.mem_of_lookup h))
 ·have hi:i < vs.length:=by
    unfold start at h2;by_cases hi:i < vs.length
    ·exact hi
    ·rw [List.getElem?_append_right (by simpa using hi)] at h2;rw [List.getElem?_replicate] at h2;split at h2 <;> cases h2
  have ha:vs[i]?=some v:=by
   unfold start at h2;rw [List.getElem?_append_left (by simpa using hi),getElem?_map] at h2;cases e:vs[i]? with
   | none=>rw [e] at h2; cases h2
   | some a=>rw [e] at h2; cases h2; rfl
  obtain ⟨u,hu,rv⟩:=r.get ha
  have hp:ps[i]?=some y:=by
   rw [<- S.pre,List.getElem?_take_of_lt [7]]; exact h1
  have ndP:ps.Nodup:=by rw [<- S.pre]; exact S.nd.sublist (List.take_sublist _ _)
  refine ⟨u,rv,?_⟩;rcases S.par y (List.mem_of_getElem? hp) with k | k
  ·exact .inl ⟨k,xj1 ndP hp hu k⟩
  ·obtain ⟨c,e⟩:=sc1 (n:=s.heap.objs.size + 1) k;refine .inr ⟨.inl k,c,e,?_⟩;have q:=x.cell y c e;rw [zj1 ndP hp hu (by show scope.names.lookup y ≠ _; rw [k]; decide)] at q;exact q
 ·exact e0.hok.fresh (Nat.le_of_lt (x.above y c (PySem.mem_of_lookup h)))
 ·unfold start;show _=N.length;rw [length_append,length_map,List.length_replicate];omega
theorem fn_of {P:[83]} {w:World} {k:Nat} {f:Addr} {params:Arguments} {dV kV doc pm cdv ct oc:Value} {an od:Option Addr}
    {osl:[64]} (lk:K.lookup f=some ⟨oc,od,.func (fnOf name qual params body scope dV kV doc pm an cdv ct),osl⟩) (hcd:codeIn K cdv qual=true) (S:FnScope N ps scope)
    (len:∀ vs H Q E,sp vs H Q E->vs.length=ps.length)
    (hbody:∀ (A:Around) (outer:List Env) (s:[88]) (H:Hp) (vs:List V) (Q:VK) (E:XK),Room k (A.deeper (envOfC qual scope s.heap.objs.size f cdv))->sp vs H Q E ->
     ∃ t,PSs (cxOf CX P w K mg base N qual scope f cdv A outer s H E) body t /\ t { nx:=λ _ H'=>Q .non H',rt:=Q } (start N vs) H) :
    FnOk P w K mg base CX (k + 1) f (fnOf name qual params body scope dV kV doc pm an cdv ct) ps sp:=by
 refine ⟨len,λ A outer s H args us vs Q E hr e0 hb r hsp=>?_⟩;have hl:=len _ _ _ _ hsp;have KX:K.In s.heap:=e0.mod.kin.keeps λ b o e=>(e0.bs b o e).1;have lim:s.heap.NoLimit:=e0.mod.nolimit.keeps λ b o e=>(e0.bs b o e).1
 have hkind:∀ y ∈ ps.zip us,scope.names.lookup y.1=some .local \/ (scope.names.lookup y.1=some .cell /\ ((cellsFrom [54] scope.names []).lookup y.1).isSome=true):=λ ⟨n,v⟩ hy=>by
  rcases S.par n (List.of_mem_zip hy).1 with q | q
  ·exact .inl q
  ·exact .inr ⟨q,cellsFrom_some _ _ _ (.inl q)⟩
 refine codeAny_call_function hr.depth (KX _ _ lk) rfl S.co S.gen rfl (PySem.W.codeRec_of KX hcd) (hb _ _ _ _ ?_);refine wpAny_newFunctionEnv_cells S.kind hkind λ env he s1 x=>?_;subst he;refine ⟨lim.keeps x.toInCall.keep,codeAny_func ?_⟩;obtain ⟨t,ht,hq⟩:=hbody A outer s H vs Q E (hr.deeper _) hsp;have I:Inv (cxOf CX P w K mg base N qual scope f cdv A outer s H E) [] (start N vs) H s1:=xm2 S hr.hd e0 hl r x;refine wpAny_mono (ht [] s1 (start N vs) H _ I hq) (λ fl s' hs=>?_) λ e s' hs=>hs
 have fin:∀ {σ':St} {H':Hp} {v:V} {u:Value},Inv (cxOf CX P w K mg base N qual scope f cdv A outer s H E) [] σ' H' s'->RelV v u->Q v H'->CE outer P w H s Q u s' :=
  λ {σ' H' v u} J rv q=>⟨v,H',J.os,J.bare,J.base,J.hok,rv,q⟩
 cases fl with
 | ret u =>
  obtain ⟨v,σ',H',J,rv,q⟩:=hs;exact fin J rv q
 | next =>
  obtain ⟨σ',H',J,q⟩:=hs;exact fin (v:=V.non) (u:=Value.none) J rfl q
 | brk =>
  obtain ⟨_,_,_,q⟩:=hs;exact False.elim q
 | cont =>
  obtain ⟨_,_,_,q⟩:=hs;exact False.elim q
section
variable {x:Str} {pos:Pos} {e:Expr} {t:TA} {id T:String} {r:List V->Hp->VK->Prop}
def tCB (r:List V->Hp->VK->Prop) (t:TA):TE:=λ σ H Q=>t σ H λ vs H1=>r vs H1 Q
theorem yy2 (hc:CallR X (.builtin id) r) (hg:Gl X x) (hm:X.mg x=none) (hv:bootBuiltins x=some (.builtin id)) (ha:PA X (e :: es) t) (hn:x ≠ "__name__" := by decide) (hdb:[17]=false:=by decide)
    (he:starEach (e :: es) X.env=[26] :: starEach es X.env:=by rfl) (hpl:[71].any (·.1)=false:=by rfl):PE X [87] (tCB r t):=by
 intro pins s σ H Q I h;refine wpAny_Call_Name_kw (ul0 I hg hm hv ?_ hn hdb);exact PyProof.Rows.callWith_builtin1 (thn (ha pos pins s σ H _ I h) λ us s1 ⟨vs,H1,I1,r1,q1⟩=>hc pins s1 σ H1 vs us Q I1 r1 q1) he hpl
theorem vi2 (hc:CallR X (.type T) r) (hg:Gl X x) (hm:X.mg x=none) (hv:bootBuiltins x=some (.type T)) (ha:PA X (e :: es) t) (hn:x ≠ "__name__" := by decide) (hdb:[17]=false:=by decide)
    (he:starEach (e :: es) X.env=[26] :: starEach es X.env:=by rfl) (hpl:[71].any (·.1)=false:=by rfl):PE X [87] (tCB r t):=by
 intro pins s σ H Q I h;refine wpAny_Call_Name_kw (ul0 I hg hm hv ?_ hn hdb);exact PyProof.Rows.callWith_type1 (thn (ha pos pins s σ H _ I h) λ us s1 ⟨vs,H1,I1,r1,q1⟩=>hc pins s1 σ H1 vs us Q I1 r1 q1) he hpl
end
end L2
namespace HT
open PySem PyProof.Rows
variable {Q:[9]} {sl:Addr}
section
variable {prog:[83]} {w:World} {A:Around} {E:[9]} {s:[88]}
theorem cat_tup {t b:Addr} {vs ws:[27]} (ht:IsTup s.heap t vs.toArray) (hb:IsTup s.heap b ws.toArray) (hv:vs ≠ [])
    (h1:ws=[]->Q (.ref t) s) (h2:ws ≠ []->Q [70] { s with heap:=s.heap.push { cls:=.type "tuple",data:=.seq (vs ++ ws).toArray } })
    (hsz:vs.length + ws.length<=sizeLine):wpAny [13] A (binaryOp .Add (.ref t) (.ref b)) Q E s:=by
 obtain ⟨⟨cls,dd,data,sl⟩,ho,hc,n,hd⟩:=id ht;obtain ⟨⟨cls2,dd2,data2,sl2⟩,ho2,hc2,n2,hd2⟩:=id hb;simp only at hc hd hc2 hd2;subst hc hd hc2 hd2;have e:vs.toArray ++ ws.toArray=(vs ++ ws).toArray:=by simp
 by_cases hw:ws=[]
 ·exact concat_meets ⟨_,ho,rfl⟩ ⟨_,ho2,rfl⟩ noFill_tuple_add seq_tuple_add slot_tuple_add entry_tuple_add (args_tuple_add_2 _ _)
    (tuple_addW1 t b vs.toArray ws.toArray n n2 dd dd2 sl sl2 (by simpa using hv) (by simp [hw])) ⟨ho,ho2,h1 hw⟩
 ·refine concat_meets ⟨_,ho,rfl⟩ ⟨_,ho2,rfl⟩ noFill_tuple_add seq_tuple_add slot_tuple_add entry_tuple_add (args_tuple_add_2 _ _)
    (tuple_addW2 t b vs.toArray ws.toArray n n2 dd dd2 sl sl2 (by simpa using hv) (by simpa using hw) (by rw [size_toArray,size_toArray]; exact hsz)) ⟨ho,ho2,?_⟩
  rw [e];exact h2 hw
def sIx (n d:Nat):Option Int->Nat
 | none=>d
 | some v=>if v < 0 then (v + (n:Int)).toNat else min v.toNat n
theorem uv4 (n d:Nat) (hd:d<=n) (o:Option Int):sIx n d o<=n:=by
 cases o with
 | none=>exact hd
 | some v =>
  show (if v < 0 then (v + (n:Int)).toNat else min v.toNat n)<=n;by_cases hv:v < 0
  ·rw [if_pos hv]; omega
  ·rw [if_neg hv]; exact Nat.min_le_right _ _
theorem vp2 (v:Int) (n d:Nat):(if v < 0 then max (v + (n:Int)) 0 else min v (n:Int))=((sIx n d (some v):Nat):Int):=by
 show (if v < 0 then max (v + (n:Int)) 0 else min v (n:Int))=(((if v < 0 then (v + (n:Int)).toNat else min v.toNat n):Nat):Int);by_cases hv:v < 0
 ·simp only [if_pos hv]; omega
 ·simp only [if_neg hv]; omega
theorem xc2 (lo hi:Option Int) (n:Nat):Builtin.Slice.sliceAdjust lo hi 1 (n:Int)=(((sIx n 0 lo:Nat):Int),((sIx n n hi:Nat):Int)):=by
 have h1:¬ ((1:Int) < 0):=by omega
 unfold Builtin.Slice.sliceAdjust;simp only [h1,if_false];refine Prod.ext ?_ ?_
 ·cases lo with
  | none=>rfl
  | some v=>exact vp2 v n 0
 ·cases hi with
  | none=>rfl
  | some v=>exact vp2 v n n
theorem xa2 (i j:Nat):Builtin.Slice.slicePlaces (i:Int) (j:Int) 1=j - i:=by
 unfold Builtin.Slice.slicePlaces;have h1:(1:Int) > 0:=by omega
 simp only [h1,if_true,Int.ediv_one];split <;> omega
theorem uw0 {v:Value} {o:Option Int} {Q:Option Int->Shared->Prop} (p:IsPart v o) (h:Q o s):wpAny [13] A (Builtin.Slice.slicePartIndex v) Q E s:=by
 cases p with
 | none=>exact slicePart_none h
 | int i t=>exact slicePart_int h
theorem sliceApplied_gen {vl vu:Value} {lo hi:Option Int} {n:Nat} {Q:Int × Int × Nat->Shared->Prop} (hs:s.heap.IsSliceOf sl vl vu .none) (pl:IsPart vl lo) (pu:IsPart vu hi)
    (h:Q (((sIx n 0 lo:Nat):Int),1,sIx n n hi - sIx n 0 lo) s):wpAny [13] A (Builtin.Slice.sliceApplied (.ref sl) (pure (n:Int))) Q E s:=by
 obtain ⟨os,hos,hcs,hds⟩:=id hs;unfold Builtin.Slice.sliceApplied Builtin.Slice.sliceFields;refine wpAny_bind (wpAny_bind (wpAny_field hos hds (x:=vl) rfl (wpAny_bind (wpAny_field hos hds (x:=vu) rfl (wpAny_bind (wpAny_field hos hds (x:=.none) rfl [35]))))));refine wpAny_bind (slicePart_none ?_);show wpAny _ _ (if ((1:Int) == 0)=true then _ else _) _ _ s;rw [if_neg [8]];refine wpAny_bind (uw0 pl (wpAny_bind (uw0 pu (wpAny_bind [35]))));show wpAny _ _ (match Builtin.Slice.sliceAdjust lo hi 1 (n:Int) with | (lo,hi)=>pure (lo,(1:Int),Builtin.Slice.slicePlaces lo hi 1)) _ _ s;rw [xc2 lo hi n];show wpAny _ _ (pure (((sIx n 0 lo:Nat):Int),(1:Int),Builtin.Slice.slicePlaces ((sIx n 0 lo:Nat):Int) ((sIx n n hi:Nat):Int) 1)) _ _ s;rw [xa2];exact wpAny_pure h
theorem zx2 (xs:Array Value) (i k:Nat):((List.range k).filterMap λ (m:Nat)=>xs[((i:Int) + (m:Int) * 1).toNat]?).toArray=((xs.toList.drop i).take k).toArray:=by
 have e:(λ (m:Nat)=>xs[((i:Int) + (m:Int) * 1).toNat]?)=λ m=>xs[i + m]?:=by
  funext m;have:((i:Int) + (m:Int) * 1).toNat=i + m:=by omega
  rw [this]
 rw [e];have:=pick_run xs i k;rw [List.filterMap_map] at this;have e2:((λ x=>xs[x]?) ∘ λ x=>i + x)=λ m=>xs[i + m]?:=rfl;rw [e2] at this;rw [this]
theorem getItem_tuple_cut {t:Addr} {items:Array Value} {vl vu:Value} {lo hi:Option Int} (ht:IsTup s.heap t items) (hs:s.heap.IsSliceOf sl vl vu .none) (pl:IsPart vl lo) (pu:IsPart vu hi)
    (hw:¬ (sIx items.size 0 lo=0 /\ sIx items.size items.size hi=items.size))
    (h:Q [70] { s with heap:=s.heap.push { cls:=.type "tuple",data:=.seq [85].toArray } })
    (hsz:items.size<=sizeLine):wpAny [13] A (getItem (.ref t) (.ref sl)) Q E s:=by
 have htake:sizeOk (.seq [85].toArray):=by
  show [85].toArray.size<=sizeLine;rw [size_toArray,length_take,length_drop,length_toList];omega
 have hj:sIx items.size items.size hi<=items.size:=uv4 _ _ [19] hi;obtain ⟨os,hos,hcs,hds⟩:=id hs;have hTs:s.TypeIs (.ref sl) "slice" := ⟨os,hos,hcs⟩;unfold getItem
 try with_reducible refine wpAny_holding ?_
 first | refine wpAny_bind [35] | skip
 refine wpAny_bind (wpAny_sequenceKey ht.typeIs [8] ?_)
 refine wpAny_bind (wpAny_callSpecial?_slot (name:=Str.ofString "__getitem__") ht.typeIs PyProof.Rows.slot_tuple_getitem
  (wpAny_call_entry PyProof.Rows.slot_tuple_getitem ht.typeIs entry_tuple_getitem ?_ (args_tuple_getitem _ _)))
 show wpAny _ _ (Builtin.Tuple.tupleItemsOf (.ref t) >>= _) _ _ s;refine wpAny_bind (tupleItemsOf_ ht ?_);refine wpAny_bind (wpAny_typeOf hTs ?_);rw [if_pos [8]];refine wpAny_bind (sliceApplied_gen hs pl pu ?_)
 have hno:¬ ((((sIx items.size 0 lo:Nat):Int) == 0 && (1:Int) == 1 && (sIx items.size items.size hi - sIx items.size 0 lo) == items.size)=true):=by
  intro q;rw [Bool.and_eq_true,Bool.and_eq_true] at q;have q1:((sIx items.size 0 lo:Nat):Int)=0:=eq_of_beq q.1.1;have q2:sIx items.size items.size hi - sIx items.size 0 lo=items.size:=eq_of_beq q.2;exact hw ⟨by omega,by omega⟩
 show wpAny _ _ (if (((sIx items.size 0 lo:Nat):Int) == 0 && (1:Int) == 1 && (sIx items.size items.size hi - sIx items.size 0 lo) == items.size)=true then _ else _) _ _ s;rw [if_neg hno,zx2]
 first
  | exact wpAny_bind (m:=Builtin.Tuple.tupleExact _) (wpAny_newObj_type [104] htake)
  | exact wpAny_bind (m:=Builtin.Tuple.tupleExact _) (wpAny_newObj_type (wpAny_bind (wpAny_pure [104])) htake)
  | exact wpAny_bind (wpAny_bind (m:=Builtin.Tuple.tupleExact _) (wpAny_newObj_type (wpAny_pure [104]) htake))
  | exact wpAny_bind (wpAny_bind (m:=Builtin.Tuple.tupleExact _) (wpAny_newObj_type [104] htake))
end
end HT
namespace L2
open PySem PySem.Spec PyProof.Rows
abbrev TO:=St->Hp->(Option Int->Hp->Prop)->Prop
def PO (X:Cx) (e:Option Expr) (t:TO):Prop :=
 ∀ (pins:[20]) (s:[88]) (σ:St) (H:Hp) (Q:Option Int->Hp->Prop),Inv X pins σ H s->t σ H Q ->
  wpAny [11] X.A (evalPart e X.env) (λ u s'=>∃ o H',Inv X pins σ H' s' /\ IsPart u o /\ Q o H') X.xe s
def vq3:TO:=λ _ H Q=>Q none H
def tPart (t:TE):TO:=λ σ H Q=>t σ H λ x H1=>∃ i,x=.int i /\ Q (some i) H1
theorem zx0 {ns:List Int}:∀ {us:[27]},Vals (ns.map V.int) us->IntsAre us ns:=by
 induction ns with
 | nil=>intro us r; rw [map_nil] at r; cases r; exact .nil
 | cons n ns ih =>
  intro us r;rw [map_cons] at r;cases r with
  | cons r1 r2 =>
   obtain ⟨t,e⟩:=r1;subst e;exact .cons n t (ih r2)
variable {X:Cx} {e:Expr} {pos:Pos} {xs:List V}
section
variable {te:TE} {lo hi:Option Expr} {tl th:TO} {p2:Pos}
theorem xy3:PO X none vq3:=by
 intro pins s σ H Q I h;rw [evalPart_none];exact wpAny_pure ⟨none,H,I,.none,h⟩
theorem sx3 (h:PE X e te):PO X (some e) (tPart te):=by
 intro pins s σ H Q I hw;rw [evalPart_some];refine thn (h pins s σ H _ I hw) λ u s1 ⟨x,H1,I1,r1,q1⟩=>?_;obtain ⟨i,rfl,q⟩:=q1;obtain ⟨t,rfl⟩:=r1;exact ⟨some i,H1,I1,.int i t,q⟩
def SlR (X:Cx) (r:V->Option Int->Option Int->Hp->VK->Prop):Prop :=
 ∀ (pins:[20]) (s:[88]) (σ:St) (H:Hp) (x:V) (v vl vu:Value) (lo hi:Option Int) (sl:Addr) (Q:VK),Inv X pins σ H s->RelV x v->s.heap.IsSliceOf sl vl vu .none->IsPart vl lo->IsPart vu hi->r x lo hi H Q ->
  ∃ T id,typeLookup (.type T) "__getitem__" = pure (some (.builtin id)) /\ s.TypeIs v T /\ wpAny [11] X.A (getItem v (.ref sl)) (EP X pins σ Q) X.xe s
theorem SlR.or {r r':V->Option Int->Option Int->Hp->VK->Prop} (h:SlR X r) (h':SlR X r'):SlR X (λ x lo hi H Q=>r x lo hi H Q \/ r' x lo hi H Q):=by
 intro pins s σ H x v vl vu lo hi sl Q I rx hs pl pu q;rcases q with q | q
 ·exact h pins s σ H x v vl vu lo hi sl Q I rx hs pl pu q
 ·exact h' pins s σ H x v vl vu lo hi sl Q I rx hs pl pu q
def tSl (r:V->Option Int->Option Int->Hp->VK->Prop) (te:TE) (tl th:TO):TE:=λ σ H Q=>te σ H λ x H1=>tl σ H1 λ l H2=>th σ H2 λ u H3=>r x l u H3 Q
theorem vx2 {r:V->Option Int->Option Int->Hp->VK->Prop} (hr:SlR X r) (he:PE X e te) (hl:PO X lo tl) (hu:PO X hi th):PE X (.Subscript e (.Slice lo hi none p2) pos) (tSl r te tl th):=by
 intro pins s σ H Q I h;refine Subscript_ (thn (he pins s σ H _ I h) λ v s1 ⟨x,H1,I1,r1,q1⟩=>?_);refine wpAny_Slice (thn (hl pins s1 σ H1 _ I1 q1) λ vl s2 ⟨l,H2,I2,pl,q2⟩=>thn (hu pins s2 σ H2 _ I2 q2) λ vu s3 ⟨u,H3,I3,pu,q3⟩=>?_);rw [evalPart_none];refine wpAny_pure ?_;have I4:Inv X pins σ H3 { s3 with heap:=s3.heap.push { cls:=.type "slice",data:=.fields #[vl,vu,.none] } }:=I3.kept (t':=s3.toks) λ b ob q=>Heap.get?_push_of_some _ q;obtain ⟨T,id,hT,ht,hg⟩:=hr pins { s3 with heap:=s3.heap.push { cls:=.type "slice",data:=.fields #[vl,vu,.none] } } σ H3 x v vl vu l u s3.heap.objs.size Q I4 r1 (Heap.IsSliceOf.new ..) pl pu q3;show wpAny [11] X.A (subscriptTail e (.Slice lo hi none p2) v (.ref s3.heap.objs.size)) (EP X pins σ Q) X.xe { s3 with heap:=s3.heap.push { cls:=.type "slice",data:=.fields #[vl,vu,.none] } };exact tail_any (ops:=[.ref s3.heap.objs.size,v]) ht hT hg (by with_unfolding_all rfl)
def cutV (xs:List V) (lo hi:Option Int):List V:=(xs.drop (HT.sIx xs.length 0 lo)).take (HT.sIx xs.length xs.length hi - HT.sIx xs.length 0 lo)
theorem vu0 (xs:List V) (lo hi:Option Int):(cutV xs lo hi).length<=xs.length:=by
 unfold cutV;rw [length_take,length_drop];omega
def rSlT (K:[94]):V->Option Int->Option Int->Hp->VK->Prop:=λ x lo hi H Q=>∃ a xs,x=.ref a /\ SqT K H a xs ∧
 ¬ (HT.sIx xs.length 0 lo=0 /\ HT.sIx xs.length xs.length hi=xs.length) /\ ∀ p,H p=none->Q [43] (upd H p (.tup (cutV xs lo hi)))
theorem wp4:SlR X (rSlT X.K):=by
 intro pins s σ H x v vl vu lo hi sl Q I rx hs pl pu h;obtain ⟨a,xs,rfl,hx,hw,q⟩:=h;cases rx;obtain ⟨its,r,ht,hz⟩:=I.tuple hx;have hlen:its.toArray.size=xs.length:=by rw [size_toArray]; exact r.length.symm
 refine ⟨"tuple",_,PyProof.Rows.slot_tuple_getitem.lookup,ht.typeIs,?_⟩;refine HT.getItem_tuple_cut ht hs pl pu (by rw [hlen]; exact hw) ?_ (by rw [hlen]; exact hz);rw [hlen];refine ⟨.ref s.heap.objs.size,_,I.laid (t':=s.toks) (o:=.tup (cutV xs lo hi)) (λ b ob q=>Heap.get?_push_of_some _ q) [19] ?_,rfl,q _ (I.hok.fresh [19])⟩;exact ⟨Nat.le_trans (vu0 xs lo hi) hz,_,(r.drop (HT.sIx xs.length 0 lo)).take (HT.sIx xs.length xs.length hi - HT.sIx xs.length 0 lo),IsTup.new _ _⟩
def rCatT (K:[94]):R2:=λ x y H Q=>∃ a b xs ys,x=.ref a /\ y=.ref b /\ SqT K H a xs /\ SqT K H b ys /\ xs ≠ [] /\ xs.length + ys.length<=sizeLine ∧
 (ys=[]->Q (.ref a) H) /\ (ys ≠ []->∀ p,H p=none->Q [43] (upd H p (.tup (xs ++ ys))))
theorem Vals.nil_iff {us:[27]} (r:Vals xs us):us=[] ↔ xs=[]:=by
 cases r with
 | nil=>simp
 | cons _ _=>simp
theorem tz3:OpR X (binaryOp .Add) (rCatT X.K):=by
 intro pins s σ H x y v u Q I rx ry h;obtain ⟨a,b,xs,ys,rfl,rfl,ha,hb,hx,hz,q1,q2⟩:=h;cases rx;cases ry;obtain ⟨its,r1,p1,_⟩:=I.tuple ha;obtain ⟨its2,r2,p2,_⟩:=I.tuple hb;refine HT.cat_tup p1 p2 (λ z=>hx (r1.nil_iff.mp z)) (λ z=>⟨.ref a,H,I,rfl,q1 (r2.nil_iff.mp z)⟩) (λ z=>?_) (by rw [<- r1.length,<- r2.length]; exact hz);refine ⟨.ref s.heap.objs.size,_,I.laid (t':=s.toks) (o:=.tup (xs ++ ys)) (λ b ob q=>Heap.get?_push_of_some _ q) [19] ?_,rfl,q2 (λ w=>z (r2.nil_iff.mpr w)) _ (I.hok.fresh [19])⟩;exact ⟨by rw [length_append]; exact hz,_,r1.append r2,IsTup.new _ _⟩
end
def ixN (n:Nat) (i:Int):Option Nat:=if 0<=i then (if i < n then some i.toNat else none) else if -(n:Int)<=i then some (i + n).toNat else none
def atI {α:Type} (xs:List α) (i:Int):Option α:=(ixN xs.length i).bind λ j=>xs[j]?
variable {n:Nat} {i:Int}
theorem vl2 {j:Nat} (h:ixN n i=some j):seqIndex? i n=some j /\ j < n /\ -(n:Int)<=i /\ i < n:=by
 unfold ixN at h;by_cases h0:0<=i
 ·rw [if_pos h0] at h;by_cases h1:i < n
  ·rw [if_pos h1] at h;have e:i.toNat=j:=Option.some.inj h;exact ⟨by rw [seqIndex_of h0 h1,e],by omega,by omega,h1⟩
  ·rw [if_neg h1] at h; cases h
 ·rw [if_neg h0] at h;by_cases h1 : -(n:Int)<=i
  ·rw [if_pos h1] at h;have e:(i + n).toNat=j:=Option.some.inj h;exact ⟨by rw [seqIndex_neg [7] h1,e],by omega,h1,by omega⟩
  ·rw [if_neg h1] at h; cases h
theorem wr2 {α:Type} {xs:List α} {v:α} (h:atI xs i=some v):∃ j,seqIndex? i xs.length=some j /\ xs[j]?=some v /\ j < xs.length /\ -(xs.length:Int)<=i /\ i < xs.length:=by
 unfold atI at h;cases e:ixN xs.length i with
 | none=>rw [e] at h; cases h
 | some j =>
  rw [e] at h;obtain ⟨h1,h2,h3,h4⟩:=vl2 e;exact ⟨j,h1,h,h2,h3,h4⟩
def vr2 (b:Expr):Prop:=∀ o i,subscripted b false o i=operate [o,i] (getItem o i)
def IxR (X:Cx) (r:R2):Prop :=
 ∀ (value slice:Expr) (pins:[20]) (s:[88]) (σ:St) (H:Hp) (x y:V) (v u:Value) (Q:VK),Inv X pins σ H s->RelV x v->RelV y u->r x y H Q ->
  subscripted slice false v u=operate [v,u] (getItem v u)->wpAny [11] X.A (subscriptTail value slice v u) (EP X pins σ Q) X.xe s
def MtR (X:Cx) (id:String) (r:V->List V->Hp->VK->Prop):Prop :=
 ∀ (pins:[20]) (s:[88]) (σ:St) (H:Hp) (x:V) (xs:List V) (v:Value) (us:[27]) (Q:VK),Inv X pins σ H s->RelV x v->Vals xs us->r x xs H Q ->
  wpAny [11] X.A (call (.builtin id) (v :: us)) (EP X pins σ Q) X.xe s
variable {pins:[20]} {σ:St} {H:Hp} {s:[88]} {p:Addr} {its:[27]} {x:V} {u v:Value} {T:String}
section
variable {a b:Expr} {ta tb:TE} 
theorem IxR.or {r r':R2} (h:IxR X r) (h':IxR X r'):IxR X (λ x y H Q=>r x y H Q \/ r' x y H Q):=by
 intro value slice pins s σ H x y v u Q I rx ry q hs;rcases q with q | q
 ·exact h value slice pins s σ H x y v u Q I rx ry q hs
 ·exact h' value slice pins s σ H x y v u Q I rx ry q hs
theorem pe_ix {r:R2} (hr:IxR X r) (ha:PE X a ta) (hb:PE X b tb) (hs:vr2 b):PE X (.Subscript a b pos) (tOp r ta tb):=by
 intro pins s σ H Q I h;exact Subscript_ (binT ha hb I h λ v u s2 x y H2 I2 rx ry q=>hr a b pins s2 σ H2 x y v u Q I2 rx ry q (hs _ _))
def rIxL (K:[94]):R2:=λ x y H Q=>∃ p xs i v,x=.ref p /\ y=.int i /\ SqL K H p xs /\ atI xs i=some v /\ Q v H
def rIxT (K:[94]):R2:=λ x y H Q=>∃ p xs i v,x=.ref p /\ y=.int i /\ SqT K H p xs /\ atI xs i=some v /\ Q v H
theorem ix_list:IxR X (rIxL X.K):=by
 intro value slice pins s σ H x y v u Q I rx ry h hs;obtain ⟨p,xs,i,z,rfl,rfl,hq,he,q⟩:=h;cases rx;obtain ⟨t,rfl⟩:=ry;obtain ⟨its,r,pl,hz⟩:=I.list hq;obtain ⟨j,h1,h2,h3,h4,h5⟩:=wr2 he;obtain ⟨w,ew,rw'⟩:=r.get h2;have hl:=r.length;have hn:=vg1;have fin:EP X pins σ Q w s:=⟨z,H,I,rw',q⟩;by_cases h0:0<=i
 ·have hj:i.toNat=j:=by
    rw [seqIndex_of h0 h5] at h1;exact Option.some.inj h1
  exact item_listR pl.isList h0 [7] (by rw [hj]; simpa using ew) fin hs
 ·have hj:(i + (its.toArray.size:Int)).toNat=j:=by
    rw [seqIndex_neg [7] h4] at h1;rw [size_toArray,<- hl];exact Option.some.inj h1
  exact subscriptTail_builtinR (x:=w) pl.isList.typeIs slot_list_getitem.lookup
   (wpAny_getItem_list_neg (Q:=λ r s'=>r=w /\ EP X pins σ Q r s') pl.isList [7] (by rw [size_toArray] <;> omega) [7] (by rw [hj]; simpa using ew) ⟨rfl,fin⟩) hs
theorem ix_tup:IxR X (rIxT X.K):=by
 intro value slice pins s σ H x y v u Q I rx ry h hs;obtain ⟨p,xs,i,z,rfl,rfl,hq,he,q⟩:=h;cases rx;obtain ⟨t,rfl⟩:=ry;obtain ⟨its,r,pl,hz⟩:=I.tuple hq;obtain ⟨j,h1,h2,h3,h4,h5⟩:=wr2 he;obtain ⟨w,ew,rw'⟩:=r.get h2;have hl:=r.length;have hn:=vg1;have fin:EP X pins σ Q w s:=⟨z,H,I,rw',q⟩
 exact subscriptTail_builtinR (x:=w) pl.typeIs slot_tuple_getitem.lookup
  (getItem_tuple (j:=j) (Q:=λ r s'=>r=w /\ EP X pins σ Q r s') pl [7] [7] (by rw [size_toArray,<- hl]; exact h1) (by simpa using ew) ⟨rfl,fin⟩) hs
theorem ua2 (its:[27]) (n j:Nat) (u:Value):Obj.mapSeq (·.setIfInBounds j u) [59]={ cls:=.type "list",data:=.seq (its.set j u).toArray n }:=by
 simp [Obj.mapSeq]
theorem Inv.lst (I:[10]) (h:H p=some (.lst xs)) :
    ∃ (its:[27]) (n:Nat),Vals xs its /\ s.heap.get? p=some [59] /\ xs.length<=sizeLine:=by
 obtain ⟨z,its,n,r,e⟩:=I.hok p _ h;exact ⟨its,n,r,e,z⟩
theorem Inv.lstUpd {ys:List V} {its':[27]} {n':Nat} {f:Obj->Obj} (I:[10]) (h:H p=some (.lst xs))
    (ho:s.heap.get? p=some [59]) (hf:f [59]={ cls:=.type "list",data:=.seq its'.toArray n' }) (r:Vals ys its') (hz:ys.length<=sizeLine) (t:Nat) :
    Inv X pins σ (upd H p (.lst ys)) { s with heap:=s.heap.update p f,toks:=t }:=by
 have e:(s.heap.update p f).get? p=some { cls:=.type "list",data:=.seq its'.toArray n' }:=by
  rw [Heap.get?_update_self f ho (by rw [hf] <;> rfl),hf]
 refine I.write (x:=p) (e:=p) (by rw [h]; trivial) (.inl rfl) (λ b u hb q=>(Heap.get?_update_other _ _ (Ne.symm hb)).trans q) ⟨_,e⟩ ?_;exact ⟨hz,its',n',r,e⟩
def rSetL:V->V->V->Hp->(Hp->Prop)->Prop:=λ o i v H Q=>∃ p xs k j,o=.ref p /\ i=.int k /\ H p=some (.lst xs) /\ ixN xs.length k=some j /\ Q (upd H p (.lst (xs.set j v)))
theorem vz0:PSet X rSetL:=by
 intro pins s σ H o i v ov iv u Q I ro ri rv h;obtain ⟨p,xs,k,j,rfl,rfl,hp,hj,q⟩:=h;cases ro;obtain ⟨t,rfl⟩:=ri;obtain ⟨its,n,r,ho,hz⟩:=I.lst hp;obtain ⟨h1,h2,h3,h4⟩:=vl2 hj;have hl:=r.length;have hn:=vg1
 have I':Inv X pins σ (upd H p (.lst (xs.set j v))) { s with heap:=s.heap.update p (Obj.mapSeq (·.setIfInBounds j u)) } :=
  I.lstUpd hp ho (ua2 its n j u) (r.set rv j) (by rw [List.length_set]; exact hz) s.toks
 by_cases h0:0<=k
 ·have hk:k.toNat=j:=by
    rw [seqIndex_of h0 h4] at h1;exact Option.some.inj h1
  exact PySem.W.ki_setAt ho h0 [7] (by rw [size_toArray,<- hl]; exact h4) (by rw [hk]; exact ⟨_,I',q⟩)
 ·have hk:(k + (its.toArray.size:Int)).toNat=j:=by
    rw [seqIndex_neg [7] h3] at h1;rw [size_toArray,<- hl];exact Option.some.inj h1
  exact PySem.W.ki_setBack ho [7] (by rw [size_toArray,<- hl]; exact h3) [7] (by rw [hk]; exact ⟨_,I',q⟩)
theorem xf1 (lo hi:Option Int) (n:Nat):(sliceBounds lo hi none n).1=((HT.sIx n 0 lo:Nat):Int) /\ (sliceBounds lo hi none n).2.1=((HT.sIx n n hi:Nat):Int) /\ (sliceBounds lo hi none n).2.2=1:=by
 refine ⟨?_,?_,rfl⟩
 ·cases lo with
  | none=>simp [sliceBounds,HT.sIx]
  | some i =>
   simp only [sliceBounds,HT.sIx,Option.getD_none,show (1:Int) > 0 by decide,if_true];by_cases h:i < 0
   ·simp only [h,if_true] <;> omega
   ·simp only [h,if_false] <;> omega
 ·cases hi with
  | none=>simp [sliceBounds,HT.sIx]
  | some i =>
   simp only [sliceBounds,HT.sIx,Option.getD_none,show (1:Int) > 0 by decide,if_true];by_cases h:i < 0
   ·simp only [h,if_true] <;> omega
   ·simp only [h,if_false] <;> omega
theorem wz0 (its:[27]) (lo hi:Option Int):slicePick its.toArray lo hi none=((its.drop (HT.sIx its.length 0 lo)).take (HT.sIx its.length its.length hi - HT.sIx its.length 0 lo)).toArray:=by
 obtain ⟨h1,h2,h3⟩:=xf1 lo hi its.toArray.size;unfold slicePick;rw [h1,h2,h3];simp only [sliceRange_one,pick_run,size_toArray] <;> rfl
def rSlL (K:[94]):V->Option Int->Option Int->Hp->VK->Prop:=λ x lo hi H Q=>∃ a xs,x=.ref a /\ SqL K H a xs /\ ∀ p,H p=none->Q [43] (upd H p (.lst (cutV xs lo hi)))
theorem ys3:SlR X (rSlL X.K):=by
 intro pins s σ H x v vl vu lo hi sl Q I rx hs pl pu h;obtain ⟨a,xs,rfl,hx,q⟩:=h;cases rx;obtain ⟨its,r,ht,hz⟩:=I.list hx;have hlen:=r.length;refine ⟨"list",_,slot_list_getitem.lookup,ht.isList.typeIs,?_⟩;refine wpAny_getItem_list_slice ht.isList hs pl pu .none [18] ?_ (by rw [size_toArray] <;> omega);rw [wz0,<- hlen];refine ⟨.ref s.heap.objs.size,_,I.laid (t':=s.toks) (o:=.lst (cutV xs lo hi)) (λ b ob q=>Heap.get?_push_of_some _ q) [19] ?_,rfl,q _ (I.hok.fresh [19])⟩;exact ⟨Nat.le_trans (vu0 xs lo hi) hz,_,0,(r.drop (HT.sIx xs.length 0 lo)).take (HT.sIx xs.length xs.length hi - HT.sIx xs.length 0 lo),Heap.get?_push_size _ rfl⟩
def sb1:V->Bool
 | .non=>true
 | .bl _=>true
 | .int _=>true
 | .str _=>true
 | _=>false
def eqV:V->V->Bool
 | .non,.non=>true
 | .bl a,.bl b=>a == b
 | .bl a,.int b=>(if a then 1 else 0) == b
 | .int a,.bl b=>a == (if b then 1 else 0)
 | .int a,.int b=>a == b
 | .str a,.str b=>a == b
 | _,_=>false
theorem eqAt_V {A:Around} {y:V} (ry:RelV y u) (rx:RelV x v) (fy:sb1 y=true) (fx:sb1 x=true):SeqAt.EqAt A s u v (eqV y x):=by
 cases y with
 | non =>
  cases ry;cases x with
  | non=>cases rx; exact SeqAt.EqAt.same _
  | bl b=>cases rx; exact SeqAt.EqAt.none_bool b
  | int b=>obtain ⟨t,rfl⟩:=rx; exact SeqAt.EqAt.none_int b t
  | str b=>obtain ⟨t,rfl⟩:=rx; exact SeqAt.EqAt.none_str b t
  | _=>exact absurd (show false=true from fx) Bool.false_ne_true
 | bl a =>
  cases ry;cases x with
  | non=>cases rx; exact SeqAt.EqAt.bool_none a
  | bl b=>cases rx; exact SeqAt.EqAt.bool_bool a b
  | int b=>obtain ⟨t,rfl⟩:=rx; exact SeqAt.EqAt.bool_int a b t
  | str b=>obtain ⟨t,rfl⟩:=rx; exact SeqAt.EqAt.bool_str a b t
  | _=>exact absurd (show false=true from fx) Bool.false_ne_true
 | int a =>
  obtain ⟨t',rfl⟩:=ry;cases x with
  | non=>cases rx; exact SeqAt.EqAt.int_none a t'
  | bl b=>cases rx; exact SeqAt.EqAt.int_bool a t' b
  | int b=>obtain ⟨t,rfl⟩:=rx; exact SeqAt.EqAt.int_int a t' b t
  | str b=>obtain ⟨t,rfl⟩:=rx; exact SeqAt.EqAt.int_str a t' b t
  | _=>exact absurd (show false=true from fx) Bool.false_ne_true
 | str a =>
  obtain ⟨t',rfl⟩:=ry;cases x with
  | non=>cases rx; exact SeqAt.EqAt.str_none a t'
  | bl b=>cases rx; exact SeqAt.EqAt.str_bool a t' b
  | int b=>obtain ⟨t,rfl⟩:=rx; exact SeqAt.EqAt.str_int a t' b t
  | str b=>obtain ⟨t,rfl⟩:=rx; exact SeqAt.EqAt.str_str a t' b t
  | _=>exact absurd (show false=true from fx) Bool.false_ne_true
 | _=>exact absurd (show false=true from fy) Bool.false_ne_true
def eqU (x:V) (u:Value):Bool:=match u with
 | .none=>eqV .non x
 | .bool b=>eqV (.bl b) x
 | .int i _=>eqV (.int i) x
 | .str z _=>eqV (.str z) x
 | _=>false
theorem ym3 {y:V} (r:RelV y u) (f:sb1 y=true):eqU x u=eqV y x:=by
 cases y with
 | non=>cases r; rfl
 | bl b=>cases r; rfl
 | int i=>obtain ⟨t,rfl⟩:=r; rfl
 | str z=>obtain ⟨t,rfl⟩:=r; rfl
 | _=>exact absurd (show false=true from f) Bool.false_ne_true
theorem zn1 {x:V}:∀ {xs:List V} {us:[27]},Vals xs us->xs.all sb1=true->us.any (eqU x)=xs.any λ y=>eqV y x
 | _,_,.nil,_=>rfl
 | y :: xs,u :: us,.cons r t,f=>by
  rw [all_cons,Bool.and_eq_true] at f;rw [any_cons,any_cons,ym3 r f.1,zn1 t f.2]
theorem va1 {A:Around} {s:[88]} {x:V} {v:Value} (rx:RelV x v) (fx:sb1 x=true):∀ {xs:List V} {us:[27]},Vals xs us->xs.all sb1=true->∀ u ∈ us,SeqAt.EqAt A s u v (eqU x u)
 | _,_,.nil,_=>λ u hu=>by cases hu
 | y :: xs,u :: us,.cons r t,f=>λ u' hu=>by
  rw [all_cons,Bool.and_eq_true] at f;rcases List.mem_cons.mp hu with rfl | hu
  ·rw [ym3 r f.1]; exact eqAt_V r rx f.1 fx
  ·exact va1 rx fx t f.2 u' hu
def inV (x:V) (xs:List V):Bool:=xs.any λ y=>eqV y x
def rIn (K:[94]) (neg:Bool):R2:=λ x y H Q=>∃ p xs,y=.ref p /\ (SqL K H p xs \/ SqT K H p xs) /\ sb1 x=true /\ xs.all sb1=true /\ Q (.bl (if neg then !inV x xs else inV x xs)) H
theorem op_in_seq:OpR X (compareOp .In) (rIn X.K false):=by
 intro pins s σ H x y v u Q I rx ry h;obtain ⟨p,xs,rfl,hq,fx,fs,q⟩:=h;cases ry;rcases hq with hq | hq
 ·obtain ⟨its,r,pl,hz⟩:=I.list hq;refine SeqAt.in_listAt (eqU x) pl.isList (λ w hw=>va1 rx fx r fs w (by simpa using hw)) ⟨.bl _,H,I,rfl,?_⟩;rw [show its.toArray.any (eqU x)=its.any (eqU x) by simp,zn1 r fs];exact q
 ·obtain ⟨its,r,pl,hz⟩:=I.tuple hq;refine SeqAt.in_tupleAt (eqU x) pl (λ w hw=>va1 rx fx r fs w (by simpa using hw)) ⟨.bl _,H,I,rfl,?_⟩;rw [show its.toArray.any (eqU x)=its.any (eqU x) by simp,zn1 r fs];exact q
theorem call_len_seq:CallR X (.builtin "len") (λ xs H Q=>∃ p ys,xs=[.ref p] /\ (SqL X.K H p ys \/ SqT X.K H p ys) /\ Q (.int ys.length) H):=by
 intro pins s σ H xs us Q I r h;obtain ⟨p,ys,rfl,hq,q⟩:=h;obtain ⟨u,rfl,rx⟩:=zr0 r;cases rx;have hn:=vg1;rcases hq with hq | hq
 ·obtain ⟨its,r',pl,hz⟩:=I.list hq;have hlen:=r'.length;exact Calls.call_len_list pl.isList (by simp only [size_toArray] <;> omega) ⟨.int ys.length,H,I.tok _,⟨s.toks + 1,by rw [size_toArray,hlen]⟩,q⟩
 ·obtain ⟨its,r',pl,hz⟩:=I.tuple hq;have hlen:=r'.length;exact len_tuple pl (by simp only [size_toArray] <;> omega) ⟨.int ys.length,H,I.tok _,⟨s.toks + 1,by rw [size_toArray,hlen]⟩,q⟩
theorem ui1:CallR X (.builtin "len") (λ xs H Q=>∃ z,xs=[.str z] /\ z.length<=sizeLine /\ Q (.int z.length) H):=by
 intro pins s σ H xs us Q I r h;obtain ⟨z,rfl,hz,q⟩:=h;obtain ⟨u,rfl,t,rfl⟩:=zr0 r;have hn:=vg1;exact len_str [7] ⟨.int z.length,H,I.tok _,⟨_,rfl⟩,q⟩
theorem CallR.or {f:Value} {r r':List V->Hp->VK->Prop} (h:CallR X f r) (h':CallR X f r'):CallR X f (λ xs H Q=>r xs H Q \/ r' xs H Q):=by
 intro pins s σ H xs us Q I rs q;rcases q with q | q
 ·exact h pins s σ H xs us Q I rs q
 ·exact h' pins s σ H xs us Q I rs q
theorem xd1:CallR X (.type "tuple") (λ xs H Q=>∃ p ys,xs=[.ref p] /\ ((SqL X.K H p ys /\ ∀ l,H l=none->Q (.ref l) (upd H l (.tup ys))) \/ (SqT X.K H p ys /\ Q [43] H))):=by
 intro pins s σ H xs us Q I r h;obtain ⟨p,ys,rfl,h⟩:=h;obtain ⟨u,rfl,rx⟩:=zr0 r;cases rx;rcases h with ⟨hq,q⟩ | ⟨hq,q⟩
 ·obtain ⟨its,r',pl,hz⟩:=I.list hq;have hlen:=r'.length;refine call_tuple_list pl.isList (λ h' kp=>?_) (by simp only [size_toArray] <;> omega);have I1:Inv X pins σ H [96]:=I.kept (t':=s.toks) kp
  have I2:Inv X pins σ (upd H h'.objs.size (.tup ys)) { s with heap:=h'.push { cls:=.type "tuple",data:=.seq its.toArray } } :=
   I1.laid (t':=s.toks) (λ b o e=>Heap.get?_push_of_some _ e) [19] (show ObjOk X.prog X.w _ _ _ (.tup ys) from ⟨hz,its,r',IsTup.new _ _⟩)
  exact ⟨.ref h'.objs.size,_,I2,rfl,q _ (I1.hok.fresh [19])⟩
 ·obtain ⟨its,r',pl,hz⟩:=I.tuple hq;exact call_tuple_same pl ⟨.ref p,H,I,rfl,q⟩
def tyV (K:[94]) (T:String) (x:V) (H:Hp):Prop:=match x with
 | .str _=>T = "str"
 | .int _=>T = "int"
 | .ref p=>(T = "list" /\ ∃ xs,SqL K H p xs) \/ (T = "tuple" /\ ∃ o,K.lookup p=some o /\ o.cls=.type "tuple" /\ o.dict=none) ∨
     (T = "dict" /\ ((∃ kvs,H p=some (.dK kvs)) \/ ∃ kvs,H p=some (.dT kvs))) \/ (T = "set" /\ ∃ S n,H p=some (.set S n))
 | _=>False
theorem vi3 (I:[10]) (r:RelV x v) (ty:tyV X.K T x H) :
    s.TypeIs v T /\ ∀ a,v=.ref a->∃ ob,s.heap.get? a=some ob /\ ob.dict=none:=by
 cases x with
 | str z =>
  obtain ⟨t,rfl⟩:=r;cases (show T = "str" from ty);exact ⟨typeIs_str s z t,λ _ e=>nomatch e⟩
 | int i =>
  obtain ⟨t,rfl⟩:=r;cases (show T = "int" from ty);exact ⟨typeIs_int s i t,λ _ e=>nomatch e⟩
 | ref p =>
  cases r;rcases ty with ⟨rfl,xs,hq⟩ | ⟨rfl,o,hk,hc,hd⟩ | ⟨rfl,hk⟩ | ⟨rfl,S,n,hk⟩
  ·obtain ⟨its,_,pl,_⟩:=I.list hq;refine ⟨pl.isList.typeIs,λ a e=>?_⟩;cases e;obtain ⟨o,n,e,c,hd,_⟩:=pl;exact ⟨o,e,hd⟩
  ·refine ⟨⟨o,I.kIn p o hk,hc⟩,λ a e=>?_⟩;cases e;exact ⟨o,I.kIn _ o hk,hd⟩
  ·have z:∃ o,s.heap.get? p=some o /\ o.ExactDict:=by
     rcases hk with ⟨kvs,hk⟩ | ⟨kvs,hk⟩
     ·obtain ⟨_,_,_,_,o,_,_,e,ex,_⟩:=I.hok p _ hk;exact ⟨o,e,ex⟩
     ·obtain ⟨_,_,_,_,o,_,_,e,ex,_⟩:=I.hok p _ hk;exact ⟨o,e,ex⟩
   obtain ⟨o,e,ex⟩:=z;refine ⟨⟨o,e,ex.1⟩,λ a e2=>?_⟩;cases e2;exact ⟨o,e,ex.2.1⟩
  ·obtain ⟨o,_,_,_,e,ex,_⟩:=I.hok p _ hk;refine ⟨⟨o,e,ex.1⟩,λ a e2=>?_⟩;cases e2;exact ⟨o,e,ex.2.1⟩
 | _=>exact False.elim ty
def tBM0 (K:[94]) (T:String) (r:V->List V->Hp->VK->Prop) (to:TE):TE:=λ σ H Q=>to σ H λ x H1=>tyV K T x H1 /\ r x [] H1 Q
def tBM (K:[94]) (T:String) (r:V->List V->Hp->VK->Prop) (to:TE) (t:TA):TE:=λ σ H Q=>to σ H λ x H1=>tyV K T x H1 /\ t σ H1 λ xs H2=>r x xs H2 Q
variable {o:Expr} {es:List Expr} {to:TE} {t:TA} {name:Str} {apos cpos:Pos} {id:String} {r:V->List V->Hp->VK->Prop}
theorem yj5 (pa:PlainAttrs T) (slot:Slot T name id) (hty:typeOf (.builtin id)=pure (.type "method_descriptor")) (hm:MtR X id r) (ho:PE X o to)
    (hbase:attributeBase o name X.env (eval o X.env)=eval o X.env:=by rfl) (hline:[77]=true:=by rfl):PE X (.Call (.Attribute o name apos) [] [] cpos) (tBM0 X.K T r to):=by
 intro pins s σ H Q I h;refine wpAny_Call_method0_late hbase hline (thn (ho pins s σ H _ I h) λ v s1 ⟨x,H1,I1,r1,ty,q1⟩=>?_);obtain ⟨h1,h2⟩:=vi3 I1 r1 ty;exact ⟨T,id,pa,slot,hty,h1,h2,Calls.callWith_builtin rfl (PySem.evalArgs_none (hm pins s1 σ H1 x [] v [] Q I1 r1 .nil q1))⟩
theorem zj5 (pa:PlainAttrs T) (slot:Slot T name id) (hty:typeOf (.builtin id)=pure (.type "method_descriptor")) (hm:MtR X id r) (ho:PE X o to) (ha:PA X (e :: es) t)
    (hbase:attributeBase o name X.env (eval o X.env)=eval o X.env:=by rfl)
    (hfew:([44].all (λ x=>!x.1) && [52].all (λ x=>x.1.isSome)
     && decide [15])=true:=by rfl)
    (hline:[77]=true:=by rfl) (hs:starEach (e :: es) X.env=[26] :: starEach es X.env:=by rfl) (hplain:[31].any (·.1)=false:=by rfl) :
    PE X (.Call (.Attribute o name apos) (e :: es) [] cpos) (tBM X.K T r to t):=by
 intro pins s σ H Q I h;refine wpAny_Call_method_late hbase hfew hline rfl (thn (ho pins s σ H _ I h) λ v s1 ⟨x,H1,I1,r1,ty,q1⟩=>?_);obtain ⟨h1,h2⟩:=vi3 I1 r1 ty;refine ⟨T,id,pa,slot,hty,h1,h2,?_⟩;have hA:=ha cpos pins s1 σ H1 _ I1 q1;rw [hs] at hA ⊢;refine Calls.callWith_builtin (by show (false || [31].any (·.1))=false; rw [hplain] <;> rfl) (Calls.evalArgs_plain ?_);exact thn hA λ us s2 ⟨vs,H2,I2,r2,q2⟩=>hm pins s2 σ H2 x vs v us Q I2 r1 r2 q2
end
def MtM (X:Cx) (id:String) (r:V->List V->Hp->VK->Prop):Prop :=
 ∀ (pins:[20]) (s:[88]) (σ:St) (H:Hp) (x:V) (xs:List V) (v:Value) (us:[27]) (Q:VK),Inv X pins σ H s->RelV x v->Vals xs us->r x xs H Q ->
  wpAny [11] X.A (call (.builtin id) (v :: us)) (EP X pins σ Q) X.xe s
theorem Vals.one:∀ {x:V} {us:[27]},Vals [x] us->∃ u,us=[u] /\ RelV x u
 | _,_,.cons r .nil=>⟨_,rfl,r⟩
theorem Vals.zero:∀ {us:[27]},Vals [] us->us=[]
 | _,.nil=>rfl
theorem Vals.dropLast {xs:List V} {us:[27]} (h:Vals xs us):Vals xs.dropLast us.dropLast:=by
 induction h with
 | nil=>exact .nil
 | cons r t ih =>
  cases t with
  | nil=>exact .nil
  | cons q t'=>exact .cons r ih
theorem Vals.rep {xs:List V} {us:[27]} (h:Vals xs us):∀ k:Nat,Vals (List.replicate k xs).flatten (List.replicate k us).flatten
 | 0=>.nil
 | k + 1=>by
  rw [replicate_succ,replicate_succ,flatten_cons,flatten_cons];exact Vals.append h (Vals.rep h k)
theorem vb2 {α:Type} (l:List α):l.eraseIdx (l.length - 1)=l.dropLast:=by
 induction l with
 | nil=>rfl
 | cons a r ih =>
  cases r with
  | nil=>rfl
  | cons b r =>
   have e:(a :: b :: r).length - 1=((b :: r).length - 1) + 1:=by
    have h1:(a :: b :: r).length=r.length + 2:=rfl;have h2:(b :: r).length=r.length + 1:=rfl;omega
   rw [e,List.eraseIdx_cons_succ,ih]
   all_goals rfl
theorem ut0 (its:[27]):∀ (k:Nat) (acc:[27]),
    List.foldl (λ x1 x2=>x1 ++ x2) acc.toArray (List.replicate k its.toArray)=(acc ++ (List.replicate k its).flatten).toArray
 | 0,acc=>by simp
 | k + 1,acc=>by
  have e:acc.toArray ++ its.toArray=(acc ++ its).toArray:=by simp
  have e2:(acc ++ its) ++ (List.replicate k its).flatten=acc ++ (List.replicate (k + 1) its).flatten:=by
   rw [replicate_succ,flatten_cons,append_assoc]
  rw [<- e2,<- ut0 its k (acc ++ its),<- e,replicate_succ,List.foldl_cons]
variable {t':Nat}
section
variable {l b:Addr} {ys zs:List V}
theorem Inv.lset {its':[27]} {f:Array Value->Array Value} (I:[10]) (hH:H l=some (.lst xs))
    (e:s.heap.get? l=some [59]) (hf:f its.toArray=its'.toArray) (hv:Vals ys its') (hz:ys.length<=sizeLine) :
    Inv X pins σ (upd H l (.lst ys)) { s with heap:=s.heap.update l (Obj.mapSeq f),toks:=t' }:=by
 have q:=PySem.IsL.update e f;rw [hf] at q;refine I.write (x:=l) (e:=l) (by rw [hH]; exact trivial) (.inl rfl) (λ b' u hb hu=>(Heap.get?_update_other s.heap (Obj.mapSeq f) (Ne.symm hb)).trans hu) ⟨_,q⟩ ?_;exact ⟨hz,its',_,hv,q⟩
theorem Inv.lnew (I:[10]) (hv:Vals ys its) (hz:ys.length<=sizeLine) :
    Inv X pins σ (upd H s.heap.objs.size (.lst ys)) { s with heap:=s.heap.push { cls:=.type "list",data:=.seq its.toArray },toks:=t' } :=
 I.laid (λ _ _ q=>Heap.get?_push_of_some _ q) [19] ⟨hz,its,0,hv,Heap.get?_push_size _ rfl⟩
theorem Inv.fresh (I:[10]):H s.heap.objs.size=none:=I.hok.fresh [19]
theorem Inv.lstM (I:[10]) (hH:H l=some (.lst xs)):xs.length<=sizeLine /\ ∃ (its:[27]) (n:Nat),Vals xs its /\ xs.length=its.length /\ s.heap.get? l=some [59]:=by
 obtain ⟨z,its,n,r,e⟩:=I.hok l _ hH;exact ⟨z,its,n,r,r.length,e⟩
theorem wq1 (h:n<=sizeLine):Builtin.List.listTooLong n=false:=by
 unfold Builtin.List.listTooLong;exact decide_eq_false [7]
end
section
def sv3:V->List V->Hp->VK->Prop:=λ x vs H Q=>∃ l xs y,x=.ref l /\ vs=[y] /\ H l=some (.lst xs) /\ xs.length < sizeLine /\ Q .non (upd H l (.lst (xs ++ [y])))
theorem us0:MtM X "list.append" sv3:=by
 intro pins s σ H x vs v us Q I rx rv h;obtain ⟨l,xs,y,rfl,rfl,hH,hz,q⟩:=h;cases rx;obtain ⟨u,rfl,ru⟩:=rv.one;obtain ⟨z,its,n,r,hl,e⟩:=I.lstM hH;refine call_meets F.slot_list_append ⟨_,e,rfl⟩ F.entry_list_append (F.args_list_append_2 _ _) (PySem.list_append l its.toArray n u (by rw [size_toArray]; omega)) ⟨e,?_⟩;refine ⟨.non,_,I.lset (its':=its ++ [u]) hH e [18] (r.append (.cons ru .nil)) ?_,rfl,q⟩;rw [length_append,List.length_singleton];omega
def tv3:V->List V->Hp->VK->Prop:=λ x vs H Q=>∃ l b xs zs,x=.ref l /\ vs=[.ref b] /\ H l=some (.lst xs) /\ H b=some (.lst zs) /\ xs.length + zs.length<=sizeLine /\ Q .non (upd H l (.lst (xs ++ zs)))
theorem sj2:MtM X "list.extend" tv3:=by
 intro pins s σ H x vs v us Q I rx rv h;obtain ⟨l,b,xs,zs,rfl,rfl,hH,hB,hz,q⟩:=h;cases rx;obtain ⟨u,rfl,ru⟩:=rv.one;cases ru;obtain ⟨z,its,n,r,hl,e⟩:=I.lstM hH;obtain ⟨z2,its2,n2,r2,hl2,e2⟩:=I.lstM hB;have hsz:its.toArray.size + its2.toArray.size<=sizeLine:=by rw [size_toArray,size_toArray]; omega
 have hlong:¬ (!its.toArray.isEmpty && Builtin.List.listTooLong (its.toArray.size + its2.toArray.size))=true:=by
  rw [wq1 hsz,Bool.and_false];exact Bool.false_ne_true
 refine call_meets F.slot_list_extend ⟨_,e,rfl⟩ F.entry_list_extend (F.args_list_extend_2 _ _)
  (AutoSeq1.list_extend_list_list_0 l its.toArray n b its2.toArray n2 hlong (by rw [size_toArray]; omega) [7]) ⟨e,e2,?_⟩
 refine ⟨.non,_,I.lset (its':=its ++ its2) hH e [18] (r.append r2) ?_,rfl,q⟩;rw [length_append];omega
def rPop:V->List V->Hp->VK->Prop:=λ x vs H Q=>∃ l xs y,x=.ref l /\ vs=[] /\ H l=some (.lst xs) /\ xs[xs.length - 1]?=some y /\ Q y (upd H l (.lst xs.dropLast))
theorem mt_pop:MtM X "list.pop" rPop:=by
 intro pins s σ H x vs v us Q I rx rv h;obtain ⟨l,xs,y,rfl,rfl,hH,hy,q⟩:=h;cases rx;have hus:=rv.zero;subst hus;obtain ⟨z,its,n,r,hl,e⟩:=I.lstM hH;obtain ⟨u,hu,ru⟩:=r.get hy
 have hy':its.toArray[its.toArray.size - 1]?=some u:=by
  show its.toArray[its.length - 1]?=some u;rw [<- getElem?_toList,<- hl];exact hu
 refine call_meets F.slot_list_pop ⟨_,e,rfl⟩ F.entry_list_pop (F.args_list_pop_1 _) (MeetsSeq.list_pop_last l its.toArray n u hy' (by rw [size_toArray]; omega)) ⟨e,?_⟩;refine ⟨y,_,I.lset (its':=its.dropLast) hH e ?_ r.dropLast ?_,ru,q⟩
 ·show its.toArray.eraseIdxIfInBounds (its.toArray.size - 1)=its.dropLast.toArray;rw [size_toArray,List.eraseIdxIfInBounds_toArray,vb2]
 ·rw [List.length_dropLast];omega
def rCat:R2:=λ x y H Q=>∃ l b xs zs,x=.ref l /\ y=.ref b /\ H l=some (.lst xs) /\ H b=some (.lst zs) /\ xs.length + zs.length<=sizeLine /\ ∀ p,H p=none->Q [43] (upd H p (.lst (xs ++ zs)))
theorem op_cat:OpR X (binaryOp .Add) rCat:=by
 intro pins s σ H x y v u Q I rx ry h;obtain ⟨l,b,xs,zs,rfl,rfl,hH,hB,hz,q⟩:=h;cases rx;cases ry;obtain ⟨z,its,n,r,hl,e⟩:=I.lstM hH;obtain ⟨z2,its2,n2,r2,hl2,e2⟩:=I.lstM hB;refine PySem.P.add_list e e2 ?_ (by rw [size_toArray,size_toArray]; omega);have ea:its.toArray ++ its2.toArray=(its ++ its2).toArray:=by simp
 rw [ea];exact ⟨.ref _,_,I.lnew (t':=s.toks) (r.append r2) (by rw [length_append]; omega),rfl,q _ I.fresh⟩
def rRep:R2:=λ x y H Q=>∃ l k xs,x=.ref l /\ y=.int k /\ H l=some (.lst xs) /\ -(2 ^ 63)<=k /\ k < 2 ^ 63 /\ xs.length * k.toNat<=sizeLine ∧
 ∀ p,H p=none->Q [43] (upd H p (.lst (List.replicate k.toNat xs).flatten))
theorem ul1 {α:Type} (xs:List α) (k:Nat):(List.replicate k xs).flatten.length=k * xs.length:=by
 induction k with
 | zero=>simp
 | succ k ih=>rw [replicate_succ,flatten_cons,length_append,ih,Nat.succ_mul,Nat.add_comm]
theorem op_rep:OpR X (binaryOp .Mult) rRep:=by
 intro pins s σ H x y v u Q I rx ry h;obtain ⟨l,k,xs,rfl,rfl,hH,h1,h2,hz,q⟩:=h;cases rx;obtain ⟨t,rfl⟩:=ry;obtain ⟨z,its,n,r,hl,e⟩:=I.lstM hH;have hlen:its.toArray.size * k.toNat<=sizeLine:=by rw [size_toArray,<- hl]; exact hz
 have hcap:¬ its.toArray.size * k.toNat > (2 ^ 63 - 1) / 8:=by
  have:(sizeLine:Nat)<=(2 ^ 63 - 1) / 8:=by decide
  omega
 have hfit:¬ (!Builtin.List.listFitsIndex k)=true:=by
  rw [fitsIndex_both h1 h2];exact Bool.false_ne_true
 have hlong:¬ Builtin.List.listTooLong (its.toArray.size * k.toNat)=true:=by
  rw [wq1 hlen];exact Bool.false_ne_true
 have hnew:List.foldl (λ x1 x2=>x1 ++ x2) #[] (List.replicate (if its.toArray.isEmpty=true then 0 else k.toNat) its.toArray)=(List.replicate k.toNat its).flatten.toArray:=by
  have f0:∀ m:Nat,List.foldl (λ x1 x2=>x1 ++ x2) #[] (List.replicate m its.toArray)=(List.replicate m its).flatten.toArray:=λ m=>by
   have:=ut0 its m [];rw [nil_append] at this;exact this
  rw [f0];cases its with
  | nil=>simp
  | cons a r'=>rw [if_neg [18]]
 refine wpAny_binaryOp_repeat_ref (T := "list") (U := "int") [8] ⟨_,e,rfl⟩ (λ s'=>typeIs_int s' k t) noFill_list_mul F.fills_int_mul F.slot_int_rmul repeat_list F.slot_int_index.lookup
  (call_meets F.slot_int_rmul (typeIs_int s k t) F.entry_int_rmul (F.args_int_rmul_2 _ _) (int___rmul___int_list k t l its.toArray n)
   ⟨e,rfl,⟨_,e,rfl⟩,call_meets F.slot_list_mul ⟨_,e,rfl⟩ F.entry_list_mul (F.args_list_mul_2 _ _) (AutoListH.list___mul___list_int_3 l its.toArray n k t hfit hcap hlong) ⟨e,?_⟩⟩)
 rw [hnew];exact ⟨.ref _,_,I.lnew (t':=s.toks) (r.rep k.toNat) (by rw [ul1,Nat.mul_comm]; exact hz),rfl,q _ I.fresh⟩
end
end L2
namespace Att
open PySem PySem.W PySem.Calls PyProof.Rows
variable {P:Params} {h:Heap}
theorem wt0:∀ (ns:List Int) (vs:[27]),WellAll P h vs (ns.map WData.int)->IntsAre vs ns:=by
 intro ns
 induction ns with
 | nil =>
  intro vs w;rw [map_nil] at w;cases w;exact .nil
 | cons n ns ih =>
  intro vs w;rw [map_cons] at w;cases w with
  | cons a b =>
   cases a;exact .cons _ _ (ih _ b)
variable {n:Nat}
theorem uf2 {l:OpenLaw} (hn:l.most=some n) {args:List WData} {vals:[27]}
    (hpre:l.row.toRowW.claim.pre args=true) (hwl:WellAll P h vals args) :
    ∃ a vs ns,vals=[Value.ref a] /\ args=[WData.list (ns.map WData.int)] /\ h.get? a=some { cls:=.type "list",data:=.seq vs.toArray } /\ IntsAre vs ns /\ ns.length<=n:=by
 have hsh:WShape.hasAll [] args [.list .int]=true:=(pre_splitW hpre).1;have hc:l.pre.holds [] { args:=args }=true:=(pre_splitW hpre).2;obtain ⟨d,r,rfl,h1,h2⟩:=hasAllW_cons hsh;obtain rfl:=hasAllW_nil h2;obtain ⟨xs,rfl,h3⟩:=hasW_list h1;obtain ⟨ns,rfl⟩:=items_int h3
 have hlen:ns.length<=n:=by
  unfold OpenLaw.pre at hc
  have h4:(WTm.not (.lt (.lit (.int (n:Int))) (.len (.arg 0)))).holds [] { args:=[.list (ns.map .int)] }=true:=by
   have h4:=(holds_andW hc).1;rw [hn] at h4;exact h4
  have h5:=condW_of h4 (w_not (w_lt w_lit (w_len_list (w_arg rfl))));rw [length_map] at h5;refine Nat.le_of_not_lt λ q=>?_;have q':(n:Int) < ((ns.length:Nat):Int):=by omega
  first
   | (rw [decide_eq_true q'] at h5; exact absurd h5 [8])
   | (simp at h5; omega)
 cases hwl with
 | cons w1 w2 =>
  cases w2;cases w1 with
  | list ho hall=>exact ⟨_,_,ns,rfl,rfl,ho,wt0 ns _ hall,hlen⟩
theorem sh2 (l:OpenLaw) (args:List WData):l.row.toRowW.claim.post args (.bool true) args=true :=
 postW_of (r:=l.row.toRowW) (X:=(true == true))
  (show WShape.has [] (.bool true) .bool=true by first | rfl | decide | simp [WShape.has,WShape.arms,WShape.armsAll])
  (show (WTm.eq .res (.lit (.bool true))).value [] { args:=args,res:=some (.bool true),after:=args }=some (.bool (true == true)) from w_eq_bool (w_res rfl) w_lit) rfl
theorem attach_call {l:OpenLaw} {q:[83]} {loose:[29]} {XP:(Str->Option Value)->Heap->Prop} {YP:World->Heap->Prop} {d:DefRec}
    (hn:l.most=some n) (hdf:d.params.defaults=[])
    (call:∀ (w:World) (s₀ s₁:[88]) (mg mb:[25]) (fa:Addr) (o:Obj) (pm cd doc:Value) (a:Addr) (vs:[27]) (ns:List Int),
     Ground q loose [] XP w s₀ mg mb s₁.heap->YP w s₁.heap ->
     s₁.heap.get? fa=some o->o.data=.func (docDef d.name d.params d.body d.scope pm cd doc)->s₁.heap.CodeRec cd d.name->mg d.name=some (.ref fa) ->
     s₁.heap.get? a=some { cls:=.type "list",data:=.seq vs.toArray }->IntsAre vs ns->ns.length<=n->s₁.gens = #[] ->
     codeAny (model l.prog w) callerA (.call (.ref fa) ⟨[.ref a],[]⟩) [92] s₁) :
    WalkO q loose XP YP l.row.toRowW d [] (λ f vs=>PySem.call f vs):=by
 intro w s₀ s₁ mg mb G Y fa o pm cd doc dV kV ho hd hcd hD hmg hg args vals as hpre hlay hrd hwl hlo;obtain rfl:dV=.none:=Dflts.none hD hdf;obtain rfl:kV=.none:=Dflts.noKw hD;obtain ⟨a,vs,ns,rfl,rfl,hobj,hints,hlen⟩:=uf2 hn hpre hwl;refine enter_call (codeAny_mono (call w s₀ s₁ mg mb fa o pm cd doc a vs ns G Y ho (fd_plain hd) hcd hmg hobj hints hlen hg) λ r s' hq=>?_);obtain ⟨rfl,h2,h3,h4⟩:=hq;exact ⟨.inl ⟨.bool true,.bool true,[],rfl,λ _=>rfl,.bool true,sh2 l _,λ _=>⟨List.Pairwise.nil,λ _ hm=>(nomatch hm)⟩⟩,h2,h3,h4⟩
section
variable {prog:[83]} {w:World} {A:Around} {E:[9]} {s:[88]} {K:Frag}
def ledger (h:Heap) (L d:Addr):List (Addr × Obj):=(List.range h.objs.size).filterMap λ a=>if a=L \/ a=d then none else (h.get? a).map λ o=>(a,o)
end
end Att
namespace L2
open PySem PySem.Spec PyProof.Rows
theorem sd1:∀ {vs:[27]} {ns:List Int},IntsAre vs ns->Vals (ns.map V.int) vs
 | _,_,.nil=>.nil
 | _,_,.cons n t h=>.cons ⟨t,rfl⟩ (sd1 h)
def Only (H:Hp):Prop:=∀ b,H b=none \/ ∃ o xs,H b=some (.frz o (.lst xs))
variable {P:[83]} {w:World} {K:[94]} {mg:[25]} {fd:FuncData} {x:Str} {sp:Sp}
theorem za3 {mb:[25]} {CX:CXT} {k:Nat} {fa a:Addr} {s₁:[88]} {vs:[27]} {ns:List Int}
    (KX:K.In s₁.heap) (hns:s₁.heap.Ns mainGlobals mg) (hb:s₁.heap.Ns builtinsNs mb) (hbb:∀ x:Str,x ≠ "__name__" -> mb x=bootBuiltins x) (hlim:s₁.heap.NoLimit) (hg:s₁.gens = #[])
    (ha:s₁.heap.get? a=some { cls:=.type "list",data:=.seq vs.toArray }) (hi:IntsAre vs ns) (hl:ns.length<=sizeLine) (hr:Room k callerA)
    (F:∀ base:Heap,K.In base->base.Ns mainGlobals mg->FnOk P w K mg base CX k fa fd [x] sp) (hbind:∀ (s:[88]) (u:Value),BindsTo s fd ⟨[u],[]⟩ [(x,u)])
    (hsp:∀ H:Hp,Only H->SqL K H a (ns.map V.int)->sp [.ref a] H (λ v _=>v=.bl true) λ _ _ _=>False)
    (hCX:∀ H e s',CX [] H s₁ (λ _ _ _=>False) e s'->False) :
    codeAny (model P w) callerA (.call (.ref fa) ⟨[.ref a],[]⟩) [92] s₁:=by
 have rv:=sd1 hi;have lenV:=hi.length
 have core:∀ H:Hp,Only H->SqL K H a (ns.map V.int)->HOk P w H s₁.heap->(∀ b,H b ≠ none->b=a)->(H a ≠ none->K.lookup a=none) ->
     codeAny (model P w) callerA (.call (.ref fa) ⟨[.ref a],[]⟩) [92] s₁:=by
  intro H hO hS hok hA hK;have base_of:∀ {b:Addr} {o:Obj},s₁.heap.get? b=some o->H b=none->(hidT s₁.heap H).get? b=some o:=λ e n=>ub3 e n
  have noA:∀ {b:Addr} {o:Obj} {es:Array DictEntry} {ep:Nat},s₁.heap.get? b=some o->o.data=.dict es ep->H b=none:=λ {b o es ep} e d=>by
   cases q:H b with
   | none=>rfl
   | some u =>
    have e':b=a:=hA b (by rw [q]; simp);subst e';rw [ha] at e; cases e;have d':Data.seq vs.toArray _=Data.dict es ep:=d;cases d'
  have nsK:∀ {b:Addr} {m:[25]},s₁.heap.Ns b m->(hidT s₁.heap H).Ns b m:=λ {b m} ⟨o,es,ep,e,d,r⟩=>⟨o,es,ep,base_of e (noA e d),d,r⟩
  have hKb:K.In (hidT s₁.heap H):=λ b o e=>base_of (KX b o e) (by
   cases q:H b with
   | none=>rfl
   | some u =>
    have e':b=a:=hA b (by rw [q]; simp);subst e';rw [hK (by rw [q]; simp)] at e; cases e)
  have hM:Mod K mg (hidT s₁.heap H):=⟨hKb,nsK hns,⟨mb,nsK hb,hbb⟩,let ⟨mc,h1,h2⟩:=hlim; ⟨mc,nsK h1,h2⟩⟩;have e0:Env0 P w K mg (hidT s₁.heap H) callerA [] s₁ H:=⟨rfl,hM,λ b o e=>wa4 e,Nat.le_of_eq (zm2 _ _),trivial,λ b hb=>absurd (show b ∈ ([]:List Addr) from hb) [18],hok,.of_eq hg⟩;refine codeAny_mono ((F _ hKb (nsK hns)).run callerA [] s₁ H ⟨[.ref a],[]⟩ [.ref a] [.ref a] _ _ hr e0 (hbind s₁ (.ref a)) (.cons rfl .nil) (hsp H hO hS)) λ r s' h=>?_;cases r with
  | error e=>exact (hCX H e s' h).elim
  | ok fl =>
   cases fl with
   | next=>exact False.elim h
   | brk=>exact False.elim h
   | cont=>exact False.elim h
   | ret u =>
    obtain ⟨v,H',os,bare,un,hok',r',q⟩:=h;have q':v=.bl true:=q;subst q';obtain rfl:u=Value.bool true:=r';refine ⟨rfl,OldK.of_keep λ b o e=>?_,os,bare⟩;cases q:H b with
    | none=>exact un.keep b o e q (by intro z; exact absurd (show b ∈ ([]:List Addr) from z) [18]) [18]
    | some u =>
     rcases hO b with z | ⟨ob,xs,z⟩
     ·rw [q] at z; cases z
     ·have z2:=un.frzs b ob _ z;obtain ⟨e1,_⟩:=hok b _ z;obtain ⟨e2,_⟩:=hok' b _ z2;rw [e] at e1; cases e1;exact e2
 cases hk:K.lookup a with
 | some o =>
  have e:=KX a o hk;rw [ha] at e;cases e;refine core (λ _=>none) (λ _=>.inl rfl) (.inr ⟨_,vs.toArray,_,hk,rfl,rfl,rfl,by rw [size_toArray,lenV]; exact hl,by simpa using rv⟩) (λ b u z=>by have z':(none:Option HO)=some u:=z; cases z') (λ b z=>absurd rfl z) λ z=>absurd rfl z
 | none =>
  refine core (λ b=>if b=a then some (.frz { cls:=.type "list",data:=.seq vs.toArray } (.lst (ns.map V.int))) else none) (λ b=>?_) (.inl (.inr ⟨{ cls:=.type "list",data:=.seq vs.toArray },if_pos rfl⟩)) (λ b u z=>?_) (λ b z=>?_) λ _=>hk
  ·by_cases hb:b=a
   ·exact .inr ⟨_,_,if_pos hb⟩
   ·exact .inl (if_neg hb)
  ·by_cases hb:b=a
   ·have z':=(if_pos hb).symm.trans z;cases z';subst hb;exact ⟨ha,by rw [length_map]; exact hl,vs,_,rv,ha⟩
   ·have z':=(if_neg hb).symm.trans z;cases z'
  ·by_cases hb:b=a
   ·exact hb
   ·exact absurd (if_neg hb) z
abbrev KOf {K:[94]} {h:Heap} (_:K.In h):PySem.W.Frag:=K
theorem walk_of {l:PySem.W.OpenLaw} {n k:Nat} {q:[83]} {loose:[29]} {XP:(Str->Option Value)->Heap->Prop} {YP:World->Heap->Prop} {d:DefRec} {K:Params->PySem.W.Frag} {CX:World->CXT} {sp:World->Sp} 
    (hn:l.most=some n) (hn2:n<=sizeLine) (hdf:d.params.defaults=[]) (hr:Room k callerA)
    (hY:∀ (w:World) (h:Heap),YP w h->(K w.params).In h)
    (F:∀ (w:World) (mg:[25]) (fa:Addr) (h:Heap),(K w.params).In h->h.Ns mainGlobals mg->mg d.name=some (.ref fa) ->
     ∃ fd:FuncData,(∀ (s:[88]) (u:Value),BindsTo s fd ⟨[u],[]⟩ [(x,u)]) ∧
      ∀ base:Heap,(K w.params).In base->base.Ns mainGlobals mg->FnOk l.prog w (K w.params) mg base (CX w) k fa fd [x] (sp w))
    (hsp:∀ (w:World) (H:Hp) (a:Addr) (ns:List Int),ns.length<=n->Only H->SqL (K w.params) H a (ns.map V.int)->sp w [.ref a] H (λ v _=>v=.bl true) λ _ _ _=>False)
    (hCX:∀ (w:World) (H:Hp) (s:[88]) (e:Value) (s':[88]),CX w [] H s (λ _ _ _=>False) e s'->False) :
    PySem.W.WalkO q loose XP YP l.row.toRowW d [] (λ f vs=>PySem.call f vs):=by
 refine Att.attach_call hn hdf λ w s₀ s₁ mg mb fa o pm cd doc a vs ns G Y ho hd hcd hmg hobj hints hlen hg=>?_;have KX:=hY w _ Y;obtain ⟨fd,hb,hF⟩:=F w mg fa _ KX G.T.g hmg;exact za3 KX G.T.g G.T.b G.T.builtins G.T.nolimit hg hobj hints (Nat.le_trans hlen hn2) hr hF hb (λ H hO hS=>hsp w H a ns hlen hO hS) λ H e s'=>hCX w H s₁ e s'
abbrev CX0:CXT:=λ _ _ _ _ _ _=>False
abbrev E0:XK:=λ _ _ _=>False
variable {X:Cx}
theorem wy2:vo0 CX0 X E0:=λ _ _ _ _ _ _ _ h=>h.elim
structure Fun (K:PySem.W.Frag) (x qual:Str) (st:Stmt) (f:Addr) (fd:FuncData):Prop where
 ex:∃ (oc:Value) (od:Option Addr) (kV doc pm:Value) (an:Option Addr) (cdv ct:Value) (osl:Array (Option Value)),
  fd=fnOf x qual (ug0 st) (wa0 st) (xa0 st) .none kV doc pm an cdv ct /\ K.lookup f=some ⟨oc,od,.func fd,osl⟩ /\ codeIn K cdv qual=true
 kp:keepIn K (.ref f)=true
variable {qual:Str} {f:Addr} {ps:[29]}
section
variable {base:Heap}
theorem Fun.ok {st:Stmt} {N:[29]} {k:Nat} (F:Fun K x qual st f fd) (S:FnScope N ps (xa0 st)) (len:∀ vs H Q E,sp vs H Q E->vs.length=ps.length)
    (hbody:∀ (cdv:Value) (A:Around) (outer:List Env) (s:[88]) (H:Hp) (vs:List V) (Q:VK) (E:XK),Room k (A.deeper (envOfC qual (xa0 st) s.heap.objs.size f cdv))->sp vs H Q E ->
     ∃ t,PSs (cxOf CX0 P w K mg base N qual (xa0 st) f cdv A outer s H E).nox (wa0 st) t /\ t { nx:=λ _ H'=>Q .non H',rt:=Q } (start N vs) H):FnOk P w K mg base CX0 (k + 1) f fd ps sp:=by
 obtain ⟨oc,od,kV,doc,pm,an,cdv,ct,osl,rfl,lk,hcd⟩:=F.ex;refine fn_of lk hcd S len λ A outer s H vs Q E hr hsp=>?_;obtain ⟨t,h,q⟩:=hbody cdv A outer s H vs Q E hr hsp;exact ⟨t,h.nox,q⟩
theorem Fun.binds {st:Stmt} (F:Fun K x qual st f fd)
    (h:∀ (kV doc pm:Value) (an:Option Addr) (cdv ct:Value) (us:[27]),us.length=ps.length->bindArgs (fnOf x qual (ug0 st) (wa0 st) (xa0 st) .none kV doc pm an cdv ct) ⟨us,[]⟩=pure (ps.zip us)):Binds K fd ps []:=by
 obtain ⟨oc,od,kV,doc,pm,an,cdv,ct,osl,rfl,lk,hcd⟩:=F.ex;exact .all (h kV doc pm an cdv ct)
theorem zn2 {st:Stmt} {oc:Value} {od an:Option Addr} {osl:[64]} {kV doc pm cdv ct:Value} (l:K.lookup f=some ⟨oc,od,.func (fnOf x qual (ug0 st) (wa0 st) (xa0 st) .none kV doc pm an cdv ct),osl⟩)
    (c:codeIn K cdv qual=true) (k:keepIn K (.ref f)=true):Fun K x qual st f (fnOf x qual (ug0 st) (wa0 st) (xa0 st) .none kV doc pm an cdv ct):=⟨⟨oc,od,kV,doc,pm,an,cdv,ct,osl,rfl,l,c⟩,k⟩
end
section
theorem pv (i:Nat) {pos:Pos} (hN:X.N[i]?=some x:=by rfl) (hv:Vis X.env.scope x:=by first | exact Or.inl rfl | exact Or.inr (Or.inl rfl) | exact Or.inr (Or.inr rfl)) (hd:[17]=false:=by decide)
    (hcd:(x == ("__classdict__" : Str))=false:=by decide):PE X (.Name x pos) (tVar i):=vk3 hN hv hd hcd
end
end L2
namespace Pv
open PySem
inductive D where
 | non | bl (b:Bool) | int (i:Int) | str (x:Str) | tup (l:List D) | fls (l:List D) | ref (a:Addr) | ty (n:String) | exc (c:Str)
 | ktp (l:List D)
inductive MO where
 | lst (xs:List D)
 | ins (c:Str) (fs:List (Str × D))
 | dck (kvs:List (Sum Int Str × D))
abbrev Mu:=Addr->Option MO
def updM (μ:Mu) (a:Addr) (o:MO):Mu:=λ b=>if b=a then some o else μ b
variable {μ:Mu} {a:Addr} {o:MO}
theorem ya0:updM μ a o a=some o:=by unfold updM; rw [if_pos rfl]
theorem za0 {b:Addr} (h:b ≠ a):updM μ a o b=μ b:=by unfold updM; rw [if_neg h]
def Ext (μ μ':Mu):Prop:=∀ a o,μ a=some o->μ' a=some o
theorem Ext.refl (μ:Mu):Ext μ μ:=λ _ _ h=>h
theorem Ext.trans {a b c:Mu} (h:Ext a b) (k:Ext b c):Ext a c:=λ x o q=>k x o (h x o q)
variable {p:Addr}
theorem Ext.new (h:μ p=none):Ext μ (updM μ p o):=λ a u q=>by
 rw [za0]; exact q;intro e; subst e; rw [h] at q; cases q
theorem Ext.free {μ':Mu} (e:Ext μ μ') (h:μ' p=none):μ p=none:=by
 cases q:μ p with
 | none=>rfl
 | some o=>rw [e p o q] at h; cases h
def ExtB (p:Addr) (μ μ':Mu):Prop:=∀ a o,a ≠ p->μ a=some o->μ' a=some o
theorem ExtB.refl (p:Addr) (μ:Mu):ExtB p μ μ:=λ _ _ _ h=>h
theorem ExtB.trans {a b c:Mu} (h:ExtB p a b) (k:ExtB p b c):ExtB p a c:=λ x o n q=>k x o n (h x o n q)
theorem ExtB.upd:ExtB p μ (updM μ p o):=λ a u n q=>by rw [za0 n]; exact q
theorem ua0 {q:Addr} (h:μ p=some o) (k:μ q=none):p ≠ q:=by
 intro e; subst e; rw [h] at k; cases k
abbrev St3:=List (Option D)
def getI:St3->Nat->Option D
 | [],_=>none
 | o :: _,0=>o
 | _ :: r,i + 1=>getI r i
theorem vm1:∀ (ρ:St3) (i:Nat),getI ρ i=(ρ[i]?).getD none
 | [],i=>by simp [getI]
 | o :: _,0=>by simp [getI]
 | _ :: r,i + 1=>by simp [getI,vm1 r i]
abbrev VK3:=D->Mu->Prop
abbrev TE3:=St3->Mu->VK3->Prop
abbrev TT3:=St3->Mu->(Bool->Mu->Prop)->Prop
abbrev TA3:=St3->Mu->(List D->Mu->Prop)->Prop
structure Ends3 where
 nx:St3->Mu->Prop
 rt:VK3
 bk:St3->Mu->Prop:=λ _ _=>False
 ct:St3->Mu->Prop:=λ _ _=>False
abbrev TS3:=Ends3->St3->Mu->Prop
abbrev R3:=D->D->Mu->VK3->Prop
abbrev Sp3:=List D->Mu->VK3->Prop
abbrev C3:=List D->Mu->VK3->Prop
abbrev TG3:=D->St3->Mu->(St3->Mu->Prop)->Prop
abbrev TGs3:=List D->St3->Mu->(St3->Mu->Prop)->Prop
abbrev TI3:=St3->Mu->(List D->(Mu->Prop)->Mu->Prop)->Prop
def v3 (i:Nat):TE3:=λ ρ μ Q=>match getI ρ i with
 | some d=>Q d μ
 | none=>False
def c3 (d:D):TE3:=λ _ μ Q=>Q d μ
def o3 (r:R3) (ta tb:TE3):TE3:=λ ρ μ Q=>ta ρ μ λ x μ1=>tb ρ μ1 λ y μ2=>r x y μ2 Q
def un3 (r:D->Mu->VK3->Prop) (ta:TE3):TE3:=λ ρ μ Q=>ta ρ μ λ x μ1=>r x μ1 Q
def b3 (t:TE3):TT3:=λ ρ μ Q=>t ρ μ λ d μ1=>match d with
 | .bl c=>Q c μ1
 | _=>False
def and3 (t u:TT3):TT3:=λ ρ μ Q=>t ρ μ λ c μ1=>if c=true then u ρ μ1 Q else Q false μ1
def or3 (t u:TT3):TT3:=λ ρ μ Q=>t ρ μ λ c μ1=>if c=true then Q true μ1 else u ρ μ1 Q
def not3 (t:TT3):TT3:=λ ρ μ Q=>t ρ μ λ c μ1=>Q (!c) μ1
def andV3 (t u:TE3):TE3:=λ ρ μ Q=>t ρ μ λ d μ1=>match d with
 | .bl c=>if c=true then u ρ μ1 Q else Q (.bl false) μ1
 | _=>False
def orV3 (t u:TE3):TE3:=λ ρ μ Q=>t ρ μ λ d μ1=>match d with
 | .bl c=>if c=true then Q (.bl true) μ1 else u ρ μ1 Q
 | _=>False
def notV3 (t:TE3):TE3:=λ ρ μ Q=>t ρ μ λ d μ1=>match d with
 | .bl c=>Q (.bl (!c)) μ1
 | _=>False
def if3 (c:TT3) (t u:TE3):TE3:=λ ρ μ Q=>c ρ μ λ b μ1=>if b=true then t ρ μ1 Q else u ρ μ1 Q
def nil3:TA3:=λ _ μ Q=>Q [] μ
def cons3 (t:TE3) (u:TA3):TA3:=λ ρ μ Q=>t ρ μ λ d μ1=>u ρ μ1 λ ds μ2=>Q (d :: ds) μ2
def tup3 (t:TA3):TE3:=λ ρ μ Q=>t ρ μ λ ds μ1=>ds.length<=sizeLine /\ Q (.tup ds) μ1
def lst3 (t:TA3):TE3:=λ ρ μ Q=>t ρ μ λ ds μ1=>ds.length<=sizeLine /\ ∀ p,μ1 p=none->Q [43] (updM μ1 p (.lst ds))
def call3 (sp:Sp3) (t:TA3):TE3:=λ ρ μ Q=>t ρ μ λ ds μ1=>sp ds μ1 Q
def mt3 (r:D->List D->Mu->VK3->Prop) (to:TE3) (t:TA3):TE3:=λ ρ μ Q=>to ρ μ λ x μ1=>match x with
 | .ref p=>match μ1 p with
  | some (.lst _)=>t ρ μ1 λ ds μ2=>r [43] ds μ2 Q
  | _=>False
 | _=>False
abbrev TO3:=St3->Mu->(Option Int->Mu->Prop)->Prop
def np3:TO3:=λ _ μ Q=>Q none μ
def pt3 (t:TE3):TO3:=λ ρ μ Q=>t ρ μ λ d μ1=>match d with
 | .int i=>Q (some i) μ1
 | _=>False
def sl3 (r:D->Option Int->Option Int->Mu->VK3->Prop) (te:TE3) (tl th:TO3):TE3:=λ ρ μ Q=>te ρ μ λ x μ1=>tl ρ μ1 λ l μ2=>th ρ μ2 λ u μ3=>r x l u μ3 Q
def sIx3 (n d:Nat):Option Int->Nat
 | none=>d
 | some v=>if v < 0 then (v + (n:Int)).toNat else min v.toNat n
def cut3 {α:Type} (xs:List α) (lo hi:Option Int):List α:=(xs.drop (sIx3 xs.length 0 lo)).take (sIx3 xs.length xs.length hi - sIx3 xs.length 0 lo)
def slR:D->Option Int->Option Int->Mu->VK3->Prop:=λ x lo hi μ Q=>match x with
 | .tup l=>Q (.tup (cut3 l lo hi)) μ
 | .str z=>z.length<=sizeLine /\ Q (.str ⟨(cut3 z.cps.toList lo hi).toArray⟩) μ
 | .ref p=>match μ p with
  | some (.lst l)=>∀ r,μ r=none->Q (.ref r) (updM μ r (.lst (cut3 l lo hi)))
  | _=>False
 | .fls l=>∀ r,μ r=none->Q (.ref r) (updM μ r (.lst (cut3 l lo hi)))
 | _=>False
def next3:TS3:=λ D ρ μ=>D.nx ρ μ
def never3:TS3:=λ _ _ _=>False
def brk3:TS3:=λ D ρ μ=>D.bk ρ μ
def cnt3:TS3:=λ D ρ μ=>D.ct ρ μ
def seq3 (t u:TS3):TS3:=λ D ρ μ=>t { D with nx:=u D } ρ μ
def drop3 (t:TE3):TS3:=λ D ρ μ=>t ρ μ λ _ μ1=>D.nx ρ μ1
def ret3 (t:TE3):TS3:=λ D ρ μ=>t ρ μ D.rt
def retN3:TS3:=λ D _ μ=>D.rt .non μ
def ifs3 (c:TT3) (t u:TS3):TS3:=λ D ρ μ=>c ρ μ λ b μ1=>if b=true then t D ρ μ1 else u D ρ μ1
def gn3 (i:Nat):TG3:=λ d ρ μ Q=>Q (ρ.set i (some d)) μ
def gnil3:TGs3:=λ ds ρ μ Q=>match ds with
 | []=>Q ρ μ
 | _=>False
def gcons3 (t:TG3) (u:TGs3):TGs3:=λ ds ρ μ Q=>match ds with
 | d :: r=>t d ρ μ λ ρ1 μ1=>u r ρ1 μ1 Q
 | []=>False
def gtup3 (n:Nat) (t:TGs3):TG3:=λ d ρ μ Q=>match d with
 | .tup l=>l.length=n /\ t l ρ μ Q
 | _=>False
def set3 (i:Nat) (t:TE3):TS3:=λ D ρ μ=>t ρ μ λ d μ1=>D.nx (ρ.set i (some d)) μ1
def asg3 (t:TE3) (g:TG3):TS3:=λ D ρ μ=>t ρ μ λ d μ1=>g d ρ μ1 D.nx
def par3 (i j:Nat) (t:TA3):TS3:=λ D ρ μ=>t ρ μ λ ds μ1=>match ds with
 | [v,w]=>D.nx ((ρ.set i (some v)).set j (some w)) μ1
 | _=>False
def ixN (n:Nat) (i:Int):Option Nat:=if 0<=i then (if i < n then some i.toNat else none) else if -(n:Int)<=i then some (i + n).toNat else none
def atI {α:Type} (xs:List α) (i:Int):Option α:=(ixN xs.length i).bind λ j=>xs[j]?
def sub3 (to ti:TE3):TG3:=λ d ρ μ Q=>to ρ μ λ o μ1=>ti ρ μ1 λ i μ2=>match o,i with
 | .ref p,.int k=>match μ2 p with
  | some (.lst xs)=>match ixN xs.length k with
   | some j=>Q ρ (updM μ2 p (.lst (xs.set j d)))
   | none=>False
  | _=>False
 | _,_=>False
def wb2 (S:Mu->Prop) (g:TG3) (tb:TS3) (D':Ends3):List D->St3->Mu->Prop
 | [],ρ,μ=>S μ /\ D'.nx ρ μ
 | x :: r,ρ,μ=>S μ /\ ∃ N:St3->Mu->Prop,(∀ ρ' μ',N ρ' μ'->wb2 S g tb D' r ρ' μ') /\ g x ρ μ λ ρ1 μ1=>tb { D' with nx:=N,ct:=N,bk:=D'.nx } ρ1 μ1
def for3 (ti:TI3) (g:TG3) (tb:TS3):TS3:=λ D' ρ μ=>ti ρ μ λ l S μ1=>wb2 S g tb D' l ρ μ1
variable {S:Mu->Prop}
theorem sh0 {g:TG3} {tb:TS3} {D':Ends3} (W:List D->St3->Mu->Prop) {l:List D} {ρ:St3} (h0:W l ρ μ) (hS:∀ l ρ μ,W l ρ μ->S μ) (hn:∀ ρ μ,W [] ρ μ->D'.nx ρ μ)
    (hs:∀ x r ρ μ,W (x :: r) ρ μ->g x ρ μ λ ρ1 μ1=>tb { D' with nx:=W r,ct:=W r,bk:=D'.nx } ρ1 μ1):wb2 S g tb D' l ρ μ:=by
 induction l generalizing ρ μ with
 | nil=>exact ⟨hS _ _ _ h0,hn _ _ h0⟩
 | cons x r ih=>exact ⟨hS _ _ _ h0,W r,λ ρ' μ' q=>ih q,hs x r ρ μ h0⟩
def is3 (t:TE3):TI3:=λ ρ μ R=>t ρ μ λ d μ1=>match d with
 | .tup l=>R l (λ _=>True) μ1
 | .fls l=>R l (λ _=>True) μ1
 | .str z=>R (z.cps.toList.map λ c=>D.str ⟨#[c]⟩) (λ _=>True) μ1
 | .ref p=>match μ1 p with
  | some (.lst l)=>R l (λ μ=>μ p=some (.lst l)) μ1
  | _=>False
 | _=>False
def rngD (lo:Int) (n:Nat):List D:=(List.range n).map λ i=>.int (lo + (i:Nat))
theorem yg2 (lo:Int) (n:Nat):rngD lo (n + 1)=.int lo :: rngD (lo + 1) n:=by
 unfold rngD;rw [List.range_succ_eq_map,map_cons,map_map];have e0:lo + ((0:Nat):Int)=lo:=by simp
 rw [e0];congr 1;apply map_congr_left;intro a _;show D.int (lo + ((a + 1:Nat):Int))=D.int (lo + 1 + (a:Int));have e1:lo + ((a + 1:Nat):Int)=lo + 1 + (a:Int):=by omega
 rw [e1]
def ir3 (t:TA3):TI3:=λ ρ μ R=>t ρ μ λ ds μ1=>match ds with
 | [.int j]=>(-(2 ^ 62)<=j /\ j < 2 ^ 62) /\ R (rngD 0 j.toNat) (λ _=>True) μ1
 | _=>False
def ir23 (t:TA3):TI3:=λ ρ μ R=>t ρ μ λ ds μ1=>match ds with
 | [.int i,.int j]=>(-(2 ^ 62)<=i /\ i < 2 ^ 62 /\ -(2 ^ 62)<=j /\ j < 2 ^ 62) /\ R (rngD i (j - i).toNat) (λ _=>True) μ1
 | _=>False
def xq2 (S:Mu->Prop) (p:Addr) (g:TG3) (tc:TT3) (te:TE3) (Q:VK3) (l:List D) (ρ0:St3) (μ0:Mu):Prop :=
 ∃ W:List D->List D->St3->Mu->Prop,W l [] ρ0 μ0 /\ (∀ l ys ρ μ,W l ys ρ μ->S μ /\ μ p=some (.lst ys)) /\ (∀ ys ρ μ,W [] ys ρ μ->Q [43] μ) ∧
  ∀ x r ys ρ μ,W (x :: r) ys ρ μ->ys.length < sizeLine /\ g x ρ μ λ ρ1 μ1=>tc ρ1 μ1 λ b μ2 =>
   if b=true then te ρ1 μ2 λ d μ3=>μ3 p=some (.lst ys) /\ W r (ys ++ [d]) ρ1 (updM μ3 p (.lst (ys ++ [d]))) else W r ys ρ1 μ2
def comp3 (js:List (Option Nat)) (ti:TI3) (g:TG3) (tc:TT3) (te:TE3):TE3:=λ ρ μ Q=>ti ρ μ λ l S μ1=>∀ p,μ1 p=none->xq2 S p g tc te Q l (js.map λ j=>j.bind (getI ρ)) (updM μ1 p (.lst []))
def tt3:TT3:=λ _ μ Q=>Q true μ
theorem sd0 {te:TE3} {Q:VK3} {l:List D} {o:Option D} {rest:St3} (f:D->D) (hp:μ p=none) (hl:l.length<=sizeLine) (hS:∀ μ',Ext μ μ'->S μ')
    (hx:∀ x ∈ l,∀ μ' R,Ext μ μ'->(∀ μ2,Ext μ' μ2->R (f x) μ2)->te (some x :: rest) μ' R) (hQ:∀ μ',Ext μ μ'->μ' p=some (.lst (l.map f))->Q [43] μ') :
    xq2 S p (gn3 0) tt3 te Q l (o :: rest) (updM μ p (.lst [])):=by
 refine ⟨λ r ys ρ μ'=>Ext μ μ' /\ μ' p=some (.lst ys) /\ (∃ o',ρ=o' :: rest) /\ ∃ a,a ++ r=l /\ ys=a.map f,?_,?_,?_,?_⟩
 ·exact ⟨Ext.new hp,ya0,⟨o,rfl⟩,[],rfl,rfl⟩
 ·rintro r ys ρ μ' ⟨h1,h2,_⟩;exact ⟨hS _ h1,h2⟩
 ·rintro ys ρ μ' ⟨h1,h2,_,a,e,rfl⟩;rw [append_nil] at e;subst e;exact hQ _ h1 h2
 ·rintro x r ys ρ μ' ⟨h1,h2,⟨o',rfl⟩,a,e,rfl⟩;refine ⟨by rw [length_map]; rw [<- e,length_append,length_cons] at hl; omega,?_⟩;show te (some x :: rest) μ' _;refine hx x (by rw [<- e]; simp) μ' _ h1 λ μ2 h3=>⟨h3 _ _ h2,λ b u hb=>?_,ya0,⟨_,rfl⟩,a ++ [x],by simp [<- e],by simp⟩;rw [za0 (ua0 hb hp)];exact h3 _ _ (h1 _ _ hb)
def CPow (i j:Int):Prop:=0<=j /\ j<=1000000 /\ i.natAbs < 2 ^ 64
def Big:Nat:=2 ^ 1000
def CMul (i j:Int):Prop:=((-(2 ^ 64) < i /\ i < 2 ^ 64) \/ (-(2 ^ 64) < j /\ j < 2 ^ 64)) \/ (i.natAbs < Big /\ j.natAbs < Big)
def int2 (C:Int->Int->Prop) (g:Int->Int->D):R3:=λ x y μ Q=>match x,y with
 | .int i,.int j=>C i j /\ Q (g i j) μ
 | _,_=>False
def int20 (g:Int->Int->D):R3:=λ x y μ Q=>match x,y with
 | .int i,.int j=>Q (g i j) μ
 | _,_=>False
def subR:R3:=int20 λ i j=>.int (i - j)
def mulR:R3:=λ x y μ Q=>match x,y with
 | .int i,.int j=>CMul i j /\ Q (.int (i * j)) μ
 | .tup l,.int k=>((-(2 ^ 62)<=k /\ k < 2 ^ 62) /\ l.length * k.toNat<=1000000) /\ Q (.tup (List.replicate k.toNat l).flatten) μ
 | .ref p,.int k=>match μ p with
  | some (.lst l)=>((-(2 ^ 62)<=k /\ k < 2 ^ 62) /\ l.length * k.toNat<=1000000) /\ ∀ r,μ r=none->Q (.ref r) (updM μ r (.lst (List.replicate k.toNat l).flatten))
  | _=>False
 | _,_=>False
def modR:R3:=int2 (λ _ j=>0 < j) λ i j=>.int (i % j)
def fdivR:R3:=int2 (λ _ j=>0 < j /\ j < 2 ^ 120) λ i j=>.int (i / j)
def powR:R3:=int2 CPow λ i j=>.int (i ^ j.toNat)
def ltR:R3:=int20 λ i j=>.bl (decide (i < j))
def leR:R3:=int20 λ i j=>.bl (decide (i<=j))
def gtR:R3:=int20 λ i j=>.bl (decide (j < i))
def geR:R3:=int20 λ i j=>.bl (decide (j<=i))
def negR:D->Mu->VK3->Prop:=λ x μ Q=>match x with
 | .int i=>Q (.int (-i)) μ
 | _=>False
def addR:R3:=λ x y μ Q=>match x,y with
 | .int i,.int j=>Q (.int (i + j)) μ
 | .str i,.str j=>i.length + j.length<=sizeLine /\ Q (.str (i ++ j)) μ
 | .ref p,.ref q=>match μ p,μ q with
  | some (.lst xs),some (.lst ys)=>xs.length + ys.length<=sizeLine /\ ∀ r,μ r=none->Q (.ref r) (updM μ r (.lst (xs ++ ys)))
  | _,_=>False
 | .tup l,.tup m=>l.length + m.length<=sizeLine /\ Q (.tup (l ++ m)) μ
 | _,_=>False
def eqS:D->D->Option Bool
 | .int i,.int j=>some (decide (i=j))
 | .bl i,.bl j=>some (decide (i=j))
 | .str i,.str j=>some (decide (i=j))
 | .non,.non=>some true
 | .non,.int _=>some false
 | .int _,.non=>some false
 | .non,.str _=>some false
 | .str _,.non=>some false
 | .int _,.str _=>some false
 | .str _,.int _=>some false
 | _,_=>none
mutual
def dat:D->Option PyData
 | .non=>some .none
 | .bl b=>some (.bool b)
 | .int i=>some (.int i)
 | .str x=>if PyData.strOk x=true then some (.str x) else none
 | .tup l=>match dats l with
  | some ps=>some (.tuple ps)
  | none=>none
 | .ktp l=>match dats l with
  | some ps=>some (.tuple ps)
  | none=>none
 | _=>none
def dats:List D->Option (List PyData)
 | []=>some []
 | d :: r=>match dat d with
  | some p=>match dats r with
   | some ps=>some (p :: ps)
   | none=>none
  | none=>none
end
def datM (μ:Mu):D->Option PyData
 | .ref p=>match μ p with
  | some (.lst l)=>match dats l with
   | some ps=>some (.list ps)
   | none=>none
  | _=>none
 | d=>dat d
def eqR:R3:=λ x y μ Q=>match eqS x y with
 | some c=>Q (.bl c) μ
 | none=>match datM μ x,datM μ y with
  | some p,some q=>(p.depth<=64 /\ q.depth<=64) /\ Q (.bl (PyData.eqv p q)) μ
  | _,_=>False
def neR:R3:=λ x y μ Q=>match eqS x y with
 | some c=>Q (.bl (!c)) μ
 | none=>match datM μ x,datM μ y with
  | some p,some q=>(p.depth<=64 /\ q.depth<=64) /\ Q (.bl (!PyData.eqv p q)) μ
  | _,_=>False
theorem eqR_ii (i j:Int) (μ:Mu) (Q:VK3):eqR (.int i) (.int j) μ Q=Q (.bl (decide (i=j))) μ:=rfl
theorem eqR_ss (i j:Str) (μ:Mu) (Q:VK3):eqR (.str i) (.str j) μ Q=Q (.bl (decide (i=j))) μ:=rfl
theorem eqR_bb (i j:Bool) (μ:Mu) (Q:VK3):eqR (.bl i) (.bl j) μ Q=Q (.bl (decide (i=j))) μ:=rfl
theorem eqR_is (i:Int) (j:Str) (μ:Mu) (Q:VK3):eqR (.int i) (.str j) μ Q=Q (.bl false) μ:=rfl
theorem neR_ii (i j:Int) (μ:Mu) (Q:VK3):neR (.int i) (.int j) μ Q=Q (.bl (!decide (i=j))) μ:=rfl
theorem neR_ss (i j:Str) (μ:Mu) (Q:VK3):neR (.str i) (.str j) μ Q=Q (.bl (!decide (i=j))) μ:=rfl
theorem neR_bb (i j:Bool) (μ:Mu) (Q:VK3):neR (.bl i) (.bl j) μ Q=Q (.bl (!decide (i=j))) μ:=rfl
def strs?:List D->Option (List Str)
 | []=>some []
 | .str x :: r=>match strs? r with
  | some l=>some (x :: l)
  | none=>none
 | _ :: _=>none
def inD (neg:Bool):R3:=λ x y μ Q=>match datM μ x,datM μ y with
 | some d,some (.list xs)=>(d.depth<=64 /\ (PyData.list xs).depth<=64) /\ Q (.bl (if neg then !(xs.any λ e=>PyData.eqv e d) else xs.any λ e=>PyData.eqv e d)) μ
 | some d,some (.tuple xs)=>(d.depth<=64 /\ (PyData.tuple xs).depth<=64) /\ Q (.bl (if neg then !(xs.any λ e=>PyData.eqv e d) else xs.any λ e=>PyData.eqv e d)) μ
 | _,_=>False
def inR (neg:Bool):R3:=λ x y μ Q=>match x,y with
 | .str z,.tup l=>match strs? l with
  | some zs=>Q (.bl (if neg then !zs.contains z else zs.contains z)) μ
  | none=>inD neg (.str z) (.tup l) μ Q
 | .str z,.ktp l=>match strs? l with
  | some zs=>Q (.bl (if neg then !zs.contains z else zs.contains z)) μ
  | none=>inD neg (.str z) (.ktp l) μ Q
 | .str z,.str y=>Q (.bl (if neg then !(!(Builtin.Str.occurrences y z 0 y.length 1).isEmpty) else !(Builtin.Str.occurrences y z 0 y.length 1).isEmpty)) μ
 | x,y=>inD neg x y μ Q
def ixR:R3:=λ x y μ Q=>match x,y with
 | .tup l,.int i=>match atI l i with
  | some d=>Q d μ
  | none=>False
 | .ktp l,.int i=>match atI l i with
  | some d=>Q d μ
  | none=>False
 | .fls l,.int i=>match atI l i with
  | some d=>Q d μ
  | none=>False
 | .ref p,.int i=>match μ p with
  | some (.lst l)=>match atI l i with
   | some d=>Q d μ
   | none=>False
  | _=>False
 | _,_=>False
def lenR:C3:=λ ds μ Q=>match ds with
 | [.tup l]=>Q (.int l.length) μ
 | [.fls l]=>Q (.int l.length) μ
 | [.str z]=>z.length<=sizeLine /\ Q (.int z.length) μ
 | [.ref p]=>match μ p with
  | some (.lst l)=>Q (.int l.length) μ
  | _=>False
 | _=>False
def absR:C3:=λ ds μ Q=>match ds with
 | [.int i]=>Q (.int (if i < 0 then -i else i)) μ
 | _=>False
def intR:C3:=λ ds μ Q=>match ds with
 | [.int i]=>Q (.int i) μ
 | [.bl b]=>Q (.int (if b then 1 else 0)) μ
 | [.str z]=>match PySem.intText? z with
  | some n=>z.length<=640 /\ Q (.int n) μ
  | none=>False
 | _=>False
def strR:C3:=λ ds μ Q=>match ds with
 | [.int i]=>i.natAbs.log2 < 1920 /\ Q (.str (toString i)) μ
 | _=>False
def smt3 (r:Str->List D->Mu->VK3->Prop) (to:TE3) (t:TA3):TE3:=λ ρ μ Q=>to ρ μ λ x μ1=>match x with
 | .str z=>t ρ μ1 λ ds μ2=>r z ds μ2 Q
 | _=>False
def joinR:Str->List D->Mu->VK3->Prop:=λ z ds μ Q=>match ds with
 | [.ref p]=>match μ p with
  | some (.lst l)=>match strs? l with
   | some ys=>(z.length<=16 /\ (ys.map (·.length)).sum + ys.length<=1048576) /\ Q (.str (Str.join z ys)) μ
   | none=>False
  | _=>False
 | _=>False
def splitR:Str->List D->Mu->VK3->Prop:=λ z ds μ Q=>match ds with
 | [.str y]=>((y.length == 0)=false /\ z.length<=1000000) /\ ∀ r,μ r=none->Q (.ref r) (updM μ r (.lst ((Txt.split z y).map D.str)))
 | _=>False
def startsR:Str->List D->Mu->VK3->Prop:=λ z ds μ Q=>match ds with
 | [.str y]=>Q (.bl (Txt.startswith z y)) μ
 | _=>False
def pop3 (to:TE3):TE3:=λ ρ μ Q=>to ρ μ λ x μ1=>match x with
 | .ref p=>match μ1 p with
  | some (.lst l)=>match l.reverse with
   | d :: r=>Q d (updM μ1 p (.lst r.reverse))
   | []=>False
  | _=>False
 | _=>False
def lrev3 (to:TE3):TE3:=λ ρ μ Q=>cons3 to nil3 ρ μ λ ds μ1=>match ds with
 | [.ref p]=>match μ1 p with
  | some (.lst l)=>∀ r,μ1 r=none->Q (.ref r) (updM μ1 r (.lst l.reverse))
  | _=>False
 | _=>False
def tupR:C3:=λ ds μ Q=>match ds with
 | [.tup l]=>Q (.tup l) μ
 | [.ref p]=>match μ p with
  | some (.lst l)=>Q (.tup l) μ
  | _=>False
 | _=>False
def ints?:List D->Option (List Int)
 | []=>some []
 | .int x :: r=>match ints? r with
  | some l=>some (x :: l)
  | none=>none
 | _ :: _=>none
def sumR:C3:=λ ds μ Q=>match ds with
 | [.ref p]=>match μ p with
  | some (.lst l)=>match ints? l with
   | some ns=>Q (.int ns.sum) μ
   | none=>False
  | _=>False
 | _=>False
def bls?:List D->Option (List Bool)
 | []=>some []
 | .bl x :: r=>match bls? r with
  | some l=>some (x :: l)
  | none=>none
 | _ :: _=>none
def ltP (a b c d:Int):Bool:=if a=c then decide (b < d) else decide (a < c)
def minR:C3:=λ ds μ Q=>match ds with
 | [.tup [.int a,.int b],.tup [.int c,.int d]]=>Q (if ltP c d a b then .tup [.int c,.int d] else .tup [.int a,.int b]) μ
 | _=>False
def allR:C3:=λ ds μ Q=>match ds with
 | [.ref p]=>match μ p with
  | some (.lst l)=>match bls? l with
   | some bs=>Q (.bl (bs.all id)) μ
   | none=>False
  | _=>False
 | _=>False
def tyN (μ:Mu):D->Option String
 | .int _=>some "int"
 | .bl _=>some "bool"
 | .str _=>some "str"
 | .tup _=>some "tuple"
 | .non=>some "NoneType"
 | .ref p=>match μ p with
  | some (.lst _)=>some "list"
  | _=>none
 | _=>none
def isIn (t T:String):Option Bool :=
 if t=T then some true
 else if t = "bool" /\ T = "int" then some true
 else if (t = "int" \/ t = "str" \/ t = "tuple" \/ t = "bool" \/ t = "NoneType" \/ t = "list") /\ (T = "int" \/ T = "str" \/ T = "tuple" \/ T = "bool" \/ T = "list") then some false
 else none
def isiR:C3:=λ ds μ Q=>match ds with
 | [d,.ty T]=>match tyN μ d with
  | some t=>match isIn t T with
   | some b=>Q (.bl b) μ
   | none=>False
  | none=>False
 | _=>False
def appR:D->List D->Mu->VK3->Prop:=λ x ds μ Q=>match x,ds with
 | .ref p,[d]=>match μ p with
  | some (.lst l)=>l.length < sizeLine /\ Q .non (updM μ p (.lst (l ++ [d])))
  | _=>False
 | _,_=>False
def extR:D->List D->Mu->VK3->Prop:=λ x ds μ Q=>match x,ds with
 | .ref p,[.ref q]=>match μ p,μ q with
  | some (.lst l),some (.lst m)=>l.length + m.length<=sizeLine /\ Q .non (updM μ p (.lst (l ++ m)))
  | _,_=>False
 | _,_=>False
theorem atI0 {α:Type} {a:α} {r:List α}:atI (a :: r) 0=some a:=by
 unfold atI ixN; rw [if_pos [8],if_pos (by simp only [length_cons]; omega)]; rfl
theorem atI1 {α:Type} {a b:α} {r:List α}:atI (a :: b :: r) 1=some b:=by
 unfold atI ixN; rw [if_pos [8],if_pos (by simp only [length_cons]; omega)]; rfl
theorem atI2 {α:Type} {a b c:α} {r:List α}:atI (a :: b :: c :: r) 2=some c:=by
 unfold atI ixN; rw [if_pos [8],if_pos (by simp only [length_cons]; omega)]; rfl
variable {n:Nat}
theorem ixN0:ixN (n + 1) 0=some 0:=by
 unfold ixN; rw [if_pos [8],if_pos [7]]; rfl
theorem ixN1:ixN (n + 1 + 1) 1=some 1:=by
 unfold ixN; rw [if_pos [8],if_pos [7]]; rfl
theorem ixN2:ixN (n + 1 + 1 + 1) 2=some 2:=by
 unfold ixN; rw [if_pos [8],if_pos [7]]; rfl
theorem atI_in {α:Type} {l:List α} {i:Int} (h0:0<=i) (h1:i < l.length):∃ d,d ∈ l /\ atI l i=some d:=by
 have hn:i.toNat < l.length:=by omega
 refine ⟨l[i.toNat],getElem_mem hn,?_⟩;unfold atI ixN;rw [if_pos h0,if_pos h1];exact getElem?_eq_getElem hn
def start3 (N:[29]) (ds:List D):St3:=ds.map some ++ List.replicate (N.length - ds.length) none
def uc2 (c:TT3) (tb:TS3):TS3:=λ D ρ μ=>∃ W:Nat->St3->Mu->Prop,(∃ m,W m ρ μ) /\ ∀ m ρ μ,W m ρ μ ->
 c ρ μ λ b μ1=>if b=true then ∃ N:St3->Mu->Prop,(∀ ρ' μ',N ρ' μ'->∃ m',m' < m /\ W m' ρ' μ') /\ tb { D with nx:=N,ct:=N,bk:=D.nx } ρ μ1 else D.nx ρ μ1
end Pv
namespace Pv
open PySem L2
abbrev Fg:=PySem.W.Frag
structure Kp (H H':Hp):Prop where
 tup:∀ b xs,H b=some (.tup xs)->H' b=some (.tup xs)
 frz:∀ b o u,H b=some (.frz o u)->H' b=some (.frz o u)
theorem Kp.refl (H:Hp):Kp H H:=⟨λ _ _ h=>h,λ _ _ _ h=>h⟩
theorem Kp.trans {a b c:Hp} (h:Kp a b) (k:Kp b c):Kp a c:=⟨λ x xs q=>k.tup x xs (h.tup x xs q),λ x o u q=>k.frz x o u (h.frz x o u q)⟩
variable {H:Hp} {p:Addr} {o:HO}
theorem Kp.new (h:H p=none):Kp H (upd H p o) :=
 ⟨λ b xs q=>by rw [va0 (ye0 q h)]; exact q,λ b o u q=>by rw [va0 (ye0 q h)]; exact q⟩
variable {xs:List V}
theorem Kp.wr (h:H p=some (.lst xs)):Kp H (upd H p o) :=
 [56]
def SqF (K:Fg) (H:Hp) (a:Addr) (xs:List V):Prop :=
 (∃ o,H a=some (.frz o (.lst xs))) \/ ∃ (o:Obj) (its:Array Value) (n:Nat),K.lookup a=some o /\ o.cls=.type "list" /\ o.dict=none /\ o.data=.seq its n /\ its.size<=sizeLine /\ Vals xs its.toList
variable {K:Fg}
theorem SqF.l {a:Addr} (h:SqF K H a xs):SqL K H a xs:=by
 rcases h with ⟨o,h⟩ | h
 ·exact .inl (.inr ⟨o,h⟩)
 ·exact .inr h
theorem SqF.mono {H':Hp} {a:Addr} (k:Kp H H') (h:SqF K H a xs):SqF K H' a xs:=by
 rcases h with ⟨o,h⟩ | h
 ·exact .inl ⟨o,k.frz _ _ _ h⟩
 ·exact .inr h
theorem SqT.mono {H':Hp} {a:Addr} (k:Kp H H') (h:SqT K H a xs):SqT K H' a xs:=by
 rcases h with h | h
 ·rcases h with h | ⟨o,h⟩
  ·exact .inl (.inl (k.tup _ _ h))
  ·exact .inl (.inr ⟨o,k.frz _ _ _ h⟩)
 ·exact .inr h
mutual
inductive RelD (K:Fg) (H:Hp):D->V->Prop where
 | non:RelD K H .non .non
 | bl (b:Bool):RelD K H (.bl b) (.bl b)
 | int (i:Int):RelD K H (.int i) (.int i)
 | str (x:Str):RelD K H (.str x) (.str x)
 | ref (a:Addr):RelD K H (.ref a) (.ref a)
 | ty (n:String):RelD K H (.ty n) (.ty n)
 | tup {a:Addr} {l:List D} {vs:List V}:H a=some (.tup vs)->RelDs K H l vs->RelD K H (.tup l) (.ref a)
 | ktp {a:Addr} {l:List D} {vs:List V}:SqT K H a vs->RelDs K H l vs->RelD K H (.ktp l) (.ref a)
 | fls {a:Addr} {l:List D} {vs:List V}:SqF K H a vs->RelDs K H l vs->RelD K H (.fls l) (.ref a)
 | exc {a C:Addr} {c:Str} {ob:Obj} {u:HO}:H a=some (.frz ob u)->ob.cls=.ref C->nsIn K mainGlobals c=some (some (.ref C))->RelD K H (.exc c) (.ref a)
inductive RelDs (K:Fg) (H:Hp):List D->List V->Prop where
 | nil:RelDs K H [] []
 | cons {d:D} {v:V} {l:List D} {vs:List V}:RelD K H d v->RelDs K H l vs->RelDs K H (d :: l) (v :: vs)
end
mutual
theorem RelD.mono {K:Fg} {H H':Hp} (k:Kp H H'):∀ {d:D} {v:V},RelD K H d v->RelD K H' d v
 | _,_,.non=>.non
 | _,_,.bl b=>.bl b
 | _,_,.int b=>.int b
 | _,_,.str b=>.str b
 | _,_,.ref b=>.ref b
 | _,_,.ty b=>.ty b
 | _,_,.tup h r=>.tup (k.tup _ _ h) (RelDs.mono k r)
 | _,_,.ktp h r=>.ktp (SqT.mono k h) (RelDs.mono k r)
 | _,_,.fls h r=>.fls (SqF.mono k h) (RelDs.mono k r)
 | _,_,.exc h r1 r2=>.exc (k.frz _ _ _ h) r1 r2
theorem RelDs.mono {K:Fg} {H H':Hp} (k:Kp H H'):∀ {d:List D} {v:List V},RelDs K H d v->RelDs K H' d v
 | _,_,.nil=>.nil
 | _,_,.cons h r=>.cons (RelD.mono k h) (RelDs.mono k r)
end
theorem RelDs.length {K:Fg} {H:Hp}:∀ {l:List D} {vs:List V},RelDs K H l vs->l.length=vs.length
 | _,_,.nil=>rfl
 | _,_,.cons _ r=>congrArg (· + 1) r.length
theorem RelDs.get {K:Fg} {H:Hp}:∀ {l:List D} {vs:List V} {i:Nat} {d:D},RelDs K H l vs->l[i]?=some d->∃ v,vs[i]?=some v /\ RelD K H d v
 | _,_,_,_,.nil,e=>by simp at e
 | _,_,0,_,.cons h _,e=>by simp at e; subst e; exact ⟨_,rfl,h⟩
 | _,_,i + 1,d,.cons _ r,e=>by
  obtain ⟨v,h1,h2⟩:=RelDs.get (i:=i) (d:=d) r (by simpa using e);exact ⟨v,by simpa using h1,h2⟩
theorem RelDs.append {K:Fg} {H:Hp}:∀ {l m:List D} {vs us:List V},RelDs K H l vs->RelDs K H m us->RelDs K H (l ++ m) (vs ++ us)
 | _,_,_,_,.nil,q=>q
 | _,_,_,_,.cons h r,q=>.cons h (RelDs.append r q)
theorem RelDs.set {K:Fg} {H:Hp} {d:D} {v:V} (hd:RelD K H d v):∀ {l:List D} {vs:List V} (i:Nat),RelDs K H l vs->RelDs K H (l.set i d) (vs.set i v)
 | _,_,_,.nil=>.nil
 | _,_,0,.cons _ r=>.cons hd r
 | _,_,i + 1,.cons h r=>.cons h (RelDs.set hd i r)
theorem RelDs.take {K:Fg} {H:Hp}:∀ {l:List D} {vs:List V} (n:Nat),RelDs K H l vs->RelDs K H (l.take n) (vs.take n)
 | _,_,0,r=>by simp only [List.take_zero]; exact .nil
 | _,_,n + 1,.nil=>by simp only [List.take_nil]; exact .nil
 | _,_,n + 1,.cons h r=>by simp only [List.take_succ_cons]; exact .cons h (RelDs.take n r)
theorem RelDs.drop {K:Fg} {H:Hp}:∀ {l:List D} {vs:List V} (n:Nat),RelDs K H l vs->RelDs K H (l.drop n) (vs.drop n)
 | _,_,0,r=>by simp only [drop_zero]; exact r
 | _,_,n + 1,.nil=>by simp only [List.drop_nil]; exact .nil
 | _,_,n + 1,.cons h r=>by simp only [List.drop_succ_cons]; exact RelDs.drop n r
theorem RelDs.rep {K:Fg} {H:Hp} {l:List D} {vs:List V} (r:RelDs K H l vs):∀ k:Nat,RelDs K H (List.replicate k l).flatten (List.replicate k vs).flatten
 | 0=>.nil
 | k + 1=>by rw [replicate_succ,replicate_succ,flatten_cons,flatten_cons]; exact r.append (RelDs.rep r k)
inductive RelFs (K:Fg) (H:Hp):List (Str × D)->List (Str × V)->Prop where
 | nil:RelFs K H [] []
 | cons {f:Str} {d:D} {v:V} {l:List (Str × D)} {vs:List (Str × V)}:RelD K H d v->RelFs K H l vs->RelFs K H ((f,d) :: l) ((f,v) :: vs)
theorem RelFs.mono {K:Fg} {H H':Hp} (k:Kp H H') {l:List (Str × D)} {vs:List (Str × V)} (r:RelFs K H l vs):RelFs K H' l vs:=by
 induction r with
 | nil=>exact .nil
 | cons h _ ih=>exact .cons (h.mono k) ih
inductive RelKk (K:Fg) (H:Hp):List (Key × D)->List (Key × V)->Prop where
 | nil:RelKk K H [] []
 | cons {t:Key} {d:D} {v:V} {l:List (Key × D)} {vs:List (Key × V)}:RelD K H d v->RelKk K H l vs->RelKk K H ((t,d) :: l) ((t,v) :: vs)
theorem RelKk.mono {K:Fg} {H H':Hp} (k:Kp H H') {l:List (Key × D)} {vs:List (Key × V)} (r:RelKk K H l vs):RelKk K H' l vs:=by
 induction r with
 | nil=>exact .nil
 | cons h _ ih=>exact .cons (h.mono k) ih
structure RelM (K:Fg) (μ:Mu) (H:Hp):Prop where
 lst:∀ p xs,μ p=some (.lst xs)->∃ vs,H p=some (.lst vs) /\ RelDs K H xs vs
 ins:∀ p c fs,μ p=some (.ins c fs)->∃ C dx vs,nsIn K mainGlobals c=some (some (.ref C)) /\ H p=some (.ins C dx vs) /\ H dx=some (.own p) /\ RelFs K H fs vs
 dck:∀ p kvs,μ p=some (.dck kvs)->∃ vs,H p=some (.dK vs) /\ RelKk K H kvs vs
instance {K:Fg} {μ:Mu} {H:Hp}:CoeFun (RelM K μ H) (λ _=>∀ p xs,μ p=some (.lst xs)->∃ vs,H p=some (.lst vs) /\ RelDs K H xs vs):=⟨RelM.lst⟩
variable {μ:Mu}
theorem RelM.free (m:RelM K μ H) (h:H p=none):μ p=none:=by
 cases e:μ p with
 | none=>rfl
 | some o =>
  cases o with
  | lst xs =>
   obtain ⟨vs,q,_⟩:=m.lst p xs e;rw [h] at q; cases q
  | ins c fs =>
   obtain ⟨C,dx,vs,_,q,_⟩:=m.ins p c fs e;rw [h] at q; cases q
  | dck kvs =>
   obtain ⟨vs,q,_⟩:=m.dck p kvs e;rw [h] at q; cases q
theorem RelM.newT (h:H p=none) (m:RelM K μ H):RelM K μ (upd H p o):=by
 have ne:∀ {q:Addr} {u:HO},H q=some u->q ≠ p:=λ {q u} e z=>by subst z; rw [h] at e; cases e
 refine ⟨λ q xs e=>?_,λ q c fs e=>?_,λ q kvs e=>?_⟩
 ·obtain ⟨vs,q1,r⟩:=m.lst q xs e;exact ⟨vs,by rw [va0 (ne q1)]; exact q1,r.mono (Kp.new h)⟩
 ·obtain ⟨C,dx,vs,n,q1,q2,r⟩:=m.ins q c fs e;exact ⟨C,dx,vs,n,by rw [va0 (ne q1)]; exact q1,by rw [va0 (ne q2)]; exact q2,r.mono (Kp.new h)⟩
 ·obtain ⟨vs,q1,r⟩:=m.dck q kvs e;exact ⟨vs,by rw [va0 (ne q1)]; exact q1,r.mono (Kp.new h)⟩
theorem RelM.newL {xs:List D} {vs:List V} (h:H p=none) (r:RelDs K H xs vs) (m:RelM K μ H):RelM K (updM μ p (.lst xs)) (upd H p (.lst vs)):=by
 have m':=m.newT (o:=.lst vs) h;refine ⟨λ q ys e=>?_,λ q c fs e=>?_,λ q kvs e=>?_⟩
 ·by_cases z:q=p
  ·subst z;rw [ya0] at e; cases e;exact ⟨vs,zb0,r.mono (Kp.new h)⟩
  ·rw [za0 z] at e;exact m'.lst q ys e
 ·by_cases z:q=p
  ·subst z;rw [ya0] at e; cases e
  ·rw [za0 z] at e;exact m'.ins q c fs e
 ·by_cases z:q=p
  ·subst z;rw [ya0] at e; cases e
  ·rw [za0 z] at e;exact m'.dck q kvs e
theorem RelM.wr {K:Fg} {μ:Mu} {H:Hp} {p:Addr} {xs:List D} {vs ws:List V} (h:H p=some (.lst ws)) (r:RelDs K H xs vs) (m:RelM K μ H):RelM K (updM μ p (.lst xs)) (upd H p (.lst vs)):=by
 refine ⟨λ q ys e=>?_,λ q c fs e=>?_,λ q kvs e=>?_⟩
 ·by_cases z:q=p
  ·subst z;rw [ya0] at e; cases e;exact ⟨vs,zb0,r.mono (Kp.wr h)⟩
  ·rw [za0 z] at e;rw [va0 z];obtain ⟨us,q1,r1⟩:=m.lst q ys e;exact ⟨us,q1,r1.mono (Kp.wr h)⟩
 ·by_cases z:q=p
  ·subst z;rw [ya0] at e; cases e
  ·rw [za0 z] at e;obtain ⟨C,dx,us,n,q1,q2,r1⟩:=m.ins q c fs e;refine ⟨C,dx,us,n,by rw [va0 z]; exact q1,?_,r1.mono (Kp.wr h)⟩;rw [va0]
   ·exact q2
   ·intro y; subst y; rw [h] at q2; cases q2
 ·by_cases z:q=p
  ·subst z;rw [ya0] at e; cases e
  ·rw [za0 z] at e;rw [va0 z];obtain ⟨us,q1,r1⟩:=m.dck q kvs e;exact ⟨us,q1,r1.mono (Kp.wr h)⟩
structure RSt (K:Fg) (H:Hp) (ρ:St3) (σ:St):Prop where
 len:ρ.length=σ.length
 at':∀ i d,getI ρ i=some d->∃ v,σ[i]?=some (some v) /\ RelD K H d v
theorem RSt.mono {K:Fg} {H H':Hp} {ρ:St3} {σ:St} (k:Kp H H') (s:RSt K H ρ σ):RSt K H' ρ σ:=⟨s.len,λ i d e=>let ⟨v,h,r⟩:=s.at' i d e; ⟨v,h,r.mono k⟩⟩
theorem ys1:∀ (ρ:St3) (i j:Nat) (d:Option D),getI (ρ.set i d) j=if i=j /\ i < ρ.length then d else getI ρ j
 | [],i,j,d=>by simp [getI]
 | o :: r,0,0,d=>by simp [getI]
 | o :: r,0,j + 1,d=>by simp [getI]
 | o :: r,i + 1,0,d=>by simp [getI]
 | o :: r,i + 1,j + 1,d=>by simp only [set_cons_succ,getI,ys1 r i j d,length_cons]; simp
theorem RSt.set {K:Fg} {H:Hp} {ρ:St3} {σ:St} {d:D} {v:V} (i:Nat) (r:RelD K H d v) (s:RSt K H ρ σ):RSt K H (ρ.set i (some d)) (σ.set i (some v)):=by
 refine ⟨by simp [s.len],λ j e h=>?_⟩;rw [ys1] at h;split at h
 ·next c =>
  obtain ⟨rfl,c2⟩:=c;cases h;exact ⟨v,by rw [List.getElem?_set_self (by rw [<- s.len]; exact c2)],r⟩
 ·next c =>
  obtain ⟨u,q,r'⟩:=s.at' j e h;have hj:j < σ.length:=(List.getElem?_eq_some_iff.mp q).1;by_cases z:i=j
  ·subst z; exact absurd ⟨rfl,by rw [s.len]; exact hj⟩ c
  ·exact ⟨u,by rw [List.getElem?_set_ne z]; exact q,r'⟩
theorem RSt.start {K:Fg} {H:Hp} {ds:List D} {vs:List V} (N:[29]) (r:RelDs K H ds vs):RSt K H (start3 N ds) (L2.start N vs):=by
 have hl:=r.length;refine ⟨by simp [start3,L2.start,hl],λ i d e=>?_⟩;rw [vm1] at e;unfold start3 at e;unfold L2.start;by_cases c:i < ds.length
 ·rw [List.getElem?_append_left (by simpa using c),getElem?_map] at e;cases q:ds[i]? with
  | none=>rw [q] at e; cases e
  | some d' =>
   rw [q] at e;have e':d'=d:=by simpa using e
   subst e';obtain ⟨v,h1,h2⟩:=r.get q;exact ⟨v,by rw [List.getElem?_append_left (by rw [length_map]; omega),getElem?_map,h1]; rfl,h2⟩
 ·rw [List.getElem?_append_right (by simpa using c),List.getElem?_replicate] at e;split at e <;> simp at e
abbrev Ks (K:Fg) (H:Hp) (Q3:VK3) (Q:VK):Prop:=∀ d μ' v H',Q3 d μ'->Kp H H'->RelD K H' d v->RelM K μ' H'->Q v H'
theorem Ks.after {H1:Hp} {Q3:VK3} {Q:VK} (k:Ks K H Q3 Q) (e:Kp H H1):Ks K H1 Q3 Q:=λ d μ v H' q e'=>k d μ v H' q (e.trans e')
def RdE (K:Fg) (tv:TE) (t:TE3):Prop:=∀ σ H Q ρ μ Q3,RSt K H ρ σ->RelM K μ H->t ρ μ Q3->Ks K H Q3 Q->tv σ H Q
def RE (X:Cx) (e:Expr) (t:TE3):Prop:=∃ tv,PE X e tv /\ RdE X.K tv t
def RdT (K:Fg) (tv:TT) (t:TT3):Prop:=∀ σ H Q ρ μ Q3,RSt K H ρ σ->RelM K μ H->t ρ μ Q3->(∀ b μ' H',Q3 b μ'->Kp H H'->RelM K μ' H'->Q b H')->tv σ H Q
def RT (X:Cx) (e:Expr) (t:TT3):Prop:=∃ tv,PT X e tv /\ RdT X.K tv t
def RW (X:Cx) (e:Expr) (t:TT3):Prop:=∃ tv,PW X e tv /\ RdT X.K tv t
def RdA (K:Fg) (tv:TA) (t:TA3):Prop:=∀ σ H Q ρ μ Q3,RSt K H ρ σ->RelM K μ H->t ρ μ Q3->(∀ ds μ' vs H',Q3 ds μ'->Kp H H'->RelDs K H' ds vs->RelM K μ' H'->Q vs H')->tv σ H Q
def RA (X:Cx) (es:List Expr) (t:TA3):Prop:=∃ tv,PA X es tv /\ RdA X.K tv t
structure KsD (K:Fg) (H:Hp) (D3:Ends3) (D:Ends):Prop where
 nx:∀ ρ μ σ H',D3.nx ρ μ->Kp H H'->RSt K H' ρ σ->RelM K μ H'->D.nx σ H'
 bk:∀ ρ μ σ H',D3.bk ρ μ->Kp H H'->RSt K H' ρ σ->RelM K μ H'->D.bk σ H'
 ct:∀ ρ μ σ H',D3.ct ρ μ->Kp H H'->RSt K H' ρ σ->RelM K μ H'->D.ct σ H'
 rt:Ks K H D3.rt D.rt
theorem KsD.after {K:Fg} {H H1:Hp} {D3:Ends3} {D:Ends} (k:KsD K H D3 D) (e:Kp H H1):KsD K H1 D3 D :=
 ⟨λ ρ μ σ H' q e'=>k.nx ρ μ σ H' q (e.trans e'),λ ρ μ σ H' q e'=>k.bk ρ μ σ H' q (e.trans e'),λ ρ μ σ H' q e'=>k.ct ρ μ σ H' q (e.trans e'),k.rt.after e⟩
def RdS (K:Fg) (tv:TS) (t:TS3):Prop:=∀ σ H D ρ μ D3,RSt K H ρ σ->RelM K μ H->t D3 ρ μ->KsD K H D3 D->tv D σ H
def RS (X:Cx) (st:Stmt) (t:TS3):Prop:=∃ tv,PS X st tv /\ RdS X.K tv t
def RSs (X:Cx) (st:List Stmt) (t:TS3):Prop:=∃ tv,PSs X st tv /\ RdS X.K tv t
def RdG (K:Fg) (tv:TG) (t:TG3):Prop:=∀ v d σ H Q ρ μ Q3,RSt K H ρ σ->RelM K μ H->RelD K H d v->t d ρ μ Q3->(∀ ρ' μ' σ' H',Q3 ρ' μ'->Kp H H'->RSt K H' ρ' σ'->RelM K μ' H'->Q σ' H')->tv v σ H Q
def RG (X:Cx) (e:Expr) (t:TG3):Prop:=∃ tv,PG X e tv /\ RdG X.K tv t
def RdO (K:Fg) (r:R2) (r3:R3):Prop:=∀ x y v u H Q μ Q3,RelM K μ H->RelD K H x v->RelD K H y u->r3 x y μ Q3->Ks K H Q3 Q->r v u H Q
def RO (X:Cx) (f:Value->Value->Sem Value) (r3:R3):Prop:=∃ r,OpR X f r /\ RdO X.K r r3
def RdU (K:Fg) (r:V->Hp->VK->Prop) (r3:D->Mu->VK3->Prop):Prop:=∀ x v H Q μ Q3,RelM K μ H->RelD K H x v->r3 x μ Q3->Ks K H Q3 Q->r v H Q
def RU (X:Cx) (f:Value->Sem Value) (r3:D->Mu->VK3->Prop):Prop:=∃ r,UnR X f r /\ RdU X.K r r3
def RdC (K:Fg) (r:List V->Hp->VK->Prop) (r3:C3):Prop:=∀ xs vs H Q μ Q3,RelM K μ H->RelDs K H xs vs->r3 xs μ Q3->Ks K H Q3 Q->r vs H Q
def RC (X:Cx) (f:Value) (r3:C3):Prop:=∃ r,CallR X f r /\ RdC X.K r r3
def RX (X:Cx) (r3:R3):Prop:=∃ r,IxR X r /\ RdO X.K r r3
variable {x:Str} {d:D} {i:Nat} {r3:R3} {va:TE}
section
variable {X:Cx} {a b c e:Expr} {ta tb tc te:TE3} {pos:Pos}
theorem xy4 (i:Nat) (hN:X.N[i]?=some x:=by rfl) (hv:Vis X.env.scope x:=by first | exact Or.inl rfl | exact Or.inr (Or.inl rfl) | exact Or.inr (Or.inr rfl)) (hd:[17]=false:=by decide)
    (hcd:(x == ("__classdict__" : Str))=false:=by decide):RE X (.Name x pos) (v3 i):=by
 refine ⟨_,vk3 hN hv hd hcd,λ σ H Q ρ μ Q3 s m h k=>?_⟩;unfold v3 at h;cases q:getI ρ i with
 | none=>rw [q] at h; exact h.elim
 | some d =>
  rw [q] at h;obtain ⟨v,e,r⟩:=s.at' i d q;exact ⟨v,e,k d μ v H h (Kp.refl H) r m⟩
theorem RdE.cst {v:V} (r:∀ H,RelD K H d v):RdE K (tC v) (c3 d):=λ σ H Q ρ μ Q3 s m h k=>k d μ v H h (Kp.refl H) (r H) m
theorem yz4 {i:Int} {j}:RE X (.Constant (.int i) j pos) (c3 (.int i)):=⟨_,si5,RdE.cst λ _=>.int i⟩
theorem re_bl {i:Bool} {j}:RE X (.Constant (.bool i) j pos) (c3 (.bl i)):=⟨_,pe_bl,RdE.cst λ _=>.bl i⟩
theorem ty4 {j}:RE X (.Constant .none j pos) (c3 .non):=⟨_,vi5,RdE.cst λ _=>.non⟩
theorem wy4 {j}:RE X (.Constant (.str x) j pos) (c3 (.str x)):=⟨_,zi5,RdE.cst λ _=>.str x⟩
def Gd (K:Fg) (mg:[25]) (x:Str) (d:D):Prop:=∃ u v,mg x=some u /\ RelV v u /\ ∀ H,RelD K H d v
theorem re_g (g:Gd X.K X.mg x d) (hg:Gl X x:=by rfl) (hd:[17]=false:=by decide):RE X (.Name x pos) (c3 d):=by
 obtain ⟨u,v,hm,r,rd⟩:=g;exact ⟨_,ty3 hg hm r hd,RdE.cst rd⟩
theorem yy4 {T:String} (hm:X.mg x=none) (hv:bootBuiltins x=some (.type T)) (hg:Gl X x:=by rfl) (hn:x ≠ "__name__" := by decide) (hd:[17]=false:=by decide):RE X (.Name x pos) (c3 (.ty T)) :=
 ⟨_,zz3 hg hm hv (show RelV (.ty T) (.type T) from rfl) hn hd,RdE.cst λ _=>.ty T⟩
theorem vk1 {op:Operator} (ho:RO X (binaryOp op) r3) (ha:RE X a ta) (hb:RE X b tb):RE X (.BinOp a op b pos) (o3 r3 ta tb):=by
 obtain ⟨r,po,ro⟩:=ho;obtain ⟨va,pa,ra⟩:=ha;obtain ⟨vb,pb,rb⟩:=hb
 exact ⟨_,pe_op po pa pb,λ σ H Q ρ μ Q3 s m h k=>ra σ H _ ρ μ _ s m h λ x μ1 v H1 h1 k1 r1 m1=>rb σ H1 _ ρ μ1 _ [90] m1 h1 λ y μ2 u H2 h2 k2 r2 m2 =>
  ro x y v u H2 Q μ2 Q3 m2 (r1.mono k2) r2 h2 (k.after (k1.trans k2))⟩
theorem re_un {op:UnaryOp} {r3:D->Mu->VK3->Prop} (ho:RU X (unaryOp op) r3) (ha:RE X a ta):RE X (.UnaryOp op a pos) (un3 r3 ta):=by
 obtain ⟨r,po,ro⟩:=ho;obtain ⟨va,pa,ra⟩:=ha;exact ⟨_,pe_un po pa,λ σ H Q ρ μ Q3 s m h k=>ra σ H _ ρ μ _ s m h λ x μ1 v H1 h1 k1 r1 m1=>ro x v H1 Q μ1 Q3 m1 r1 h1 (k.after k1)⟩
theorem RdE.op {r:R2} {vb:TE} (ra:RdE K va ta) (rb:RdE K vb tb) (ro:RdO K r r3):RdE K (tOp r va vb) (o3 r3 ta tb):=λ σ H Q ρ μ Q3 s m h k =>
 ra σ H _ ρ μ _ s m h λ x μ1 v H1 h1 k1 r1 m1=>rb σ H1 _ ρ μ1 _ [90] m1 h1 λ y μ2 u H2 h2 k2 r2 m2=>ro x y v u H2 Q μ2 Q3 m2 (r1.mono k2) r2 h2 (k.after (k1.trans k2))
theorem RdT.test (ra:RdE K va ta):RdT K (xo4 va) (b3 ta):=λ σ H Q ρ μ Q3 s m h k=>by
 refine ra σ H _ ρ μ _ s m h λ d μ1 v H1 h1 k1 r1 m1=>?_;cases r1 with
 | bl c=>exact ⟨c,rfl,k c μ1 H1 h1 k1 m1⟩
 | _=>exact False.elim h1
theorem vf1 {op:CmpOp} (ho:RO X (compareOp op) r3) (ha:RE X a ta) (hb:RE X b tb) (hm:behindInMarks op b=false:=by first | exact uk3 _ | with_unfolding_all rfl):RE X (.Compare a [op] [b] pos) (o3 r3 ta tb):=by
 obtain ⟨r,po,ro⟩:=ho;obtain ⟨va,pa,ra⟩:=ha;obtain ⟨vb,pb,rb⟩:=hb;exact ⟨_,yz3 po pa pb hm,ra.op rb ro⟩
theorem wo0 {op:CmpOp} (ho:RO X (compareOp op) r3) (ha:RE X a ta) (hb:RE X b tb) (hm:behindInMarks op b=false:=by first | exact uk3 _ | with_unfolding_all rfl):RT X (.Compare a [op] [b] pos) (b3 (o3 r3 ta tb)):=by
 obtain ⟨r,po,ro⟩:=ho;obtain ⟨va,pa,ra⟩:=ha;obtain ⟨vb,pb,rb⟩:=hb;exact ⟨_,sw3 po pa pb hm,RdT.test (ra.op rb ro)⟩
theorem zw4 (ha:RE X a ta) (he:∀ whole,isTrue a X.env whole=(do let v <- whole; standAt a.pos; holding [v] (truthy v)):=by intro _; rfl):RT X a (b3 ta):=by
 obtain ⟨va,pa,ra⟩:=ha;exact ⟨_,vg5 pa he,RdT.test ra⟩
variable {tA tB':TT3} {rest:List Expr}
theorem RW.pt (h:RW X a tA):RT X a tA:=let ⟨t,p,r⟩:=h; ⟨t,p.pt,r⟩
theorem rw_pt (h:RW X a tA):RT X a tA:=h.pt
theorem vt3 (h:RT X a tA):RW X (.BoolOp .And [a] pos) tA:=let ⟨t,p,r⟩:=h; ⟨t,ww3 p,r⟩
theorem tv4 (h:RT X a tA):RW X (.BoolOp .Or [a] pos) tA:=let ⟨t,p,r⟩:=h; ⟨t,xg5 p,r⟩
theorem sv4 (ha:RT X a tA) (hb:RW X (.BoolOp .And (b :: rest) pos) tB'):RW X (.BoolOp .And (a :: b :: rest) pos) (and3 tA tB'):=by
 obtain ⟨va,pa,ra⟩:=ha;obtain ⟨vb,pb,rb⟩:=hb;refine ⟨_,wg5 pa pb,λ σ H Q ρ μ Q3 s m h k=>ra σ H _ ρ μ _ s m h λ c μ1 H1 h1 k1 m1=>?_⟩;cases c with
 | true=>exact rb σ H1 Q ρ μ1 Q3 [90] m1 h1 λ b μ' H' q e=>k b μ' H' q (k1.trans e)
 | false=>exact k _ _ _ h1 k1 m1
theorem rw_or (ha:RT X a tA) (hb:RW X (.BoolOp .Or (b :: rest) pos) tB'):RW X (.BoolOp .Or (a :: b :: rest) pos) (or3 tA tB'):=by
 obtain ⟨va,pa,ra⟩:=ha;obtain ⟨vb,pb,rb⟩:=hb;refine ⟨_,pw_or pa pb,λ σ H Q ρ μ Q3 s m h k=>ra σ H _ ρ μ _ s m h λ c μ1 H1 h1 k1 m1=>?_⟩;cases c with
 | true=>exact k _ _ _ h1 k1 m1
 | false=>exact rb σ H1 Q ρ μ1 Q3 [90] m1 h1 λ b μ' H' q e=>k b μ' H' q (k1.trans e)
theorem ww4 (ha:RT X a tA):RT X (.UnaryOp .Not a pos) (not3 tA):=by
 obtain ⟨va,pa,ra⟩:=ha;exact ⟨_,ug5 pa,λ σ H Q ρ μ Q3 s m h k=>ra σ H _ ρ μ _ s m h λ c μ1 H1 h1 k1 m1=>k _ _ _ h1 k1 m1⟩
theorem uy4 {op} (h:RE X a ta):RE X (.BoolOp op [a] pos) ta:=let ⟨t,p,r⟩:=h; ⟨t,wi5 p,r⟩
theorem tz4 (ha:RE X a ta) (hb:RE X (.BoolOp .And (b :: rest) pos) tb):RE X (.BoolOp .And (a :: b :: rest) pos) (andV3 ta tb):=by
 obtain ⟨va,pa,ra⟩:=ha;obtain ⟨vb,pb,rb⟩:=hb;refine ⟨_,wj5 pa pb,λ σ H Q ρ μ Q3 s m h k=>ra σ H _ ρ μ _ s m h λ d μ1 v H1 h1 k1 r1 m1=>?_⟩;cases r1 with
 | bl c =>
  refine ⟨c,rfl,?_⟩;cases c with
  | true=>exact rb σ H1 Q ρ μ1 Q3 [90] m1 h1 (k.after k1)
  | false=>exact k _ _ _ _ h1 k1 (.bl _) m1
 | _=>exact False.elim h1
theorem re_or (ha:RE X a ta) (hb:RE X (.BoolOp .Or (b :: rest) pos) tb):RE X (.BoolOp .Or (a :: b :: rest) pos) (orV3 ta tb):=by
 obtain ⟨va,pa,ra⟩:=ha;obtain ⟨vb,pb,rb⟩:=hb;refine ⟨_,pe_or pa pb,λ σ H Q ρ μ Q3 s m h k=>ra σ H _ ρ μ _ s m h λ d μ1 v H1 h1 k1 r1 m1=>?_⟩;cases r1 with
 | bl c =>
  refine ⟨c,rfl,?_⟩;cases c with
  | true=>exact k _ _ _ _ h1 k1 (.bl _) m1
  | false=>exact rb σ H1 Q ρ μ1 Q3 [90] m1 h1 (k.after k1)
 | _=>exact False.elim h1
theorem re_if (hc:RT X c tA) (ha:RE X a ta) (hb:RE X b tb):RE X (.IfExp c a b pos) (if3 tA ta tb):=by
 obtain ⟨vc,pc,rc⟩:=hc;obtain ⟨va,pa,ra⟩:=ha;obtain ⟨vb,pb,rb⟩:=hb;refine ⟨_,sx2 pc pa pb,λ σ H Q ρ μ Q3 s m h k=>rc σ H _ ρ μ _ s m h λ c μ1 H1 h1 k1 m1=>?_⟩;cases c with
 | true=>exact ra σ H1 Q ρ μ1 Q3 [90] m1 h1 (k.after k1)
 | false=>exact rb σ H1 Q ρ μ1 Q3 [90] m1 h1 (k.after k1)
variable {es:List Expr} {t:TA3}
theorem sf1:RA X [] nil3:=⟨_,uj5,λ σ H Q ρ μ Q3 s m h k=>k [] μ [] H h (Kp.refl H) .nil m⟩
theorem vn0 (ha:RE X e te) (hr:RA X es t) (hs:starEach (e :: es) X.env=[26] :: starEach es X.env:=by rfl):RA X (e :: es) (cons3 te t):=by
 obtain ⟨va,pa,ra⟩:=ha;obtain ⟨vb,pb,rb⟩:=hr
 exact ⟨_,uz3 pa pb hs,λ σ H Q ρ μ Q3 s m h k=>ra σ H _ ρ μ _ s m h λ d μ1 v H1 h1 k1 r1 m1=>rb σ H1 _ ρ μ1 _ [90] m1 h1 λ ds μ2 vs H2 h2 k2 r2 m2 =>
  k _ _ _ _ h2 (k1.trans k2) (.cons (r1.mono k2) r2) m2⟩
theorem zy4 {x1} (h:RA X es t):RE X (.Tuple es x1 pos) (tup3 t):=by
 obtain ⟨va,pa,ra⟩:=h;refine ⟨_,yi5 pa,λ σ H Q ρ μ Q3 s m h k=>ra σ H _ ρ μ _ s m h λ ds μ1 vs H1 h1 k1 r1 m1=>⟨by rw [<- r1.length]; exact h1.1,λ p hp=>?_⟩⟩;exact k _ _ _ _ h1.2 (k1.trans (Kp.new hp)) (.tup zb0 (r1.mono (Kp.new hp))) (m1.newT hp)
theorem xz4 (h:RA X es t):RE X (.List es pos) (lst3 t):=by
 obtain ⟨va,pa,ra⟩:=h;refine ⟨_,ti5 pa,λ σ H Q ρ μ Q3 s m h k=>ra σ H _ ρ μ _ s m h λ ds μ1 vs H1 h1 k1 r1 m1=>⟨by rw [<- r1.length]; exact h1.1,λ p hp=>?_⟩⟩;exact k _ _ _ _ (h1.2 p (m1.free hp)) (k1.trans (Kp.new hp)) [43] (m1.newL hp r1)
variable {st:Stmt} {sts:List Stmt} {t3 u3:TS3}
theorem zu3:RSs X [] next3:=⟨_,yx3,λ σ H D ρ μ D3 s m h k=>k.nx ρ μ σ H h (Kp.refl H) s m⟩
theorem yu3 (h:RS X st t3):RSs X [st] t3:=let ⟨t,p,r⟩:=h; ⟨t,xx3 p,r⟩
theorem wu2 (h1:RS X st t3) (h2:RSs X sts u3):RSs X (st :: sts) (seq3 t3 u3):=by
 obtain ⟨va,pa,ra⟩:=h1;obtain ⟨vb,pb,rb⟩:=h2;refine ⟨_,uw2 pa pb,λ σ H D ρ μ D3 s m h k=>ra σ H _ ρ μ _ s m h ⟨λ ρ1 μ1 σ1 H1 h1 k1 s1 m1=>rb σ1 H1 D ρ1 μ1 D3 s1 m1 h1 (k.after k1),k.bk,k.ct,k.rt⟩⟩
theorem vu3 (he:RE X e te) (hs:swapsWith e none pos.line X.env=pure false:=by rfl):RS X (.Expr e pos) (drop3 te):=by
 obtain ⟨va,pa,ra⟩:=he;exact ⟨_,vx3 pa hs,λ σ H D ρ μ D3 s m h k=>ra σ H _ ρ μ _ s m h λ d μ1 v H1 h1 k1 r1 m1=>k.nx ρ μ1 σ H1 h1 k1 [90] m1⟩
theorem uw4 (he:RE X e te):RS X (.Return (some e) pos) (ret3 te):=by
 obtain ⟨va,pa,ra⟩:=he;exact ⟨_,sg5 pa,λ σ H D ρ μ D3 s m h k=>ra σ H _ ρ μ _ s m h k.rt⟩
theorem rs_if {as bs:List Stmt} (hc:RT X c tA) (ha:RSs X as t3) (hb:RSs X bs u3):RS X (.If c as bs pos) (ifs3 tA t3 u3):=by
 obtain ⟨vc,pc,rc⟩:=hc;obtain ⟨va,pa,ra⟩:=ha;obtain ⟨vb,pb,rb⟩:=hb;refine ⟨_,ps_if pc pa pb,λ σ H D ρ μ D3 s m h k=>rc σ H _ ρ μ _ s m h λ c μ1 H1 h1 k1 m1=>?_⟩;cases c with
 | true=>exact ra σ H1 D ρ μ1 D3 [90] m1 h1 (k.after k1)
 | false=>exact rb σ H1 D ρ μ1 D3 [90] m1 h1 (k.after k1)
theorem su3 (hN:X.N.Nodup) (hi:X.N[i]?=some x:=by rfl) (hx:Loc X.env.scope x:=by first | exact Or.inl rfl | exact Or.inr rfl) (hf:X.fn x=true \/ X.env.scope.names.lookup x=some .local:=by first | exact .inl rfl | exact .inr rfl) :
    RG X (.Name x pos) (gn3 i):=⟨_,zy3 hN hi hx hf,λ v d σ H Q ρ μ Q3 s m r h k=>k _ _ _ _ h (Kp.refl H) (s.set i r) m⟩
theorem vw4 {pos':Pos} (hN:X.N.Nodup) (he:RE X e te) (hi:X.N[i]?=some x:=by rfl) (hx:Loc X.env.scope x:=by first | exact Or.inl rfl | exact Or.inr rfl) (hs:swapsWith e (some (.Name x pos')) pos.line X.env=pure false:=by rfl)
    (hf:X.fn x=true \/ X.env.scope.names.lookup x=some .local:=by first | exact .inl rfl | exact .inr rfl):RS X (.Assign [.Name x pos'] e pos) (set3 i te):=by
 obtain ⟨va,pa,ra⟩:=he;exact ⟨_,th2 hN hi hx pa hs hf,λ σ H D ρ μ D3 s m h k=>ra σ H _ ρ μ _ s m h λ d μ1 v H1 h1 k1 r1 m1=>k.nx _ _ _ _ h1 k1 ([90].set i r1) m1⟩
theorem vx4 {tg:Expr} {g:TG3} (he:RE X e te) (hg:RG X tg g) (hs:swapsWithSole [tg] e pos.line X.env=pure false:=by rfl) (hw:swappedStores [tg] e X.env=pure none:=by rfl)
    (h1:(assignEach [tg] X.env).map (·.2)=[assign tg X.env]:=by rfl):RS X (.Assign [tg] e pos) (asg3 te g):=by
 obtain ⟨va,pa,ra⟩:=he;obtain ⟨vg,pg,rg⟩:=hg;exact ⟨_,zh5 pa pg hs hw h1,λ σ H D ρ μ D3 s m h k=>ra σ H _ ρ μ _ s m h λ d μ1 v H1 h1 k1 r1 m1=>rg v d σ H1 _ ρ μ1 _ [90] m1 r1 h1 λ ρ' μ' σ' H' q e=>k.nx ρ' μ' σ' H' q (k1.trans e)⟩
theorem ixN_eq (n:Nat) (i:Int):L2.ixN n i=ixN n i:=rfl
theorem tx4 {o i:Expr} {to ti:TE3} (ho:RE X o to) (hi:RE X i ti)
    (ha:∀ v,assign (.Subscript o i pos) X.env v=(do
     let ov <- holding [v] (eval o X.env)
     let iv <- holding [v,ov] (eval i X.env)
     standAt pos
     holding [v,ov,iv] (setItem ov iv v)
     release [v,ov,iv] []):=by intro _; rfl):RG X (.Subscript o i pos) (sub3 to ti):=by
 obtain ⟨va,pa,ra⟩:=ho;obtain ⟨vb,pb,rb⟩:=hi;refine ⟨_,xi5 pa pb vz0 ha,λ v d σ H Q ρ μ Q3 s m r h k=>ra σ H _ ρ μ _ s m h λ o' μ1 ov H1 h1 k1 r1 m1=>rb σ H1 _ ρ μ1 _ [90] m1 h1 λ i' μ2 iv H2 h2 k2 r2 m2=>?_⟩;cases r1 with
 | ref p =>
  cases r2 with
  | int kk =>
   dsimp only at h2;cases e:μ2 p with
   | none=>rw [e] at h2; exact h2.elim
   | some oo =>
    cases oo with
    | ins _ _=>rw [e] at h2; exact h2.elim
    | dck _=>rw [e] at h2; exact h2.elim
    | lst xs =>
     rw [e] at h2;dsimp only at h2;cases e2:ixN xs.length kk with
     | none=>rw [e2] at h2; exact h2.elim
     | some j =>
      rw [e2] at h2;obtain ⟨vs,hv,rv⟩:=m2 p xs e;have kk':=k1.trans k2;refine ⟨p,vs,kk,j,rfl,rfl,hv,by rw [<- rv.length]; exact e2,k _ _ _ _ h2 (kk'.trans (Kp.wr hv)) (s.mono (kk'.trans (Kp.wr hv))) (m2.wr hv (rv.set (r.mono kk') j))⟩
  | _=>exact False.elim h2
 | _=>cases r2 <;> exact False.elim h2
end
end Pv
namespace Pv
open PySem PySem.Spec PyProof.Rows L2
def ItOk (K:Fg) (J:It) (l:List D) (S:Mu->Prop) (H0:Hp):Prop:=∀ i H μ,Kp H0 H->RelM K μ H->S μ ->
 (∀ d,l[i]?=some d->J.go i H /\ ∀ x H2,J.yld i H x H2->Kp H H2 /\ RelM K μ H2 /\ RelD K H2 d x) /\ (l.length<=i->J.stop i H)
def RdI (K:Fg) (wi:TI) (ti:TI3):Prop:=∀ σ H R ρ μ R3,RSt K H ρ σ->RelM K μ H->ti ρ μ R3->(∀ l S μ' J H',R3 l S μ'->Kp H H'->RelM K μ' H'->ItOk K J l S H'->R J H')->wi σ H R
def RI (X:Cx) (tg iter:Expr) (ti:TI3):Prop:=∃ wi,PI X tg iter wi /\ RdI X.K wi ti
variable {X:Cx} {iter e:Expr} {te:TE3} {pos p:Pos} {P:[83]} {w:World} {K:Fg} {H0:Hp} {vs:List V} {body:List Stmt} {ti:TI3} {g:TG3} {tc:TT3} {es:List Expr} {t:TA3} {x:Str} {ps:[29]} {sp:Sp3} {r:C3} {T:String}
section
variable {tg a b c:Expr} {ta tb:TE3} 
def Its (z:Str):It:=⟨λ i _=>i < z.cps.size,λ i H x H'=>H'=H /\ ∃ c,z.cps[i]?=some c /\ x=.str ⟨#[c]⟩,λ i _=>z.cps.size<=i⟩
theorem xo1 {tg:Expr} (T:String) (x:Str) (t:Tok) (it:Addr)
    (hT:["enumerate", "zip", "dict_itemiterator", "dict_reverseitemiterator", "odict_iterator", "itertools.zip_longest", "itertools.pairwise"].contains T=false)
    (W:∀ A:Around,A.handled=none->Walks P w A it [it] [it] x.cps.size (SignAt x) (λ i h=>h.IsStrIter it T x t i))
    (sf:∀ (A:Around) (i:Nat) (s:[88]) (Q:[9]) (E:[9]),s.heap.IsStrIter it T x t i->Q (.ref it) s->wpAny (model P w) A (pyIter (.ref it)) Q E s) :
    Turn P w K tg (Its x) [it] it (λ i h=>h.IsStrIter it T x t i /\ i<=x.cps.size) where
 mem:=by simp
 obj:=λ i h st b hb=>by
  have e:b=it:=by simpa using hb
  subst e;obtain ⟨⟨o,e,c,d⟩,_⟩:=st;exact ⟨o,e,λ v z=>by rw [d] at z; cases z⟩
 keep:=λ i h h' st k=>by
  obtain ⟨⟨o,e,c,d⟩,l⟩:=st;exact ⟨⟨o,k it [18] o e,c,d⟩,l⟩
 item:=by
  intro X hP hw hK hc i pins s σ H E I hf st hg;subst hP hw hK;obtain ⟨f0,f1,f2,f3,f4,f5⟩:=hf it [18];refine (W X.A (I.ok.hd hc)).item i s _ E hg st.1 λ v h' tk hP hst' hk=>?_;obtain ⟨c,u,ec,rfl⟩:=hP;have I1:Inv X pins σ H [21]:=I.turned (t':=tk) (λ b o hb e=>hk b o (by simpa using hb) e) f0 f1 f3 f4 f5;obtain ⟨o,e,c1,d⟩:=id hst';exact ⟨_,rfl,sb3 (s:=[21]) e c1 d hT ⟨.str ⟨#[c]⟩,H,I1,⟨u,rfl⟩,⟨rfl,c,ec,rfl⟩,⟨hst',hg⟩,λ b hb=>(hf b hb).1⟩⟩
 done:=by
  intro X hP hw hK hc i pins s σ H E I hf st hg;subst hP hw hK;have hg':x.cps.size<=i:=hg;obtain ⟨f0,f1,f2,f3,f4,f5⟩:=hf it [18];have e1:i=x.cps.size:=Nat.le_antisymm st.2 hg';subst e1;exact (W X.A (I.ok.hd hc)).done s _ E st.1 λ h' tk hk=>⟨rfl,I.turned (t':=tk) (λ b o hb e=>hk b o (by simpa using hb) e) f0 f1 f3 f4 f5⟩
 self:=λ A i s Q E st h=>sf A i s Q E st.1 h
def iSeq (K:Fg) (tl:TE):TI:=λ σ H R=>tl σ H λ x H1=>(∃ z,x=.str z /\ R (Its z) H1) \/ ∃ a,x=.ref a /\ (((∃ xs,SqL K H1 a xs) /\ R (Itl K a) H1) \/ ((∃ xs,SqT K H1 a xs) /\ R (Itt K a) H1))
theorem sh5 {l:Expr} {tl:TE} (hl:PE X l tl):PI X tg l (iSeq X.K tl):=by
 intro pins s σ H R I h;refine thn (hl pins s σ H _ I h) λ v s1 ⟨x,H1,I1,r1,q1⟩=>?_
 have fp:∀ b ∈ [s1.heap.objs.size],FpOk X pins H1 b:=λ b hb=>by
  have e:b=s1.heap.objs.size:=by simpa using hb
  subst e;exact I1.fpOk [19] (I1.hok.fresh [19])
 rcases q1 with ⟨z,e,q⟩ | ⟨a,e,q⟩
 ·subst e;obtain ⟨t,rfl⟩:=r1;cases ha:z.cps.all (· < 128)
  ·refine wpAny_pyIter_wide ha ?_;exact ⟨s1.heap.objs.size,[s1.heap.objs.size],_,_,H1,rfl,I1.kept (t':=s1.toks) λ b o e=>Heap.get?_push_of_some _ e,xo1 "str_iterator" z t _ [8] (λ A hA=>Walks.strWide hA _ z t) (λ _ _ _ _ _ st h=>wpAny_pyIter_striter_wide st h),⟨[57],Nat.zero_le _⟩,fp,q⟩
  ·refine wpAny_pyIter_ascii ha ?_;exact ⟨s1.heap.objs.size,[s1.heap.objs.size],_,_,H1,rfl,I1.kept (t':=s1.toks) λ b o e=>Heap.get?_push_of_some _ e,xo1 "str_ascii_iterator" z t _ [8] (λ A hA=>Walks.strAscii hA _ z t) (λ _ _ _ _ _ st h=>wpAny_pyIter_striter_ascii st h),⟨[57],Nat.zero_le _⟩,fp,q⟩
 subst e;cases r1;rcases q with ⟨⟨xs,hq⟩,q⟩ | ⟨⟨xs,hq⟩,q⟩
 ·obtain ⟨its,rv,p,hz⟩:=I1.list hq;refine wpAny_pyIter_list p.isList ?_;exact ⟨s1.heap.objs.size,[s1.heap.objs.size],_,_,H1,rfl,I1.kept (t':=s1.toks) λ b o e=>Heap.get?_push_of_some _ e,yd2 a _,[57],fp,q⟩
 ·obtain ⟨its,rv,p,hz⟩:=I1.tuple hq;refine wpAny_pyIter_tuple (show s1.heap.IsTuple a its.toArray from p) ?_;exact ⟨s1.heap.objs.size,[s1.heap.objs.size],_,_,H1,rfl,I1.kept (t':=s1.toks) λ b o e=>Heap.get?_push_of_some _ e,vt1 a _,[57],fp,q⟩
theorem ua3 {a:Addr} {l:List D} (h:SqT K H0 a vs) (r:RelDs K H0 l vs):ItOk K (Itt K a) l (λ _=>True) H0:=λ i H μ k m _=>by
 refine ⟨λ d e=>?_,λ hl=>⟨vs,SqT.mono k h,by rw [<- r.length]; exact hl⟩⟩;obtain ⟨v,e1,r1⟩:=r.get e;refine ⟨⟨vs,v,SqT.mono k h,e1⟩,λ x H2 y=>?_⟩;obtain ⟨rfl,y⟩:=y;have e2:=y vs (SqT.mono k h);rw [e1] at e2; cases e2;exact ⟨Kp.refl _,m,r1.mono k⟩
theorem xb3 {a:Addr} {l:List D} (h:SqF K H0 a vs) (r:RelDs K H0 l vs):ItOk K (Itl K a) l (λ _=>True) H0:=λ i H μ k m _=>by
 refine ⟨λ d e=>?_,λ hl=>⟨vs,(SqF.mono k h).l,by rw [<- r.length]; exact hl⟩⟩;obtain ⟨v,e1,r1⟩:=r.get e;refine ⟨⟨vs,v,(SqF.mono k h).l,e1⟩,λ x H2 y=>?_⟩;obtain ⟨rfl,y⟩:=y;have e2:=y vs (SqF.mono k h).l;rw [e1] at e2; cases e2;exact ⟨Kp.refl _,m,r1.mono k⟩
theorem sa3 {a:Addr} {l:List D}:ItOk K (Itl K a) l (λ μ=>μ a=some (.lst l)) H0:=λ i H μ k m s=>by
 obtain ⟨vs,h,r⟩:=m a l s;refine ⟨λ d e=>?_,λ hl=>⟨vs,SqL.of h,by rw [<- r.length]; exact hl⟩⟩;obtain ⟨v,e1,r1⟩:=r.get e;refine ⟨⟨vs,v,SqL.of h,e1⟩,λ x H2 y=>?_⟩;obtain ⟨rfl,y⟩:=y;have e2:=y vs (SqL.of h);rw [e1] at e2; cases e2;exact ⟨Kp.refl _,m,r1⟩
theorem ta3 (z:Str):ItOk K (Its z) (z.cps.toList.map λ c=>D.str ⟨#[c]⟩) (λ _=>True) H0:=λ i H μ k m _=>by
 refine ⟨λ d e=>?_,λ hl=>by show z.cps.size<=i; simpa using hl⟩;rw [getElem?_map,getElem?_toList] at e;cases ec:z.cps[i]? with
 | none=>rw [ec] at e; cases e
 | some c =>
  rw [ec] at e;cases e;refine ⟨?_,λ x H2 y=>?_⟩
  ·show i < z.cps.size;rcases Nat.lt_or_ge i z.cps.size with h | h
   ·exact h
   ·rw [getElem?_eq_none h] at ec; cases ec
  ·obtain ⟨rfl,c',ec',rfl⟩:=y;rw [ec] at ec'; cases ec';exact ⟨Kp.refl _,m,.str _⟩
theorem ux4 (ha:RE X a ta):RI X tg a (is3 ta):=by
 obtain ⟨va,pa,ra⟩:=ha;refine ⟨_,sh5 pa,λ σ H R ρ μ R3 s m h k=>ra σ H _ ρ μ _ s m h λ d μ1 v H1 h1 k1 r1 m1=>?_⟩;cases r1 with
 | str z=>exact .inl ⟨z,rfl,k _ _ _ _ _ h1 k1 m1 (ta3 z)⟩
 | tup hq rs=>exact .inr ⟨_,rfl,.inr ⟨⟨_,(SqT.of hq)⟩,k _ _ _ _ _ h1 k1 m1 (ua3 (SqT.of hq) rs)⟩⟩
 | fls hq rs=>exact .inr ⟨_,rfl,.inl ⟨⟨_,hq.l⟩,k _ _ _ _ _ h1 k1 m1 (xb3 hq rs)⟩⟩
 | ref p =>
  dsimp only at h1;cases e:μ1 p with
  | none=>rw [e] at h1; exact h1.elim
  | some oo =>
   cases oo with
   | ins _ _=>rw [e] at h1; exact h1.elim
   | dck _=>rw [e] at h1; exact h1.elim
   | lst xs =>
    rw [e] at h1;obtain ⟨vs,hv,rv⟩:=m1 p xs e;exact .inr ⟨_,rfl,.inl ⟨⟨_,SqL.of hv⟩,k _ _ _ _ _ h1 k1 m1 sa3⟩⟩
 | _=>exact False.elim h1
theorem wv2 (lo:Int) (n i:Nat):(rngD lo n)[i]?=if i < n then some (.int (lo + i)) else none:=by
 unfold rngD;rw [getElem?_map];by_cases h:i < n
 ·rw [List.getElem?_range h,if_pos h]; rfl
 ·rw [List.getElem?_eq_none (by simpa using h),if_neg h]; rfl
theorem wq0 (lo:Int) (n:Nat):(rngD lo n).length=n:=by simp [rngD]
theorem wr1 (lo:Int) (n:Nat):ItOk K (Itr lo n) (rngD lo n) (λ _=>True) H0:=λ i H μ k m _=>by
 refine ⟨λ d e=>?_,λ hl=>by rw [wq0] at hl; exact hl⟩;rw [wv2] at e;split at e
 ·next h =>
  cases e;refine ⟨h,λ x H2 y=>?_⟩;obtain ⟨rfl,rfl⟩:=y;exact ⟨Kp.refl _,m,.int _⟩
 ·cases e
theorem wg2 (hm:X.mg "range" = none) (ha:RE X a ta) (hg:Gl X "range" := by rfl) (hs:starEach [a] X.env=[(false,eval a X.env)]:=by rfl):RI X tg (.Call (.Name "range" p) [a] [] pos) (ir3 (cons3 ta nil3)):=by
 obtain ⟨va,pa,ra⟩:=vn0 ha sf1 hs;refine ⟨_,wi2 hg hm pa hs,λ σ H R ρ μ R3 s m h k=>ra σ H _ ρ μ _ s m h λ ds μ1 vs H1 h1 k1 r1 m1=>?_⟩;cases r1 with
 | nil=>exact False.elim h1
 | cons r1 r2 =>
  cases r2 with
  | cons _ _=>cases r1 <;> exact False.elim h1
  | nil =>
   cases r1 with
   | int j=>exact ⟨j,rfl,h1.1.1,h1.1.2,k _ _ _ _ _ h1.2 k1 m1 (wr1 _ _)⟩
   | _=>exact False.elim h1
theorem zg2 (hm:X.mg "range" = none) (ha:RE X a ta) (hb:RE X b tb) (hg:Gl X "range" := by rfl) (hs:starEach [a,b] X.env=[(false,eval a X.env),(false,eval b X.env)]:=by rfl) (hs2:starEach [b] X.env=[(false,eval b X.env)]:=by rfl) :
    RI X tg (.Call (.Name "range" p) [a,b] [] pos) (ir23 (cons3 ta (cons3 tb nil3))):=by
 obtain ⟨va,pa,ra⟩:=vn0 ha (vn0 hb sf1 hs2) (by rw [hs,hs2]);refine ⟨_,zi2 hg hm pa hs hs2,λ σ H R ρ μ R3 s m h k=>ra σ H _ ρ μ _ s m h λ ds μ1 vs H1 h1 k1 r1 m1=>?_⟩;split at h1
 ·next i j =>
  cases r1 with
  | cons r1 r2 =>
   cases r2 with
   | cons r2 r3 =>
    cases r3;cases r1;cases r2;exact ⟨i,j,rfl,h1.1,k _ _ _ _ _ h1.2 k1 m1 (wr1 _ _)⟩
 ·exact h1.elim
theorem tj3 {tb:TS3} (hp:PassesOwn [11] X.A X.env X.xe) (hc:X.calm=true) (hi:RI X tg iter ti) (hg:RG X tg g) (hb:RSs X body tb)
    (hs:∀ x,foldedSetIterable iter X.env x=pure x:=by intro _; rfl):RS X (.For tg iter body [] pos) (for3 ti g tb):=by
 obtain ⟨wi,pi,ri⟩:=hi;obtain ⟨vg,pg,rg⟩:=hg;obtain ⟨vb,pb,rb⟩:=hb;refine ⟨_,xh5 hp hc pi pg pb hs,λ σ H D ρ μ D3 s m h k=>ri σ H _ ρ μ _ s m h λ l S μ1 J H1 h1 k1 m1 ok=>?_⟩;refine ⟨λ i n σ2 H2=>n=l.length - i /\ i<=l.length /\ ∃ ρ2 μ2,RSt X.K H2 ρ2 σ2 /\ RelM X.K μ2 H2 /\ Kp H1 H2 /\ wb2 S g tb D3 (l.drop i) ρ2 μ2,⟨l.length,rfl,Nat.zero_le _,ρ,μ1,s.mono k1,m1,Kp.refl _,h1⟩,?_⟩;rintro i n σ2 H2 ⟨rfl,hi,ρ2,μ2,s2,m2,k2,h2⟩;by_cases hlt:i < l.length
 ·rw [List.drop_eq_getElem_cons hlt] at h2;obtain ⟨hS,N,hN,h2⟩:=h2;obtain ⟨ok1,_⟩:=ok i H2 μ2 k2 m2 hS;obtain ⟨go,yl⟩:=ok1 l[i] (getElem?_eq_getElem hlt);refine .inr ⟨go,λ σ3 H3=>∃ ρ3 μ3,N ρ3 μ3 /\ RSt X.K H3 ρ3 σ3 /\ RelM X.K μ3 H3 /\ Kp H1 H3,λ σ3 H3 ⟨ρ3,μ3,hn,s3,m3,k3⟩=>⟨l.length - (i + 1),by omega,rfl,hlt,ρ3,μ3,s3,m3,k3,hN _ _ hn⟩,λ x H3 y=>?_⟩;obtain ⟨k3,m3,r3⟩:=yl x H3 y;refine rg x l[i] σ2 H3 _ ρ2 μ2 _ (s2.mono k3) m3 r3 h2 λ ρ4 μ4 σ4 H4 h4 k4 s4 m4=>?_;have k14:Kp H1 H4:=k2.trans (k3.trans k4)
  exact rb σ4 H4 _ ρ4 μ4 _ s4 m4 h4 ⟨λ ρ5 μ5 σ5 H5 h5 k5 s5 m5=>⟨ρ5,μ5,h5,s5,m5,k14.trans k5⟩,λ ρ5 μ5 σ5 H5 h5 k5 s5 m5=>k.nx _ _ _ _ h5 (k1.trans (k14.trans k5)) s5 m5,
   λ ρ5 μ5 σ5 H5 h5 k5 s5 m5=>⟨ρ5,μ5,h5,s5,m5,k14.trans k5⟩,λ d μ5 v H5 h5 k5 r5 m5=>k.rt _ _ _ _ h5 (k1.trans (k14.trans k5)) r5 m5⟩
 ·have e:i=l.length:=by omega
  subst e;rw [List.drop_length] at h2;obtain ⟨hS,h2⟩:=h2;exact .inl ⟨(ok _ H2 μ2 k2 m2 hS).2 [19],k.nx _ _ _ _ h2 (k1.trans k2) s2 m2⟩
theorem vu2 {tb:TS3} (hp:PassesOwn [11] X.A X.env X.xe) (hc:RT X c tc) (hb:RSs X body tb):RS X (.While c body [] pos) (uc2 tc tb):=by
 obtain ⟨vc,pc,rc⟩:=hc;obtain ⟨vb,pb,rb⟩:=hb;refine ⟨_,tw2 hp pc pb,λ σ H D ρ μ D3 s m h k=>?_⟩;obtain ⟨W,⟨n0,w0⟩,turn⟩:=h;refine ⟨λ n σ2 H2=>∃ ρ2 μ2,W n ρ2 μ2 /\ RSt X.K H2 ρ2 σ2 /\ RelM X.K μ2 H2 /\ Kp H H2,⟨n0,ρ,μ,w0,s,m,Kp.refl _⟩,?_⟩;rintro n σ2 H2 ⟨ρ2,μ2,w2,s2,m2,k2⟩;refine rc σ2 H2 _ ρ2 μ2 _ s2 m2 (turn n ρ2 μ2 w2) λ b μ3 H3 h3 k3 m3=>?_;cases b with
 | true =>
  obtain ⟨N,hN,h3⟩:=h3;have k23:=k2.trans k3;refine ⟨λ σ4 H4=>∃ ρ4 μ4,N ρ4 μ4 /\ RSt X.K H4 ρ4 σ4 /\ RelM X.K μ4 H4 /\ Kp H H4,λ σ4 H4 ⟨ρ4,μ4,hn,s4,m4,k4⟩=>?_,?_⟩
  ·obtain ⟨n',hl,w4⟩:=hN _ _ hn;exact ⟨n',hl,ρ4,μ4,w4,s4,m4,k4⟩
  ·exact rb σ2 H3 _ ρ2 μ3 _ (s2.mono k3) m3 h3 ⟨λ ρ5 μ5 σ5 H5 h5 k5 s5 m5=>⟨ρ5,μ5,h5,s5,m5,k23.trans k5⟩,λ ρ5 μ5 σ5 H5 h5 k5 s5 m5=>k.nx _ _ _ _ h5 (k23.trans k5) s5 m5,
     λ ρ5 μ5 σ5 H5 h5 k5 s5 m5=>⟨ρ5,μ5,h5,s5,m5,k23.trans k5⟩,λ d μ5 v H5 h5 k5 r5 m5=>k.rt _ _ _ _ h5 (k23.trans k5) r5 m5⟩
 | false=>exact k.nx _ _ _ _ h3 (k2.trans k3) (s2.mono k3) m3
def lift (K:Fg) (sp:Sp3):Sp:=λ vs H Q _=>∃ ds μ Q3,RelDs K H ds vs /\ RelM K μ H /\ sp ds μ Q3 /\ Ks K H Q3 Q
def Cal (P:[83]) (w:World) (K:Fg) (mg:[25]) (base:Heap) (k:Nat) (x:Str) (ps:[29]) (sp:Sp3):Prop :=
 ∃ f fd,FnOk P w K mg base CX0 k f fd ps (lift K sp) /\ mg x=some (.ref f) /\ keepIn K (.ref f)=true /\ Binds K fd ps []
theorem Cal.mono {P:[83]} {w:World} {K:Fg} {mg:[25]} {base:Heap} {j k:Nat} {x:Str} {ps:[29]} {sp:Sp3} (c:Cal P w K mg base j x ps sp) (h:j<=k):Cal P w K mg base k x ps sp:=by
 obtain ⟨f,fd,F,r⟩:=c;exact ⟨f,fd,F.mono h,r⟩
theorem vv3 {k:Nat} (c:Cal X.prog X.w X.K X.mg X.base k x ps sp) (hr:Room k X.A) (ha:RA X (e :: es) t) (hg:Gl X x:=by rfl) (hdb:[17]=false:=by decide)
    (he:starEach (e :: es) X.env=[26] :: starEach es X.env:=by rfl) (hpl:[71].any (·.1)=false:=by rfl):RE X [87] (call3 sp t):=by
 obtain ⟨f,fd,F,hm,hk,hb⟩:=c;obtain ⟨va,pa,ra⟩:=ha;refine ⟨_,ui2 F hr hg hm hk hb .nil wy2 pa hdb he hpl,λ σ H Q ρ μ Q3 s m h k=>ra σ H _ ρ μ _ s m h λ ds μ1 vs H1 h1 k1 r1 m1=>?_⟩;rw [append_nil];exact ⟨ds,μ1,Q3,r1,m1,h1,k.after k1⟩
theorem si0 {id:String} (hc:RC X (.builtin id) r) (hm:X.mg x=none) (hv:bootBuiltins x=some (.builtin id)) (ha:RA X (e :: es) t) (hg:Gl X x:=by rfl) (hn:x ≠ "__name__" := by decide) (hdb:[17]=false:=by decide)
    (he:starEach (e :: es) X.env=[26] :: starEach es X.env:=by rfl) (hpl:[71].any (·.1)=false:=by rfl):RE X [87] (call3 r t):=by
 obtain ⟨r',pc,rc⟩:=hc;obtain ⟨va,pa,ra⟩:=ha;exact ⟨_,yy2 pc hg hm hv pa hn hdb he hpl,λ σ H Q ρ μ Q3 s m h k=>ra σ H _ ρ μ _ s m h λ ds μ1 vs H1 h1 k1 r1 m1=>rc ds vs H1 Q μ1 Q3 m1 r1 h1 (k.after k1)⟩
theorem vl0 (hc:RC X (.type T) r) (hm:X.mg x=none) (hv:bootBuiltins x=some (.type T)) (ha:RA X (e :: es) t) (hg:Gl X x:=by rfl) (hn:x ≠ "__name__" := by decide) (hdb:[17]=false:=by decide)
    (he:starEach (e :: es) X.env=[26] :: starEach es X.env:=by rfl) (hpl:[71].any (·.1)=false:=by rfl):RE X [87] (call3 r t):=by
 obtain ⟨r',pc,rc⟩:=hc;obtain ⟨va,pa,ra⟩:=ha;exact ⟨_,vi2 pc hg hm hv pa hn hdb he hpl,λ σ H Q ρ μ Q3 s m h k=>ra σ H _ ρ μ _ s m h λ ds μ1 vs H1 h1 k1 r1 m1=>rc ds vs H1 Q μ1 Q3 m1 r1 h1 (k.after k1)⟩
theorem re_ix {r3:R3} (hx:RX X r3) (ha:RE X a ta) (hb:RE X b tb) (hs:vr2 b:=by intro _ _; rfl):RE X (.Subscript a b pos) (o3 r3 ta tb):=by
 obtain ⟨r,po,ro⟩:=hx;obtain ⟨va,pa,ra⟩:=ha;obtain ⟨vb,pb,rb⟩:=hb;exact ⟨_,pe_ix po pa pb hs,ra.op rb ro⟩
end
variable {mg:[25]} {f:Addr} {fd:FuncData}
section
variable {base:Heap}
theorem vn2 {st:Stmt} {N:[29]} {k:Nat} {t:TS3} (F:Fun K x x st f fd) (S:FnScope N ps (xa0 st))
    (len:∀ ds μ Q,sp ds μ Q->ds.length=ps.length)
    (body:[79])
    (rd:∀ ds μ Q,sp ds μ Q->t { nx:=λ _ μ'=>Q .non μ',rt:=Q } (start3 N ds) μ):FnOk P w K mg base CX0 (k + 1) f fd ps (lift K sp):=by
 refine F.ok S (λ vs H Q E h=>?_) (λ cdv A outer s H vs Q E hr h=>?_)
 ·obtain ⟨ds,μ,Q3,r,m,q,ks⟩:=h;rw [<- r.length]; exact len _ _ _ q
 ·obtain ⟨ds,μ,Q3,r,m,q,ks⟩:=h;obtain ⟨tv,p,rt⟩:=body cdv A outer s H E hr;exact ⟨tv,p,rt _ H _ _ μ _ (RSt.start N r) m (rd ds μ Q3 q) [58]⟩
theorem cal_of {st:Stmt} {N:[29]} {k:Nat} {t:TS3} (F:Fun K x x st f fd) (hm:mg x=some (.ref f)) (hb:Binds K fd ps []) (S:FnScope N ps (xa0 st))
    (len:∀ ds μ Q,sp ds μ Q->ds.length=ps.length)
    (body:[79])
    (rd:∀ ds μ Q,sp ds μ Q->t { nx:=λ _ μ'=>Q .non μ',rt:=Q } (start3 N ds) μ):Cal P w K mg base (k + 1) x ps sp :=
 ⟨f,fd,vn2 F S len body rd,hm,F.kp,hb⟩
theorem ue3 {st:Stmt} (F:Fun K x x st f fd) (hm:mg x=some (.ref f)) (hb:Binds K fd ps []) (no:∀ ds μ Q,¬ sp ds μ Q):Cal P w K mg base 0 x ps sp:=by
 have no':∀ vs H Q E,¬ lift K sp vs H Q E:=λ vs H Q E ⟨ds,μ,Q3,_,_,q,_⟩=>no _ _ _ q;exact ⟨f,fd,⟨λ vs H Q E h=>absurd h (no' vs H Q E),λ A outer s H args us vs Q E _ _ _ _ h=>absurd h (no' vs H Q E)⟩,hm,F.kp,hb⟩
end
variable {g3:Int->Int->D} {i:Int}
section
theorem RdO.i0 {g:Int->Int->V} (hg:∀ i j H,RelD K H (g3 i j) (g i j)):RdO K (rI0 g) (int20 g3):=λ x y v u H Q μ Q3 m rx ry h k=>by
 cases rx with
 | int i =>
  cases ry with
  | int j=>exact ⟨i,j,rfl,rfl,k _ _ _ _ h [37] (hg i j H) m⟩
  | _=>exact False.elim h
 | _=>cases ry <;> exact False.elim h
theorem RdO.i2 {C:Int->Int->Prop} {g:Int->Int->V} (hg:∀ i j H,RelD K H (g3 i j) (g i j)):RdO K (rI C g) (int2 C g3):=λ x y v u H Q μ Q3 m rx ry h k=>by
 cases rx with
 | int i =>
  cases ry with
  | int j=>exact ⟨i,j,rfl,rfl,h.1,k _ _ _ _ h.2 [37] (hg i j H) m⟩
  | _=>exact False.elim h
 | _=>cases ry <;> exact False.elim h
theorem q_sub:RO X (binaryOp .Sub) subR:=⟨_,tj5,RdO.i0 λ _ _ _=>.int _⟩
theorem q_mod:RO X (binaryOp .Mod) modR:=⟨_,op_mod,RdO.i2 λ _ _ _=>.int _⟩
theorem q_pow:RO X (binaryOp .Pow) powR:=⟨_,op_pow,RdO.i2 λ _ _ _=>.int _⟩
theorem log2_lt {n k:Nat} (hk:0 < k) (h:n < 2 ^ k):n.log2 < k:=by
 rcases Nat.eq_zero_or_pos n with h0 | hp
 ·rw [h0]; simpa using hk
 ·exact (Nat.log2_lt (Nat.ne_of_gt hp)).mpr h
theorem vy2:OpR X (binaryOp .FloorDiv) (rI (λ _ j=>0 < j /\ j < 2 ^ 120) λ i j=>.int (i / j)):=opI λ i j _ _ _ _ _ hc q=>by
 have h1:(0:Int) < j:=hc.1;have h2:j < 2 ^ 120:=hc.2;refine floordiv_int [7] (by rw [Int.fdiv_eq_ediv_of_nonneg i [7]]; exact q) (.inl (PyProof.noPylong_of_log2 ?_));have h3:j.natAbs < 2 ^ 120:=by omega
 exact Nat.lt_trans (log2_lt [8] h3) [8]
theorem tf5:RO X (binaryOp .FloorDiv) fdivR:=⟨_,vy2,RdO.i2 λ _ _ _=>.int _⟩
theorem CMul.mulok {j:Int} (h:CMul i j):IntMulOk i j:=by
 rcases h with h | ⟨h1,h2⟩
 ·exact L2.CMul.ok h
 ·unfold IntMulOk;intro e;rw [Bool.and_eq_true] at e;have e2:=e.2;unfold Builtin.Int.intTooBig at e2
  have hb:∀ x:Int,x.natAbs < Big->Builtin.Int.intBits x<=1000:=λ x hx=>by
   unfold Builtin.Int.intBits;split
   ·exact Nat.zero_le _
   ·exact log2_lt [8] hx
  have b1:=hb i h1;have b2:=hb j h2;have e3:=of_decide_eq_true e2;have e4:(2000:Nat) < bitsLine:=by decide
  omega
theorem op_mulB:OpR X (binaryOp .Mult) (rI CMul λ i j=>.int (i * j)):=opI λ _ _ _ _ _ _ _ hc q=>mul_int q hc.mulok
theorem q_neg:RU X (unaryOp .USub) negR:=⟨_,sj4,λ x v H Q μ Q3 m r h k=>by
 cases r with
 | int i=>exact ⟨i,rfl,k _ _ _ _ h [37] (.int _) m⟩
 | _=>exact False.elim h⟩
theorem q_lt:RO X (compareOp .Lt) ltR:=⟨_,op_lt,RdO.i0 λ _ _ _=>.bl _⟩
theorem q_le:RO X (compareOp .LtE) leR:=⟨_,op_le,RdO.i0 λ _ _ _=>.bl _⟩
theorem q_gt:RO X (compareOp .Gt) gtR:=⟨_,op_gt,RdO.i0 λ _ _ _=>.bl _⟩
theorem q_ge:RO X (compareOp .GtE) geR:=⟨_,op_ge,RdO.i0 λ _ _ _=>.bl _⟩
def rCatA (K:Fg):R2:=λ x y H Q=>∃ a b xs ys,x=.ref a /\ y=.ref b /\ SqT K H a xs /\ SqT K H b ys /\ xs.length + ys.length<=sizeLine ∧
 (xs=[]->Q (.ref b) H) /\ (ys=[]->Q (.ref a) H) /\ (∀ p,H p=none->Q [43] (upd H p (.tup (xs ++ ys))))
theorem sz3:OpR X (binaryOp .Add) (rCatA X.K):=by
 intro pins s σ H x y v u Q I rx ry h;obtain ⟨a,b,xs,ys,rfl,rfl,ha,hb,hz,q1,q2,q3⟩:=h;by_cases hx:xs=[]
 ·cases rx;cases ry;obtain ⟨its,r,ht,_⟩:=I.tuple ha;obtain ⟨its2,r2,ht2,_⟩:=I.tuple hb;have hi:its=[]:=by subst hx; cases r; rfl
  obtain ⟨⟨cls,dd,data,sl⟩,ho,hc,n,hd⟩:=id ht;obtain ⟨⟨cls2,dd2,data2,sl2⟩,ho2,hc2,n2,hd2⟩:=id ht2;simp only at hc hd hc2 hd2;subst hc hd hc2 hd2
  exact concat_meets ⟨_,ho,rfl⟩ ⟨_,ho2,rfl⟩ noFill_tuple_add seq_tuple_add slot_tuple_add entry_tuple_add (args_tuple_add_2 _ _)
   (tuple_addW0 a b its.toArray its2.toArray n n2 dd dd2 sl sl2 (by simp [hi])) ⟨ho,ho2,⟨.ref b,H,I,rfl,q1 hx⟩⟩
 ·exact tz3 pins s σ H _ _ v u Q I rx ry ⟨a,b,xs,ys,rfl,rfl,ha,hb,hx,hz,q2,λ _=>q3⟩
theorem q_add:RO X (binaryOp .Add) addR:=by
 refine ⟨_,(op_add.or za2).or (op_cat.or sz3),λ x y v u H Q μ Q3 m rx ry h k=>?_⟩;cases rx with
 | int i =>
  cases ry with
  | int j=>exact .inl (.inl ⟨i,j,rfl,rfl,k _ _ _ _ h [37] (.int _) m⟩)
  | _=>exact False.elim h
 | str i =>
  cases ry with
  | str j=>exact .inl (.inr ⟨i,j,rfl,rfl,h.1,k _ _ _ _ h.2 [37] (.str _) m⟩)
  | _=>exact False.elim h
 | ref p =>
  cases ry with
  | ref q =>
   dsimp only [addR] at h;cases e:μ p with
   | none=>rw [e] at h; exact h.elim
   | some oo =>
    cases oo with
    | ins _ _=>rw [e] at h; exact h.elim
    | dck _=>rw [e] at h; exact h.elim
    | lst xs =>
     cases e2:μ q with
     | none=>rw [e,e2] at h; exact h.elim
     | some o2 =>
      cases o2 with
      | ins _ _=>rw [e,e2] at h; exact h.elim
      | dck _=>rw [e,e2] at h; exact h.elim
      | lst ys =>
       rw [e,e2] at h;obtain ⟨vs,hv,rv⟩:=m p xs e;obtain ⟨us,hu,ru⟩:=m q ys e2;refine .inr (.inl ⟨p,q,vs,us,rfl,rfl,hv,hu,by rw [<- rv.length,<- ru.length]; exact h.1,λ t ht=>?_⟩);exact k _ _ _ _ (h.2 t (m.free ht)) (Kp.new ht) (.ref t) (m.newL ht (rv.append ru))
  | _=>exact False.elim h
 | tup hq rs =>
  cases ry with
  | tup hq2 rs2 =>
   rename_i a l vs b l2 us;refine .inr (.inr ⟨a,b,vs,us,rfl,rfl,(SqT.of hq),(SqT.of hq2),by rw [<- rs.length,<- rs2.length]; exact h.1,λ e=>?_,λ e=>?_,λ t ht=>?_⟩)
   ·subst e; cases rs;exact k _ _ _ _ h.2 [37] (.tup hq2 rs2) m
   ·subst e; cases rs2;have h2:=h.2;rw [append_nil] at h2;exact k _ _ _ _ h2 [37] (.tup hq rs) m
   ·exact k _ _ _ _ h.2 (Kp.new ht) (.tup zb0 ((rs.append rs2).mono (Kp.new ht))) (m.newT ht)
  | _=>exact False.elim h
 | _=>cases ry <;> exact False.elim h
theorem RelDs.atI {K:Fg} {H:Hp} {l:List D} {vs:List V} {i:Int} {d:D} (r:RelDs K H l vs) (e:Pv.atI l i=some d):∃ v,L2.atI vs i=some v /\ RelD K H d v:=by
 unfold Pv.atI at e;unfold L2.atI;rw [ixN_eq,<- r.length];cases q:ixN l.length i with
 | none=>rw [q] at e; cases e
 | some j =>
  rw [q] at e;exact r.get e
theorem q_ix:RX X ixR:=by
 refine ⟨_,ix_list.or ix_tup,λ x y v u H Q μ Q3 m rx ry h k=>?_⟩;cases ry with
 | int i =>
  cases rx with
  | tup hq rs =>
   rename_i a l vs;dsimp only [ixR] at h;cases e:Pv.atI l i with
   | none=>rw [e] at h; exact h.elim
   | some d =>
    rw [e] at h;obtain ⟨w,e1,r1⟩:=rs.atI e;exact .inr ⟨a,vs,i,w,rfl,rfl,(SqT.of hq),e1,k _ _ _ _ h [37] r1 m⟩
  | ktp hq rs =>
   rename_i a l vs;dsimp only [ixR] at h;cases e:Pv.atI l i with
   | none=>rw [e] at h; exact h.elim
   | some d =>
    rw [e] at h;obtain ⟨w,e1,r1⟩:=rs.atI e;exact .inr ⟨a,vs,i,w,rfl,rfl,hq,e1,k _ _ _ _ h [37] r1 m⟩
  | fls hq rs =>
   rename_i a l vs;dsimp only [ixR] at h;cases e:Pv.atI l i with
   | none=>rw [e] at h; exact h.elim
   | some d =>
    rw [e] at h;obtain ⟨w,e1,r1⟩:=rs.atI e;exact .inl ⟨a,vs,i,w,rfl,rfl,hq.l,e1,k _ _ _ _ h [37] r1 m⟩
  | ref p =>
   dsimp only [ixR] at h;cases e0:μ p with
   | none=>rw [e0] at h; exact h.elim
   | some oo =>
    cases oo with
    | ins _ _=>rw [e0] at h; exact h.elim
    | dck _=>rw [e0] at h; exact h.elim
    | lst l =>
     rw [e0] at h;dsimp only at h;obtain ⟨vs,hv,rs⟩:=m p l e0;cases e:Pv.atI l i with
     | none=>rw [e] at h; exact h.elim
     | some d =>
      rw [e] at h;obtain ⟨w,e1,r1⟩:=rs.atI e;exact .inl ⟨p,vs,i,w,rfl,rfl,SqL.of hv,e1,k _ _ _ _ h [37] r1 m⟩
  | _=>exact False.elim h
 | _=>cases rx <;> exact False.elim h
theorem up0 {K:Fg} {H:Hp}:∀ {l:List D} {vs:List V} {zs:[29]},RelDs K H l vs->strs? l=some zs->vs=zs.map V.str
 | _,_,zs,.nil,e=>by simp [strs?] at e; subst e; rfl
 | _,_,zs,.cons h r,e=>by
  cases h with
  | str x =>
   simp only [strs?] at e;split at e
   ·next ys e1 =>
    simp only [Option.some.injEq] at e;subst e;rw [up0 r e1]; rfl
   ·cases e
  | _=>simp [strs?] at e
theorem tr1 (z:Str) (zs:[29]):inV (.str z) (zs.map V.str)=zs.contains z:=by
 unfold inV;rw [List.any_map]
 induction zs with
 | nil=>rfl
 | cons y r ih =>
  rw [any_cons,ih,List.contains_cons];congr 1;show (y == z)=(z == y);rw [Bool.eq_iff_iff,beq_iff_eq,beq_iff_eq];exact eq_comm
theorem wh1 (zs:[29]):(zs.map V.str).all sb1=true:=by
 rw [all_map,all_eq_true]; intro _ _; rfl
theorem q_len:RC X (.builtin "len") lenR:=by
 refine ⟨_,call_len_seq.or ui1,λ xs vs H Q μ Q3 m r h k=>?_⟩;cases r with
 | nil=>exact False.elim h
 | cons r1 r2 =>
  cases r2 with
  | cons _ _=>cases r1 <;> exact False.elim h
  | nil =>
   cases r1 with
   | tup hq rs =>
    rename_i a l vs;refine .inl ⟨a,vs,rfl,.inr (SqT.of hq),?_⟩;rw [<- rs.length];exact k _ _ _ _ h [37] (.int _) m
   | fls hq rs =>
    rename_i a l vs;refine .inl ⟨a,vs,rfl,.inl hq.l,?_⟩;rw [<- rs.length];exact k _ _ _ _ h [37] (.int _) m
   | str z=>exact .inr ⟨z,rfl,h.1,k _ _ _ _ h.2 [37] (.int _) m⟩
   | ref p =>
    dsimp only [lenR] at h;cases e:μ p with
    | none=>rw [e] at h; exact h.elim
    | some oo =>
     cases oo with
     | ins _ _=>rw [e] at h; exact h.elim
     | dck _=>rw [e] at h; exact h.elim
     | lst l =>
      rw [e] at h;obtain ⟨vs,hv,rs⟩:=m p l e;refine .inl ⟨p,vs,rfl,.inl (SqL.of hv),?_⟩;rw [<- rs.length];exact k _ _ _ _ h [37] (.int _) m
   | _=>exact False.elim h
theorem q_abs:RC X (.builtin "abs") absR:=by
 refine ⟨_,ve3,λ xs vs H Q μ Q3 m r h k=>?_⟩;cases r with
 | nil=>exact False.elim h
 | cons r1 r2 =>
  cases r2 with
  | cons _ _=>cases r1 <;> exact False.elim h
  | nil =>
   cases r1 with
   | int i=>exact ⟨i,rfl,k _ _ _ _ h [37] (.int _) m⟩
   | _=>exact False.elim h
theorem xw3:RC X (.type "tuple") tupR:=by
 refine ⟨_,xd1,λ xs vs H Q μ Q3 m r h k=>?_⟩;cases r with
 | nil=>exact False.elim h
 | cons r1 r2 =>
  cases r2 with
  | cons _ _=>cases r1 <;> exact False.elim h
  | nil =>
   cases r1 with
   | tup hq rs=>exact ⟨_,_,rfl,.inr ⟨(SqT.of hq),k _ _ _ _ h [37] (.tup hq rs) m⟩⟩
   | ref p =>
    dsimp only [tupR] at h;cases e:μ p with
    | none=>rw [e] at h; exact h.elim
    | some oo =>
     cases oo with
     | ins _ _=>rw [e] at h; exact h.elim
     | dck _=>rw [e] at h; exact h.elim
     | lst l =>
      rw [e] at h;obtain ⟨vs,hv,rs⟩:=m p l e;exact ⟨p,vs,rfl,.inl ⟨SqL.of hv,λ t ht=>k _ _ _ _ h (Kp.new ht) (.tup zb0 (rs.mono (Kp.new ht))) (m.newT ht)⟩⟩
   | _=>exact False.elim h
theorem zb1 {K:Fg} {H:Hp}:∀ {l:List D} {vs:List V} {zs:List Int},RelDs K H l vs->ints? l=some zs->vs=zs.map V.int
 | _,_,zs,.nil,e=>by simp [ints?] at e; subst e; rfl
 | _,_,zs,.cons h r,e=>by
  cases h with
  | int x =>
   simp only [ints?] at e;split at e
   ·next ys e1 =>
    simp only [Option.some.injEq] at e;subst e;rw [zb1 r e1]; rfl
   ·cases e
  | _=>simp [ints?] at e
theorem ye3:X.calm=true->CallR X (.builtin "sum") (λ xs H Q=>∃ (p:Addr) (ns:List Int),xs=[.ref p] /\ SqL X.K H p (ns.map V.int) /\ Q (.int ns.sum) H):=by
 intro hc pins s σ H xs us Q I r h;obtain ⟨p,ns,rfl,hq,q⟩:=h;obtain ⟨u,rfl,rx⟩:=zr0 r;cases rx;obtain ⟨its,r',pl,hz⟩:=I.list hq;have hi:=zx0 r';obtain ⟨ys,e⟩:=hi.allInts.items;have hl:=pl.isList;rw [e] at hl;refine sum_intListG (I.ok.hd hc) hl λ h' tk t' hk=>?_;refine ⟨.int ns.sum,H,I.kept (t':=tk) hk,⟨t',?_⟩,q⟩;rw [preSum_eq,take_of_length_le [18],<- nums_intItems,<- e];show Value.int (numsOf its).sum t'=_;rw [hi.numsOf]
theorem q_sum (hc:X.calm=true:=by rfl):RC X (.builtin "sum") sumR:=by
 refine ⟨_,ye3 hc,λ xs vs H Q μ Q3 m r h k=>?_⟩;cases r with
 | nil=>exact False.elim h
 | cons r1 r2 =>
  cases r2 with
  | cons _ _=>cases r1 <;> exact False.elim h
  | nil =>
   cases r1 with
   | ref p =>
    dsimp only [sumR] at h;cases e:μ p with
    | none=>rw [e] at h; exact h.elim
    | some oo =>
     cases oo with
     | ins _ _=>rw [e] at h; exact h.elim
     | dck _=>rw [e] at h; exact h.elim
     | lst l =>
      rw [e] at h;dsimp only at h;obtain ⟨vs,hv,rs⟩:=m p l e;cases e1:ints? l with
      | none=>rw [e1] at h; exact h.elim
      | some ns =>
       rw [e1] at h;have ev:=zb1 rs e1;subst ev;exact ⟨p,ns,rfl,SqL.of hv,k _ _ _ _ h [37] (.int _) m⟩
   | _=>exact False.elim h
end
variable {pins:[20]} {σ:L2.St} {H:Hp} {s:[88]} {μ:Mu} {d:D} {v:V} {A:Around} {neg:Bool}
section
mutual
theorem zf0 (I:[10]):∀ {d:D} {v:V} {p:PyData} {u:Value},RelD X.K H d v->dat d=some p->RelV v u->∃ as,Reads s.heap u p as
 | _,_,p,u,.non,e,r=>by simp only [dat,Option.some.injEq] at e; subst e; cases r; exact ⟨_,Reads.none⟩
 | _,_,p,u,.bl b,e,r=>by simp only [dat,Option.some.injEq] at e; subst e; cases r; exact ⟨_,Reads.bool b⟩
 | _,_,p,u,.int i,e,r=>by simp only [dat,Option.some.injEq] at e; subst e; obtain ⟨t,rfl⟩:=r; exact ⟨_,Reads.int i t⟩
 | _,_,p,u,.str x,e,r=>by
  simp only [dat] at e;split at e
  ·simp only [Option.some.injEq] at e; subst e; obtain ⟨t,rfl⟩:=r; exact ⟨_,Reads.str x t⟩
  ·cases e
 | _,_,p,u,.ref a,e,r=>by simp [dat] at e
 | _,_,p,u,.ty n,e,r=>by simp [dat] at e
 | _,_,p,u,.fls _ _,e,r=>by simp [dat] at e
 | _,_,p,u,.exc _ _ _,e,r=>by simp [dat] at e
 | _,_,p,u,.tup hq rs,e,r=>by
  simp only [dat] at e;split at e
  ·next ps e1 =>
   simp only [Option.some.injEq] at e; subst e;cases r;obtain ⟨its,rv,⟨o,ho,hc,n,hd⟩,hz⟩:=I.tuple (SqT.of hq);obtain ⟨as,q⟩:=vh0 I rs e1 rv;exact ⟨_,Reads.tuple ho hc hd (by simpa using q)⟩
  ·cases e
 | _,_,p,u,.ktp hq rs,e,r=>by
  simp only [dat] at e;split at e
  ·next ps e1 =>
   simp only [Option.some.injEq] at e; subst e;cases r;obtain ⟨its,rv,⟨o,ho,hc,n,hd⟩,hz⟩:=I.tuple hq;obtain ⟨as,q⟩:=vh0 I rs e1 rv;exact ⟨_,Reads.tuple ho hc hd (by simpa using q)⟩
  ·cases e
theorem vh0 (I:[10]):∀ {l:List D} {vs:List V} {ps:List PyData} {us:[27]},RelDs X.K H l vs->dats l=some ps->Vals vs us->∃ as,ReadsAll s.heap us ps as
 | _,_,ps,us,.nil,e,r=>by simp only [dats,Option.some.injEq] at e; subst e; cases r; exact ⟨_,ReadsAll.nil⟩
 | _,_,ps,us,.cons h rs,e,r=>by
  simp only [dats] at e;split at e
  ·next p e1 =>
   split at e
   ·next qs e2 =>
    simp only [Option.some.injEq] at e; subst e;cases r with
    | cons r1 r2 =>
     obtain ⟨as,q1⟩:=zf0 I h e1 r1;obtain ⟨bs,q2⟩:=vh0 I rs e2 r2;exact ⟨_,ReadsAll.cons q1 q2⟩
   ·cases e
  ·cases e
end
theorem te0 (I:[10]) (m:RelM X.K μ H) {p:PyData} {u:Value} (h:RelD X.K H d v) (e:datM μ d=some p) (r:RelV v u):∃ as,Reads s.heap u p as:=by
 cases h with
 | ref a =>
  simp only [datM] at e;split at e
  ·next l e0 =>
   split at e
   ·next ps e1 =>
    simp only [Option.some.injEq] at e; subst e;cases r;obtain ⟨vs,hv,rs⟩:=m a l e0;obtain ⟨its,rv,pl,hz⟩:=I.list (SqL.of hv);obtain ⟨o,ho,hc,n,hd⟩:=pl.isList;obtain ⟨as,q⟩:=vh0 I rs e1 rv;exact ⟨_,Reads.list ho hc hd (by simpa using q)⟩
   ·cases e
  ·cases e
 | non=>exact zf0 I .non e r
 | bl b=>exact zf0 I (.bl b) e r
 | int i=>exact zf0 I (.int i) e r
 | str x=>exact zf0 I (.str x) e r
 | ty n=>exact zf0 I (.ty n) e r
 | tup hq rs=>exact zf0 I (.tup hq rs) e r
 | ktp hq rs=>exact zf0 I (.ktp hq rs) e r
 | fls hq rs=>exact zf0 I (.fls hq rs) e r
 | exc a1 a2 a3=>simp [datM,dat] at e
mutual
theorem sc0:∀ (d:D) (p:PyData),dat d=some p->p.canLay0=true
 | .non,p,e=>by simp only [dat,Option.some.injEq] at e; subst e; rfl
 | .bl b,p,e=>by simp only [dat,Option.some.injEq] at e; subst e; rfl
 | .int b,p,e=>by simp only [dat,Option.some.injEq] at e; subst e; rfl
 | .str x,p,e=>by
  simp only [dat] at e;split at e
  ·next h=>simp only [Option.some.injEq] at e; subst e; exact h
  ·cases e
 | .tup l,p,e=>by
  simp only [dat] at e;split at e
  ·next ps e1=>simp only [Option.some.injEq] at e; subst e; simp only [PyData.canLay0]; exact yi0 l ps e1
  ·cases e
 | .ktp l,p,e=>by
  simp only [dat] at e;split at e
  ·next ps e1=>simp only [Option.some.injEq] at e; subst e; simp only [PyData.canLay0]; exact yi0 l ps e1
  ·cases e
 | .fls _,p,e=>by simp [dat] at e
 | .ref _,p,e=>by simp [dat] at e
 | .ty _,p,e=>by simp [dat] at e
theorem yi0:∀ (l:List D) (ps:List PyData),dats l=some ps->PyData.canLayAll0 ps=true
 | [],ps,e=>by simp only [dats,Option.some.injEq] at e; subst e; rfl
 | d :: r,ps,e=>by
  simp only [dats] at e;split at e
  ·next p e1 =>
   split at e
   ·next qs e2 =>
    simp only [Option.some.injEq] at e; subst e;simp only [PyData.canLayAll0,Bool.and_eq_true];exact ⟨sc0 d p e1,yi0 r qs e2⟩
   ·cases e
  ·cases e
end
theorem su0 {p:PyData} (e:datM μ d=some p):p.canLay0=true:=by
 cases d with
 | ref a =>
  simp only [datM] at e;split at e
  ·next l e0 =>
   split at e
   ·next ps e1=>simp only [Option.some.injEq] at e; subst e; simp only [PyData.canLay0]; exact yi0 l ps e1
   ·cases e
  ·cases e
 | non=>exact sc0 _ p e
 | bl b=>exact sc0 _ p e
 | int i=>exact sc0 _ p e
 | str x=>exact sc0 _ p e
 | ty n=>exact sc0 _ p e
 | tup l=>exact sc0 _ p e
 | ktp l=>exact sc0 _ p e
 | fls l=>exact sc0 _ p e
 | exc c=>simp [datM,dat] at e
theorem yd0 {p:PyData} (e:datM μ d=some p) (h:p.depth<=64):PySem.SeqAt.shaped p=true:=by
 unfold PySem.SeqAt.shaped;rw [su0 e,decide_eq_true h]; rfl
def rEqD (K:Fg) (neg:Bool):R2:=λ x y H Q=>∃ d e μ p q,RelM K μ H /\ RelD K H d x /\ RelD K H e y /\ datM μ d=some p /\ datM μ e=some q /\ p.depth<=64 /\ q.depth<=64 /\ Q (.bl (if neg then !PyData.eqv p q else PyData.eqv p q)) H
theorem op_eqD (hu:[66]):OpR X (compareOp .Eq) (rEqD X.K false):=by
 intro pins s σ H x y v u Q I rx ry h;obtain ⟨d,e,μ,p,q,m,rd,re,e1,e2,h1,h2,k⟩:=h;obtain ⟨as,q1⟩:=te0 I m rd e1 rx;obtain ⟨bs,q2⟩:=te0 I m re e2 ry;exact eq_dataH q1 q2 (yd0 e1 h1) (yd0 e2 h2) hu ⟨.bl _,H,I,rfl,k⟩
theorem op_neD (hu:[66]):OpR X (compareOp .NotEq) (rEqD X.K true):=by
 intro pins s σ H x y v u Q I rx ry h;obtain ⟨d,e,μ,p,q,m,rd,re,e1,e2,h1,h2,k⟩:=h;obtain ⟨as,q1⟩:=te0 I m rd e1 rx;obtain ⟨bs,q2⟩:=te0 I m re e2 ry;exact ne_dataH q1 q2 (yd0 e1 h1) (yd0 e2 h2) hu ⟨.bl _,H,I,rfl,k⟩
theorem eqS_v {x y:D} {u:V} {c:Bool} (rx:RelD K H x v) (ry:RelD K H y u) (e:eqS x y=some c):scal v u=true /\ decide (v=u)=c:=by
 unfold eqS at e;split at e <;> first | (cases e; done) | (cases rx; cases ry; cases e; exact ⟨rfl,rfl⟩) | (cases rx; cases ry; cases e; refine ⟨rfl,?_⟩; simp)
theorem hu64 {k:Nat} (hr:Room k A):A.units + 64 < cLine:=by have:=hr.un; omega
def rInD (K:Fg) (neg:Bool):R2:=λ x y H Q=>∃ d e μ p xs,∃ b:Bool,RelM K μ H /\ RelD K H d x /\ RelD K H e y /\ datM μ d=some p /\ datM μ e=some (if b then .list xs else .tuple xs) /\ p.depth<=64 /\ (if b then PyData.list xs else PyData.tuple xs).depth<=64 ∧
 Q (.bl (if neg then !(xs.any λ e=>PyData.eqv e p) else xs.any λ e=>PyData.eqv e p)) H
theorem op_inD (hu:X.A.units + 65 < cLine):OpR X (compareOp .In) (rInD X.K false):=by
 intro pins s σ H x y v u Q I rx ry h;obtain ⟨d,e,μ,p,xs,b,m,rd,re,e1,e2,h1,h2,k⟩:=h;obtain ⟨as,q1⟩:=te0 I m rd e1 rx;obtain ⟨bs,q2⟩:=te0 I m re e2 ry;cases b
 ·exact PySem.SeqAt.in_tuple_reads q2 q1 (PySem.SeqAt.canLay_of_shaped (yd0 e2 h2)) (PySem.SeqAt.canLay_of_shaped (yd0 e1 h1)) (room_in_shaped (yd0 e1 h1) hu) ⟨.bl _,H,I,rfl,k⟩
 ·exact PySem.SeqAt.in_list_reads q2 q1 (PySem.SeqAt.canLay_of_shaped (yd0 e2 h2)) (PySem.SeqAt.canLay_of_shaped (yd0 e1 h1)) (room_in_shaped (yd0 e1 h1) hu) ⟨.bl _,H,I,rfl,k⟩
theorem hu65 {k:Nat} (hr:Room k A):A.units + 65 < cLine:=by have:=hr.un; omega
theorem xd4 {x y:D} {u:V} {Q:VK} {Q3:VK3} (m:RelM K μ H) (rx:RelD K H x v) (ry:RelD K H y u) (h:inD neg x y μ Q3) (k:Ks K H Q3 Q):rInD K neg v u H Q:=by
 unfold inD at h;split at h
 ·next d xs e1 e2=>exact ⟨x,y,μ,d,xs,true,m,rx,ry,e1,e2,h.1.1,h.1.2,k _ _ _ _ h.2 [37] (.bl _) m⟩
 ·next d xs e1 e2=>exact ⟨x,y,μ,d,xs,false,m,rx,ry,e1,e2,h.1.1,h.1.2,k _ _ _ _ h.2 [37] (.bl _) m⟩
 ·exact h.elim
theorem RdO.inn:RdO K (λ x y H Q=>(rIn K neg x y H Q \/ ∃ i j,x=.str i /\ y=.str j /\ Q (.bl (if neg then !(!(Builtin.Str.occurrences j i 0 j.length 1).isEmpty) else !(Builtin.Str.occurrences j i 0 j.length 1).isEmpty)) H) \/ rInD K neg x y H Q) (inR neg):=λ x y v u H Q μ Q3 m rx ry h k=>by
 unfold inR at h;split at h
 ·next z l =>
  cases e:strs? l with
  | none=>rw [e] at h; exact .inr (xd4 m rx ry h k)
  | some zs =>
   rw [e] at h;cases rx;cases ry with
   | tup hq rs =>
    rename_i a vs;have ev:=up0 rs e;refine .inl <| .inl ⟨a,vs,rfl,.inr (SqT.of hq),rfl,by rw [ev]; exact wh1 zs,?_⟩;rw [ev,tr1];exact k _ _ _ _ h [37] (.bl _) m
 ·next z l =>
  cases e:strs? l with
  | none=>rw [e] at h; exact .inr (xd4 m rx ry h k)
  | some zs =>
   rw [e] at h;cases rx;cases ry with
   | ktp hq rs =>
    rename_i a vs;have ev:=up0 rs e;refine .inl <| .inl ⟨a,vs,rfl,.inr hq,rfl,by rw [ev]; exact wh1 zs,?_⟩;rw [ev,tr1];exact k _ _ _ _ h [37] (.bl _) m
 ·next z y =>
  cases rx;cases ry;exact .inl <| .inr ⟨z,y,rfl,rfl,k _ _ _ _ h [37] (.bl _) m⟩
 ·exact .inr (xd4 m rx ry h k)
theorem q_in (hu:X.A.units + 65 < cLine):RO X (compareOp .In) (inR false):=⟨_,(op_in_seq.or wj2).or (op_inD hu),RdO.inn⟩
theorem q_eq (hu:[66]):RO X (compareOp .Eq) eqR:=by
 refine ⟨_,op_eq.or (op_eqD hu),λ x y v u H Q μ Q3 m rx ry h k=>?_⟩;unfold eqR at h;cases e:eqS x y with
 | some c =>
  rw [e] at h;obtain ⟨h1,h2⟩:=eqS_v rx ry e;refine .inl ⟨h1,?_⟩;rw [h2];exact k _ _ _ _ h [37] (.bl _) m
 | none =>
  rw [e] at h;dsimp only at h;cases e1:datM μ x with
  | none=>rw [e1] at h; exact h.elim
  | some p =>
   cases e2:datM μ y with
   | none=>rw [e1,e2] at h; exact h.elim
   | some q =>
    rw [e1,e2] at h;exact .inr ⟨x,y,μ,p,q,m,rx,ry,e1,e2,h.1.1,h.1.2,k _ _ _ _ h.2 [37] (.bl _) m⟩
theorem q_ne (hu:[66]):RO X (compareOp .NotEq) neR:=by
 refine ⟨_,op_ne.or (op_neD hu),λ x y v u H Q μ Q3 m rx ry h k=>?_⟩;unfold neR at h;cases e:eqS x y with
 | some c =>
  rw [e] at h;obtain ⟨h1,h2⟩:=eqS_v rx ry e;refine .inl ⟨h1,?_⟩;rw [h2];exact k _ _ _ _ h [37] (.bl _) m
 | none =>
  rw [e] at h;dsimp only at h;cases e1:datM μ x with
  | none=>rw [e1] at h; exact h.elim
  | some p =>
   cases e2:datM μ y with
   | none=>rw [e1,e2] at h; exact h.elim
   | some q =>
    rw [e1,e2] at h;exact .inr ⟨x,y,μ,p,q,m,rx,ry,e1,e2,h.1.1,h.1.2,k _ _ _ _ h.2 [37] (.bl _) m⟩
theorem tc4 (K:Fg):∀ t ∈ ["int", "str", "tuple", "bool", "NoneType", "list"],∀ T ∈ ["int", "str", "tuple", "bool", "list"],kitOne K (.type t) (.type T)=some (t == T || (t == "bool" && T == "int")):=by
 intro t ht T hT;simp only [mem_cons,not_mem_nil,or_false] at ht hT;rcases ht with rfl | rfl | rfl | rfl | rfl | rfl <;> rcases hT with rfl | rfl | rfl | rfl | rfl <;> with_unfolding_all rfl
theorem isIn_k {t:String} {b:Bool} (e:isIn t T=some b) (ht:t ∈ ["int", "str", "tuple", "bool", "NoneType", "list"]) (hT:T ∈ ["int", "str", "tuple", "bool", "list"]):kitOne K (.type t) (.type T)=some b:=by
 rw [tc4 K t ht T hT];simp only [mem_cons,not_mem_nil,or_false] at ht hT;rcases ht with rfl | rfl | rfl | rfl | rfl | rfl <;> rcases hT with rfl | rfl | rfl | rfl | rfl <;> simp [isIn] at e <;> subst e <;> rfl
theorem isIn_T {t:String} {b:Bool} (e:isIn t T=some b) (ht:t ∈ ["int", "str", "tuple", "bool", "NoneType", "list"]):T ∈ ["int", "str", "tuple", "bool", "list"] \/ (t=T /\ b=true):=by
 unfold isIn at e;simp only [mem_cons,not_mem_nil,or_false] at ht ⊢;split at e
 ·next h=>simp only [Option.some.injEq] at e; exact .inr ⟨h,e.symm⟩
 ·split at e
  ·next h=>rw [h.2]; simp
  ·split at e
   ·next h=>rcases h.2 with rfl | rfl | rfl | rfl | rfl <;> simp
   ·cases e
theorem wa3 (K:Fg) (t:String):kitOne K (.type t) (.type t)=some true:=by
 unfold kitOne;rw [if_pos [18]]
def rIsi (K:Fg):List V->Hp->VK->Prop:=λ xs H Q=>∃ d v μ t T b,xs=[v,.ty T] /\ RelM K μ H /\ RelD K H d v /\ tyN μ d=some t /\ isIn t T=some b /\ Q (.bl b) H
theorem ze3:CallR X (.builtin "isinstance") (rIsi X.K):=by
 intro pins s σ H xs us Q I r h;obtain ⟨d,v,μ,t,T,b,rfl,m,rd,e1,e2,q⟩:=h;obtain ⟨u,w',rfl,rx,ry⟩:=sc2 r;cases ry;have fin:∀ tk,EP X pins σ Q (.bool b) { s with toks:=tk }:=λ tk=>⟨.bl b,H,I.tok tk,rfl,q⟩
 have hk:∀ t',t' ∈ ["int", "str", "tuple", "bool", "NoneType", "list"]->isIn t' T=some b->kitOne X.K (.type t') (.type T)=some b:=λ t' h1 h2=>by
  rcases isIn_T h2 h1 with z | ⟨rfl,rfl⟩
  ·exact isIn_k h2 h1 z
  ·exact wa3 _ _
 cases rd with
 | non=>simp only [tyN,Option.some.injEq] at e1; subst e1; cases rx; exact kia_one PySem.W.kitx_none I.kIn True.intro (hk _ [18] e2) (λ z=>nomatch z) fin
 | bl y=>simp only [tyN,Option.some.injEq] at e1; subst e1; cases rx; exact kia_one PySem.W.kitx_bool I.kIn True.intro (hk _ [18] e2) (λ z=>nomatch z) fin
 | int i=>simp only [tyN,Option.some.injEq] at e1; subst e1; obtain ⟨tk,rfl⟩:=rx; exact kia_one PySem.W.kitx_int I.kIn True.intro (hk _ [18] e2) (λ z=>nomatch z) fin
 | str y=>simp only [tyN,Option.some.injEq] at e1; subst e1; obtain ⟨tk,rfl⟩:=rx; exact kia_one PySem.W.kitx_str I.kIn True.intro (hk _ [18] e2) (λ z=>nomatch z) fin
 | tup hq rs =>
  simp only [tyN,Option.some.injEq] at e1; subst e1; cases rx;obtain ⟨its,rv,⟨o,ho,hc,_⟩,hz⟩:=I.tuple (SqT.of hq);exact kia_one PySem.W.kitx_tuple I.kIn ⟨o,ho,hc⟩ (hk _ [18] e2) (λ z=>nomatch z) fin
 | ref p =>
  simp only [tyN] at e1;split at e1
  ·next l e0 =>
   simp only [Option.some.injEq] at e1; subst e1; cases rx;obtain ⟨vs,hv,rs⟩:=m p l e0;obtain ⟨its,rv,pl,hz⟩:=I.list (SqL.of hv);obtain ⟨o,ho,hc,_⟩:=pl.isList;exact kia_one PySem.W.kitx_list I.kIn ⟨o,ho,hc⟩ (hk _ [18] e2) (λ z=>nomatch z) fin
  ·cases e1
 | ty n=>simp [tyN] at e1
 | fls _ _=>simp [tyN] at e1
 | ktp _ _=>simp [tyN] at e1
 | exc _ _ _=>simp [tyN] at e1
theorem q_isi:RC X (.builtin "isinstance") isiR:=by
 refine ⟨_,ze3,λ xs vs H Q μ Q3 m r h k=>?_⟩;cases r with
 | nil=>exact False.elim h
 | cons r1 r2 =>
  cases r2 with
  | nil=>exact False.elim h
  | cons r2 r3 =>
   cases r3 with
   | cons _ _=>cases r2 <;> exact False.elim h
   | nil =>
    cases r2 with
    | ty T =>
     rename_i d v;dsimp only [isiR] at h;cases e:tyN μ d with
     | none=>rw [e] at h; exact h.elim
     | some t =>
      rw [e] at h;dsimp only at h;cases e2:isIn t T with
      | none=>rw [e2] at h; exact h.elim
      | some b =>
       rw [e2] at h;exact ⟨d,v,μ,t,T,b,rfl,m,r1,e,e2,k _ _ _ _ h [37] (.bl _) m⟩
    | _=>exact False.elim h
variable {o:Expr} {to:TE3} {apos cpos:Pos}
theorem uz4 {name:Str} {id:String} {r:V->List V->Hp->VK->Prop} {r3:D->List D->Mu->VK3->Prop} (slot:Slot "list" name id) (hty:typeOf (.builtin id)=pure (.type "method_descriptor")) (hm:MtR X id r)
    (hrd:∀ p xs v vs H Q μ Q3,RelM X.K μ H->RelD X.K H [43] v->RelDs X.K H xs vs->r3 [43] xs μ Q3->Ks X.K H Q3 Q->r v vs H Q) (ho:RE X o to) (ha:RA X (e :: es) t)
    (hbase:attributeBase o name X.env (eval o X.env)=eval o X.env)
    (hfew:([44].all (λ x=>!x.1) && [52].all (λ x=>x.1.isSome)
     && decide [15])=true)
    (hline:[77]=true) (hs:starEach (e :: es) X.env=[26] :: starEach es X.env) (hplain:[31].any (·.1)=false) :
    RE X (.Call (.Attribute o name apos) (e :: es) [] cpos) (mt3 r3 to t):=by
 obtain ⟨va,pa,ra⟩:=ho;obtain ⟨vb,pb,rb⟩:=ha;refine ⟨_,zj5 PySem.F.plainAttrs_list slot hty hm pa pb hbase hfew hline hs hplain,λ σ H Q ρ μ Q3 s m h k=>ra σ H _ ρ μ _ s m h λ d μ1 v H1 h1 k1 r1 m1=>?_⟩;cases r1 with
 | ref p =>
  dsimp only at h1;cases e0:μ1 p with
  | none=>rw [e0] at h1; exact h1.elim
  | some oo =>
   cases oo with
   | ins _ _=>rw [e0] at h1; exact h1.elim
   | dck _=>rw [e0] at h1; exact h1.elim
   | lst l =>
    rw [e0] at h1;obtain ⟨vs,hv,rs⟩:=m1 p l e0;refine ⟨.inl ⟨rfl,vs,SqL.of hv⟩,rb σ H1 _ ρ μ1 _ [90] m1 h1 λ xs μ2 ys H2 h2 k2 r2 m2=>?_⟩;exact hrd p xs _ ys H2 Q μ2 Q3 m2 [43] r2 h2 (k.after (k1.trans k2))
 | _=>exact False.elim h1
theorem yh2 (ho:RE X o to) (ha:RA X (e :: es) t) (hbase:attributeBase o "append" X.env (eval o X.env)=eval o X.env:=by rfl)
    (hfew:([44].all (λ x=>!x.1) && [52].all (λ x=>x.1.isSome)
     && decide [15])=true:=by rfl)
    (hline:[77]=true:=by rfl) (hs:starEach (e :: es) X.env=[26] :: starEach es X.env:=by rfl) (hplain:[31].any (·.1)=false:=by rfl) :
    RE X (.Call (.Attribute o "append" apos) (e :: es) [] cpos) (mt3 appR to t):=by
 refine uz4 PySem.F.slot_list_append PySem.F.type_list_append us0 (λ p xs v vs H Q μ Q3 m rp rx h k=>?_) ho ha hbase hfew hline hs hplain;cases rp;cases rx with
 | nil=>exact False.elim h
 | cons r1 r2 =>
  cases r2 with
  | cons _ _=>exact False.elim h
  | nil =>
   dsimp only [appR] at h;cases e0:μ p with
   | none=>rw [e0] at h; exact h.elim
   | some oo =>
    cases oo with
    | ins _ _=>rw [e0] at h; exact h.elim
    | dck _=>rw [e0] at h; exact h.elim
    | lst l =>
     rw [e0] at h;obtain ⟨vs,hv,rs⟩:=m p l e0;exact ⟨p,vs,_,rfl,rfl,hv,by rw [<- rs.length]; exact h.1,k _ _ _ _ h.2 (Kp.wr hv) .non (m.wr hv (rs.append (.cons r1 .nil)))⟩
theorem xh2 (ho:RE X o to) (ha:RA X (e :: es) t) (hbase:attributeBase o "extend" X.env (eval o X.env)=eval o X.env:=by rfl)
    (hfew:([44].all (λ x=>!x.1) && [52].all (λ x=>x.1.isSome)
     && decide [15])=true:=by rfl)
    (hline:[77]=true:=by rfl) (hs:starEach (e :: es) X.env=[26] :: starEach es X.env:=by rfl) (hplain:[31].any (·.1)=false:=by rfl) :
    RE X (.Call (.Attribute o "extend" apos) (e :: es) [] cpos) (mt3 extR to t):=by
 refine uz4 PySem.F.slot_list_extend PySem.F.type_list_extend sj2 (λ p xs v vs H Q μ Q3 m rp rx h k=>?_) ho ha hbase hfew hline hs hplain;cases rp;cases rx with
 | nil=>exact False.elim h
 | cons r1 r2 =>
  cases r2 with
  | cons _ _=>cases r1 <;> exact False.elim h
  | nil =>
   cases r1 with
   | ref q =>
    dsimp only [extR] at h;cases e0:μ p with
    | none=>rw [e0] at h; exact h.elim
    | some oo =>
     cases oo with
     | ins _ _=>rw [e0] at h; exact h.elim
     | dck _=>rw [e0] at h; exact h.elim
     | lst l =>
      cases e2:μ q with
      | none=>rw [e0,e2] at h; exact h.elim
      | some o2 =>
       cases o2 with
       | ins _ _=>rw [e0,e2] at h; exact h.elim
       | dck _=>rw [e0,e2] at h; exact h.elim
       | lst l2 =>
        rw [e0,e2] at h;obtain ⟨vs,hv,rs⟩:=m p l e0;obtain ⟨us,hu,ru⟩:=m q l2 e2;exact ⟨p,q,vs,us,rfl,rfl,hv,hu,by rw [<- rs.length,<- ru.length]; exact h.1,k _ _ _ _ h.2 (Kp.wr hv) .non (m.wr hv (rs.append ru))⟩
   | _=>exact False.elim h
end
abbrev xc0 (X:Cx) (NN:[29]) (scope:Scope) (cl:List (Str × Addr)) (C:Addr) (fp:List Addr) (s₀:[88]) (H₀:Hp) (pn:[20]):Cx :=
 { X with N:=NN,s₀:=s₀,H₀:=H₀,env:=compEnvC scope cl C X.env,outer:=X.stack,ex:=fp,fn:=λ _=>false,pn:=pn,xe:=λ _ _=>False }
structure CompSc (X:Cx) (NN:List Str) (scope:Scope) (cl:List (Str × Addr)) (js:List (Option Nat)):Prop where
 clos:closureFor scope X.env=pure cl
 cell:∀ y ∈ scope.names,y.2 ≠ .cell
 kind:scope.kind=.function
 names:∀ y ∈ scope.names,y.2=.local->scope.names.lookup y.1=some .local
 sub:∀ x c,cl.lookup x=some c->X.env.cells.lookup x=some c
 has:∀ x,((relabel scope X.env).names.lookup x=some .cell \/ (relabel scope X.env).names.lookup x=some .free)->∃ c,cl.lookup x=some c
 len:js.length=NN.length
 out:∀ (i j:Nat),js[i]?=some (some j)->∃ x,NN[i]?=some x /\ X.N[j]?=some x /\ Vis X.env.scope x /\ X.env.scope.names.lookup x ≠ some .local /\ ((relabel scope X.env).names.lookup x=some .cell \/ (relabel scope X.env).names.lookup x=some .free)
theorem xh0 {α:Type} {x:Str} {k:α}:∀ {l:List (Str × α)},l.lookup x=some k->(x,k) ∈ l
 | [],h=>by simp at h
 | (n,k') :: r,h=>by
  rw [lookup_cons] at h;split at h
  ·next e=>simp only [Option.some.injEq] at h; subst h; rw [eq_of_beq e]; exact mem_cons_self
  ·exact mem_cons_of_mem _ (xh0 h)
variable {NN:[29]} {scope:Scope}
theorem CompSc.closed (hf:∀ y ∈ scope.names,y.2 ≠ .free) (hc:∀ y ∈ scope.names,y.2 ≠ .cell) (hk:scope.kind=.function) (hn:∀ y ∈ scope.names,y.2=.local->scope.names.lookup y.1=some .local) :
    CompSc X NN scope [] (NN.map λ _=>none) where
 clos:=closureFor_none hf
 cell:=hc
 kind:=hk
 names:=hn
 sub:=λ x c h=>by simp at h
 has:=λ x h=>by
  exfalso
  have e:(relabel scope X.env).names=scope.names:=map_eq_self (l:=scope.names) (λ y hy=>by
   obtain ⟨n,k⟩:=y;have:(k == NameKind.free)=false:=by simpa using hf _ hy
   simp [this])
  rw [e] at h;rcases h with h | h
  ·exact hc _ (xh0 h) rfl
  ·exact hf _ (xh0 h) rfl
 len:=by simp
 out:=λ i j h=>by
  rw [getElem?_map] at h;cases q:NN[i]? with
  | none=>rw [q] at h; cases h
  | some y=>rw [q] at h; simp at h
def zo0 (js:List (Option Nat)) (σ:L2.St):L2.St:=js.map λ j=>j.bind λ j=>(σ[j]?).bind id
def PTs (X:Cx) (ifs:List Expr) (t:TT):Prop:=∀ (pins:[20]) (s:[88]) (σ:L2.St) (H:Hp) (Q:Bool->Hp->Prop),Inv X pins σ H s->t σ H Q ->
 wpAny [11] X.A (forIn ifs true λ c r=>if r=true then do let ok <- isTrue c X.env (eval c X.env); pure (ForInStep.yield ok) else pure (ForInStep.yield r)) (TP X pins σ Q) X.xe s
theorem tw3:PTs X [] (λ _ H Q=>Q true H):=λ _ _ _ H _ I h=>wpAny_tests_nil ⟨H,I,h⟩
def xe2 (js:List (Option Nat)) (wi:TI) (g:TG) (tc:TT) (te:TE):TE:=λ σ H Q=>wi σ H λ J H1=>∀ p,H1 p=none ->
 ∃ W:Nat->Nat->L2.St->Hp->Prop,(∃ m,W 0 m (zo0 js σ) (upd H1 p (.lst []))) /\ ∀ i m σ' H',W i m σ' H' ->
  ((J.stop i H' /\ Q [43] H') \/ (J.go i H' /\ ∀ x H2,J.yld i H' x H2->g x σ' H2 λ σ3 H3=>tc σ3 H3 λ b H4 =>
   if b=true then te σ3 H4 λ y H5=>∃ ys,H5 p=some (.lst ys) /\ ys.length < sizeLine /\ ∃ m',m' < m /\ W (i + 1) m' σ3 (upd H5 p (.lst (ys ++ [y]))) else ∃ m',m' < m /\ W (i + 1) m' σ3 H4))
variable {cl:List (Str × Addr)} {js:List (Option Nat)} {fp:List Addr} {ifs:List Expr} {wi:TI}
section
theorem yf4 {pn:[20]} (hc:X.calm=true) (S:CompSc X NN scope cl js) (I:[10]) (f:∀ b ∈ fp,FpOk X pins H b /\ b < s.heap.objs.size) :
    (xc0 X NN scope cl s.heap.objs.size fp s H pn).Ok where
 mod:=I.ok.mod
 kind:=S.kind
 glob:=I.ok.glob
 blt:=I.ok.blt
 above:=Nat.le_refl _
 inj:=λ x y c h1 h2=>I.ok.inj x y c (S.sub x c h1) (S.sub y c h2)
 has:=λ x h=>S.has x h
 cab:=λ x c h=>by cases h
 hd:=λ _=>I.ok.hd hc
 frames:=I.ok.frames
 stk:=.inl rfl
 exf:=λ b hb=>⟨Nat.ne_of_lt (f b hb).2,λ x c e=>(f b hb).1.2.2.2.2.1 x c (S.sub x c e)⟩
 bs:=I.bs
 bsz:=Nat.le_trans I.ok.bsz I.sz
 noex:=λ b o e hb=>by
  rcases (f b hb).1.2.2.2.1 with z | z
  ·exact I.ok.noex b o e z
  ·exact absurd (Nat.lt_of_lt_of_le [102] (Nat.le_trans I.ok.bsz z)) (Nat.lt_irrefl _)
 exfs:=λ b hb hfs=>by
  rcases List.mem_cons.mp (I.stkSub b hfs) with z | z
  ·exact (f b hb).1.2.1 z
  ·exact (f b hb).1.2.2.1 z
 funs:=I.stack
 frf:=I.stkFree
theorem ym2 {i:Nat} (h:(zo0 js σ)[i]?=some (some v)):∃ j,js[i]?=some (some j) /\ σ[j]?=some (some v):=by
 unfold zo0 at h;rw [getElem?_map] at h;cases q:js[i]? with
 | none=>rw [q] at h; cases h
 | some o =>
  rw [q] at h;cases o with
  | none=>simp at h
  | some j =>
   refine ⟨j,rfl,?_⟩;simp only [Option.map_some,Option.bind_some,Option.some.injEq] at h;cases e:σ[j]? with
   | none=>rw [e] at h; simp at h
   | some w=>rw [e] at h; simp only [Option.bind_some,id] at h; rw [h]
theorem zi1 {h₁:Heap} {m:[25]} {tk:Nat} (hc:X.calm=true) (S:CompSc X NN scope cl js) (I:[10]) (f:∀ b ∈ fp,FpOk X pins H b /\ b < s.heap.objs.size)
    (hn:h₁.Ns s.heap.objs.size m) (k:∀ b u,s.heap.get? b=some u->h₁.get? b=some u):Inv (xc0 X NN scope cl s.heap.objs.size fp s H (X.pn ++ pins)) [] (zo0 js σ) H { s with heap:=h₁,toks:=tk } where
 ok:=yf4 hc S I f
 os:=rfl
 bare:=I.bare
 base:=Un.kept k
 loc:=by
  refine ⟨m,hn,λ i x v h1 h2 h3=>?_⟩;obtain ⟨j,e1,e2⟩:=ym2 h2;obtain ⟨y,q1,q2,q3,q4,q5⟩:=S.out i j e1;have q1':NN[i]?=some x:=h1;rw [q1] at q1'; cases q1';obtain ⟨mX,_,hl⟩:=I.loc;obtain ⟨u,r,l⟩:=hl j x v q2 e2 q3;refine ⟨u,r,.inr ⟨q5,?_⟩⟩;rcases l with ⟨z,_⟩ | ⟨_,c,hc',hcell⟩
  ·exact absurd z q4
  ·obtain ⟨c',hc2⟩:=S.has x q5;have e:=S.sub x c' hc2;rw [hc'] at e; cases e;obtain ⟨o,ho,hd⟩:=hcell;exact ⟨c,hc2,o,k _ _ ho,hd⟩
 cell:=λ x c e=>by
  obtain ⟨v,o,ho,hd⟩:=I.cell x c (S.sub x c e);exact ⟨v,o,k _ _ ho,hd⟩
 free:=I.hok.fresh [19]
 freeC:=λ x c e=>I.freeC x c (S.sub x c e)
 pin:=λ p hp=>by
  have hp':p ∈ X.pn ++ pins:=by simpa using hp
  obtain ⟨h1,h2,h3,h4,h5⟩:=I.pin p hp';refine ⟨k _ _ h1,h2,Nat.ne_of_lt (Heap.lt_size h1),λ z=>?_,h5⟩;rcases List.mem_cons.mp (I.stkSub _ z) with z | z
  ·exact h3 z
  ·exact h4 z
 hok:=I.hok.kept k
 len:=by show (zo0 js σ).length=NN.length; unfold zo0; rw [length_map]; exact S.len
theorem xz3 {elt target:Expr} {g:TG} {tc:TT} {te:TE} (hc:X.calm=true) (S:CompSc X NN scope cl js) (hi:PI X target iter wi)
    (hg:∀ C fp s₀ H₀ pn,PG [14] target g) (ht:∀ C fp s₀ H₀ pn,PTs [14] ifs tc) (he:∀ C fp s₀ H₀ pn,PE [14] elt te)
    (hs:∀ x,foldedSetIterable iter X.env x=pure x):PE X [23] (xe2 js wi g tc te):=by
 intro pins s σ H Q I h;rw [eval_ListComp];refine wpAny_comprehension_free (use:=none) rfl hs S.clos S.kind S.names (thn (hi pins s σ H _ I h) λ xv s1 h1=>thn h1 λ itv s2 h2=>?_);obtain ⟨it,fp,tn,J,H2,rfl,I2,T,st2,f2,hW⟩:=h2;refine wpAny_newObj_type (wpAny_newFunctionEnv S.cell (by intro y hy; simp at hy) (λ h₁ hns₁ hsb₁=>?_) S.kind);dsimp only at hns₁ hsb₁ ⊢;have hD:H2 s2.heap.objs.size=none:=I2.hok.fresh [19]
 have I3:Inv X pins σ (upd H2 s2.heap.objs.size (.lst [])) { s2 with heap:=s2.heap.push [39] } :=
  I2.lnew (t':=s2.toks) (its:=[]) .nil (by rw [sizeLine_eq]; decide)
 generalize hsD:({ s2 with heap:=s2.heap.push [39] }:Shared)=sD at I3;have eh:sD.heap=s2.heap.push [39]:=by rw [<- hsD]
 have es:∀ (h:Heap) (tk:Nat),({ s2 with heap:=h,toks:=tk }:Shared)={ sD with heap:=h,toks:=tk }:=λ h tk=>by rw [<- hsD]
 have hsz:s2.heap.objs.size < sD.heap.objs.size:=by rw [eh,Heap.size_push]; exact Nat.lt_succ_self _
 rw [<- eh] at hns₁ hsb₁ ⊢;generalize hp0:s2.heap.objs.size=p0 at *;have up:∀ b u,s2.heap.get? b=some u->sD.heap.get? b=some u:=λ b u e=>by rw [eh]; exact Heap.get?_push_of_some _ e
 have k:∀ b u,sD.heap.get? b=some u->h₁.get? b=some u:=λ b u e=>hsb₁.extBut b u (Nat.ne_of_lt [102]) (Heap.get?_push_of_some _ e)
 have f3:∀ b ∈ fp,FpOk X pins (upd H2 p0 (.lst [])) b /\ b < sD.heap.objs.size:=λ b hb=>by
  obtain ⟨o,ho,_⟩:=T.obj 0 _ st2 b hb;have hlt:b < p0:=by rw [<- hp0]; exact Heap.lt_size ho
  refine ⟨⟨?_,(f2 b hb).2⟩,Nat.lt_trans hlt hsz⟩;rw [va0 (Nat.ne_of_lt hlt)]; exact (f2 b hb).1
 obtain ⟨W,⟨m0,w0⟩,turn⟩:=hW p0 hD;have I4:=zi1 (tk:=s2.toks + ([]:List (Str × Value)).length) hc S I3 f3 hns₁ k;have st4:tn 0 h₁:=T.keep 0 _ _ st2 λ b _ o e=>k b o (up b o e);rw [es];generalize hX':xc0 X NN scope cl sD.heap.objs.size fp sD (upd H2 p0 (.lst [])) (X.pn ++ pins)=X' at I4;have a1:X'.env=compEnvC scope cl sD.heap.objs.size X.env:=by rw [<- hX']
 have a2:X'.prog=X.prog:=by rw [<- hX']
 have a3:X'.w=X.w:=by rw [<- hX']
 have a4:X'.A=X.A:=by rw [<- hX']
 have a5:X'.K=X.K:=by rw [<- hX']
 have a6:X'.calm=true:=by rw [<- hX']; exact hc
 have a7:X'.xe=λ _ _=>False:=by rw [<- hX']
 have a8:X'.ex=fp:=by rw [<- hX']
 have T':Turn X'.prog X'.w X'.K target J fp it tn:=by rw [a2,a3,a5]; exact T
 have hg':PG X' target g:=by rw [<- hX']; exact hg _ _ _ _ _
 have ht':PTs X' ifs tc:=by rw [<- hX']; exact ht _ _ _ _ _
 have he':PE X' elt te:=by rw [<- hX']; exact he _ _ _ _ _
 have fin:∀ {σ':L2.St} {H':Hp} {s':[88]},Inv X' [] σ' H' s'->Q (.ref p0) H'->compPost [11] X.A X.xe none (EP X pins σ Q) (.ref p0) sD.heap.objs.size (.ok .next) s':=λ {σ' H' s'} I' q=>by
  obtain ⟨m',hn',_⟩:=I'.loc;rw [a1] at hn';refine ⟨m',hn',λ h' sb=>?_⟩
  have u:Un (frs X.stack) fp (upd H2 p0 (.lst [])) H' sD.heap s'.heap:=by
   have:=I'.base;rw [<- hX'] at this;exact this
  have hch:∀ b ∈ fp,(b ∈ X.ex \/ X.s₀.heap.objs.size<=b) /\ b ≠ X.env.locals /\ (∀ x c,X.env.cells.lookup x=some c->c ≠ b) /\ ∀ p ∈ X.pn ++ pins,p.1 ≠ b:=λ b hb=>by
   obtain ⟨_,z1,_,z3,z4,z5⟩:=(f3 b hb).1;exact ⟨z3,z1,z4,z5⟩
  have os':s'.os=sD.os:=by
   have:=I'.os;rw [<- hX'] at this;exact this
  have hok':HOk X.prog X.w H' s'.heap:=by
   have:=I'.hok;rw [<- hX'] at this;exact this
  have I5:Inv X pins σ H' s':=I3.call' os' u hok' I'.bare hch
  have hC:H' sD.heap.objs.size=none:=by
   have:=I'.free;rw [a1] at this;exact this
  refine ⟨.ref p0,H',I5.turned (t':=s'.toks) (it:=sD.heap.objs.size) (λ b o hb e=>sb.extBut b o hb e) hC (Nat.ne_of_gt I3.lt) (.inr I3.sz) (λ x c e=>?_) (λ p hp=>?_),rfl,q⟩
  ·obtain ⟨v,o,ho,_⟩:=I3.cell x c e;exact Nat.ne_of_lt (Heap.lt_size ho)
  ·exact Nat.ne_of_lt (Heap.lt_size (I3.pin p hp).1)
 have fp4:∀ {H':Hp},(∀ b ∈ fp,H' b=none)->∀ b ∈ fp,FpOk X' [] H' b:=λ hn b hb=>by
  obtain ⟨_,z1,z2,z3,z4,z5⟩:=(f3 b hb).1;rw [<- hX'];refine ⟨hn b hb,Nat.ne_of_lt (f3 b hb).2,λ z=>?_,.inl hb,λ x c e=>z4 x c (S.sub x c e),λ p hp=>z5 p (by simpa using hp)⟩;rcases List.mem_cons.mp (I3.stkSub _ z) with z | z
  ·exact z1 z
  ·exact z2 z
 have loop:∀ s₃:Shared,Inv X' [] (zo0 js σ) (upd H2 p0 (.lst [])) s₃->tn 0 s₃.heap ->
     codeAny [11] X.A (.compLoop [23] 0 (.ref it) (.ref p0) [84]) (compPost [11] X.A X.xe none (EP X pins σ Q) (.ref p0) sD.heap.objs.size) s₃:=by
  intro s₃ I₃ st₃;refine codeAny_loop rfl (λ n s'=>∃ i σ' H',Inv X' [] σ' H' s' /\ tn i s'.heap /\ (∀ b ∈ fp,H' b=none) /\ W i n σ' H') (λ n s' hI=>?_) m0 ⟨0,zo0 js σ,_,I₃,st₃,λ b hb=>(f3 b hb).1.1,w0⟩;obtain ⟨i,σ3,H3,J3,st3,fr3,w3⟩:=hI;have tr:=turn i n σ3 H3 w3;show wpAny _ X.A ((compTurn [23] 0 (.ref it) (.ref p0) [84]).onRaise (λ x=>do noteFrame x [84]; theTreesLotGoes x)) _ _ s';refine wpAny_noted ?_;rw [compTurn_list,<- a1,<- a2,<- a3,<- a4];have nof:∀ {α:Type} {t:Sem α} {Q':α->Shared->Prop} {s'':[88]} {E:[9]},wpAny (model X'.prog X'.w) X'.A t Q' X'.xe s''->wpAny (model X'.prog X'.w) X'.A t Q' E s'':=λ h=>wpAny_mono h (λ _ _ q=>q) λ _ _ z=>by rw [a7] at z; exact z.elim
  rcases tr with ⟨stop,qn⟩ | ⟨go,step⟩
  ·refine wpAny_bind (wpAny_standAt (wpAny_bind (nof (thn (T'.done X' rfl rfl rfl a6 i [] s' σ3 H3 X'.xe J3 (fp4 fr3) st3 stop) λ r s4 ⟨hr,J4⟩=>?_))));subst hr;exact wpAny_pure (fin J4 qn)
  ·refine wpAny_bind (wpAny_standAt (wpAny_bind (nof (thn (T'.item X' rfl rfl rfl a6 i [] s' σ3 H3 X'.xe J3 (fp4 fr3) st3 go) λ r s4 ⟨u,hr,h4⟩=>?_))));subst hr;refine wpAny_bind (nof (thn h4 λ _ s5 ⟨x,H5,I5,r5,y5,st5,fr5⟩=>?_));have I5':=I5.pinned (fp4 fr5) (T.obj _ _ st5);refine wpAny_bind (nof (thn (hg' _ s5 σ3 H5 x u _ I5' r5 (step x H5 y5)) λ _ s6 ⟨σ6,H6,I6,q6⟩=>?_));refine wpAny_bind (nof (thn (ht' _ s6 σ6 H6 _ I6 q6) λ ok s7 ⟨H7,I7,q7⟩=>?_))
   have again:∀ {s8:[88]} {σ8:L2.St} {H8:Hp},Inv X' ([] ++ xx0 fp s5.heap) σ8 H8 s8->(∃ m',m' < n /\ W (i + 1) m' σ8 H8)->∃ m,m < n /\ ∃ i σ' H',Inv X' [] σ' H' s8 /\ tn i s8.heap /\ (∀ b ∈ fp,H' b=none) /\ W i m σ' H':=λ {s8 σ8 H8} I8 ⟨m',hm,w8⟩=>by
    refine ⟨m',hm,i + 1,σ8,H8,I8.unpinned,T.keep _ _ _ st5 λ b hb o e=>(I8.pin (b,o) [65]).1,λ b hb=>?_,w8⟩;obtain ⟨o,e,d⟩:=T.obj _ _ st5 b hb;exact (I8.pin (b,o) [65]).2.1
   cases ok with
   | false=>exact wpAny_pure ⟨rfl,again I7 q7⟩
   | true =>
    refine wpAny_bind (wpAny_bind (nof (thn (he' _ s7 σ6 H7 _ I7 q7) λ xv s8 ⟨y,H8,I8,r8,ys,q8,hlen,q9⟩=>wpAny_bind (nof ?_))));refine thn (us0 (X:=X') _ s8 σ6 H8 (.ref p0) [y] (.ref p0) [xv] (λ v H9=>v=.non /\ H9=upd H8 p0 (.lst (ys ++ [y]))) I8 rfl (.cons r8 .nil) ⟨p0,ys,y,rfl,rfl,q8,hlen,rfl,rfl⟩) λ rv s9 ⟨v9,H9,I9,_,_,e9⟩=>?_;subst e9;exact wpAny_pure (wpAny_pure ⟨rfl,again I9 q9⟩)
 exact codeAny_compStart_list (loop _ I4 st4) (T.self X.A 0 _ _ _ st4 (loop _ I4 st4))
end
theorem bz_len:bootBuiltins "len" = some (.builtin "len"):=by decide +kernel
theorem bz_abs:bootBuiltins "abs" = some (.builtin "abs"):=by decide +kernel
theorem zd1:bootBuiltins "isinstance" = some (.builtin "isinstance"):=by decide +kernel
theorem bz_sum:bootBuiltins "sum" = some (.builtin "sum"):=by decide +kernel
theorem ss1:bootBuiltins "tuple" = some (.type "tuple"):=by decide +kernel
theorem yn3:bootBuiltins "int" = some (.type "int"):=by decide +kernel
theorem bz_str:bootBuiltins "str" = some (.type "str"):=by decide +kernel
theorem vf4:bootBuiltins "list" = some (.type "list"):=by decide +kernel
theorem uf4:bootBuiltins "dict" = some (.type "dict"):=by decide +kernel
theorem bz_set:bootBuiltins "set" = some (.type "set"):=by decide +kernel
theorem bz_all:bootBuiltins "all" = some (.builtin "all"):=by decide +kernel
theorem bz_min:bootBuiltins "min" = some (.builtin "min"):=by decide +kernel
theorem sq2:bootBuiltins "sorted" = some (.builtin "sorted"):=by decide +kernel
theorem yn1:bootBuiltins "reversed" = some (.type "reversed"):=by decide +kernel
def RTs (X:Cx) (ifs:List Expr) (t:TT3):Prop:=∃ tv,PTs X ifs tv /\ RdT X.K tv t
theorem ut3:RTs X [] tt3:=⟨_,tw3,λ σ H Q ρ μ Q3 s m h k=>k _ _ _ h [37] m⟩
theorem zb3 {ρ:St3} (s:RSt K H ρ σ) (js:List (Option Nat)):RSt K H (js.map λ j=>j.bind (getI ρ)) (zo0 js σ):=by
 refine ⟨by simp [zo0],λ i d e=>?_⟩;rw [vm1,getElem?_map] at e;unfold zo0;rw [getElem?_map];cases q:js[i]? with
 | none=>rw [q] at e; cases e
 | some o =>
  rw [q] at e;cases o with
  | none=>simp at e
  | some j =>
   have e':getI ρ j=some d:=by simpa using e
   obtain ⟨v,h1,h2⟩:=s.at' j d e';exact ⟨v,by simp [h1],h2⟩
theorem RdE.comp {g:TG} {tc:TT} {te:TE} {g3:TG3} {tc3:TT3} {te3:TE3} (ri:RdI K wi ti) (rg:RdG K g g3) (rt:RdT K tc tc3) (re:RdE K te te3):RdE K (xe2 js wi g tc te) (comp3 js ti g3 tc3 te3):=by
 intro σ H Q ρ μ Q3 s m h k;refine ri σ H _ ρ μ _ s m h λ l S μ1 J H1 h1 k1 m1 ok p hp=>?_;obtain ⟨W,w0,hS,hn,hs⟩:=h1 p (m1.free hp);have kn:Kp H1 (upd H1 p (.lst [])):=Kp.new hp;refine ⟨λ i n σ2 H2=>n=l.length - i /\ i<=l.length /\ ∃ ρ2 μ2 ys,RSt K H2 ρ2 σ2 /\ RelM K μ2 H2 /\ Kp H1 H2 /\ W (l.drop i) ys ρ2 μ2,⟨l.length,rfl,Nat.zero_le _,_,_,[],(zb3 [90] js).mono kn,m1.newL hp .nil,kn,w0⟩,?_⟩;rintro i n σ2 H2 ⟨rfl,hi,ρ2,μ2,ys,s2,m2,k2,w2⟩;obtain ⟨hS2,hp2⟩:=hS _ _ _ _ w2;by_cases hlt:i < l.length
 ·rw [List.drop_eq_getElem_cons hlt] at w2;obtain ⟨hz,h2⟩:=hs _ _ _ _ _ w2;obtain ⟨ok1,_⟩:=ok i H2 μ2 k2 m2 hS2;obtain ⟨go,yl⟩:=ok1 l[i] (getElem?_eq_getElem hlt);refine .inr ⟨go,λ x H3 y=>?_⟩;obtain ⟨k3,m3,r3⟩:=yl x H3 y;refine rg x l[i] σ2 H3 _ ρ2 μ2 _ (s2.mono k3) m3 r3 h2 λ ρ4 μ4 σ4 H4 h4 k4 s4 m4=>?_;refine rt σ4 H4 _ ρ4 μ4 _ s4 m4 h4 λ b μ5 H5 h5 k5 m5=>?_;have k15:Kp H1 H5:=k2.trans (k3.trans (k4.trans k5));cases b with
  | false=>exact ⟨l.length - (i + 1),by omega,rfl,hlt,ρ4,μ5,ys,s4.mono k5,m5,k15,h5⟩
  | true =>
   refine re σ4 H5 _ ρ4 μ5 _ (s4.mono k5) m5 h5 λ d μ6 v H6 h6 k6 r6 m6=>?_;obtain ⟨vs,hv,rv⟩:=m6 p ys h6.1;refine ⟨vs,hv,by rw [<- rv.length]; exact hz,l.length - (i + 1),by omega,rfl,hlt,ρ4,_,_,((s4.mono k5).mono k6).mono (Kp.wr hv),m6.wr hv (rv.append (.cons r6 .nil)),(k15.trans k6).trans (Kp.wr hv),h6.2⟩
 ·have e:i=l.length:=by omega
  subst e;rw [List.drop_length] at w2;exact .inl ⟨(ok _ H2 μ2 k2 m2 hS2).2 [19],k _ _ _ _ (hn _ _ _ w2) (k1.trans k2) [43] m2⟩
section
variable {elt target:Expr} 
theorem sz0 (hc:X.calm=true) (S:CompSc X NN scope cl js) (hi:RI X target iter ti) (hg:∀ C fp s₀ H₀ pn,RG [14] target g)
    (ht:∀ C fp s₀ H₀ pn,RTs [14] ifs tc) (he:∀ C fp s₀ H₀ pn,RE [14] elt te)
    (hs:∀ x,foldedSetIterable iter X.env x=pure x):RE X [23] (comp3 js ti g tc te):=by
 obtain ⟨wi,pi,ri⟩:=hi
 let gU:TG:=λ v σ H Q=>∀ (r:TG3),r=g->∃ d ρ μ Q3,RSt X.K H ρ σ /\ RelM X.K μ H /\ RelD X.K H d v /\ g d ρ μ Q3 /\ (∀ ρ' μ' σ' H',Q3 ρ' μ'->Kp H H'->RSt X.K H' ρ' σ'->RelM X.K μ' H'->Q σ' H')
 let tU:TT:=λ σ H Q=>∃ ρ μ Q3,RSt X.K H ρ σ /\ RelM X.K μ H /\ tc ρ μ Q3 /\ (∀ b μ' H',Q3 b μ'->Kp H H'->RelM X.K μ' H'->Q b H')
 let eU:TE:=λ σ H Q=>∃ ρ μ Q3,RSt X.K H ρ σ /\ RelM X.K μ H /\ te ρ μ Q3 /\ Ks X.K H Q3 Q
 have hg':∀ C fp s₀ H₀ pn,PG [14] target gU:=λ C fp s₀ H₀ pn=>by
  obtain ⟨tv,p,r⟩:=hg C fp s₀ H₀ pn;intro pins s σ H v u Q I rv h;obtain ⟨d,ρ,μ,Q3,a1,a2,a3,a4,a5⟩:=h g rfl;exact p pins s σ H v u Q I rv (r v d σ H Q ρ μ Q3 a1 a2 a3 a4 a5)
 have ht':∀ C fp s₀ H₀ pn,PTs [14] ifs tU:=λ C fp s₀ H₀ pn=>by
  obtain ⟨tv,p,r⟩:=ht C fp s₀ H₀ pn;intro pins s σ H Q I h;obtain ⟨ρ,μ,Q3,a1,a2,a3,a4⟩:=h;exact p pins s σ H Q I (r σ H Q ρ μ Q3 a1 a2 a3 a4)
 have he':∀ C fp s₀ H₀ pn,PE [14] elt eU:=λ C fp s₀ H₀ pn=>by
  obtain ⟨tv,p,r⟩:=he C fp s₀ H₀ pn;intro pins s σ H Q I h;obtain ⟨ρ,μ,Q3,a1,a2,a3,a4⟩:=h;exact p pins s σ H Q I (r σ H Q ρ μ Q3 a1 a2 a3 a4)
 exact ⟨_,xz3 hc S pi hg' ht' he' hs,RdE.comp ri (λ v d σ H Q ρ μ Q3 a1 a2 a3 a4 a5 _ _=>⟨d,ρ,μ,Q3,a1,a2,a3,a4,a5⟩) [101] [101]⟩
theorem xa1 (hf:∀ y ∈ scope.names,y.2 ≠ .free) (hcl:∀ y ∈ scope.names,y.2 ≠ .cell) (hn:∀ y ∈ scope.names,y.2=.local->scope.names.lookup y.1=some .local) (hi:RI X target iter ti) (hg:∀ C fp s₀ H₀ pn,RG (xc0 X NN scope [] C fp s₀ H₀ pn) target g)
    (ht:∀ C fp s₀ H₀ pn,RTs (xc0 X NN scope [] C fp s₀ H₀ pn) ifs tc) (he:∀ C fp s₀ H₀ pn,RE (xc0 X NN scope [] C fp s₀ H₀ pn) elt te) (hc:X.calm=true:=by rfl) (hk:scope.kind=.function:=by rfl)
    (hs:∀ x,foldedSetIterable iter X.env x=pure x:=by intro _; rfl):RE X [23] (comp3 (NN.map λ _=>none) ti g tc te) :=
 sz0 hc (CompSc.closed hf hcl hk hn) hi hg ht he hs
end
mutual
inductive TupK (K:Fg):List D->Addr->Prop where
 | mk {a:Addr} {l:List D} {its:Array Value} {n:Nat} {od:Option Addr} {sl:Array (Option Value)}:K.lookup a=some ⟨.type "tuple",od,.seq its n,sl⟩->its.size<=sizeLine->ItK K l its.toList->TupK K l a
inductive ItK (K:Fg):List D->List Value->Prop where
 | nil:ItK K [] []
 | int {i:Int} {t:Tok} {l:List D} {us:List Value}:ItK K l us->ItK K (.int i :: l) (.int i t :: us)
 | str {x:Str} {t:Tok} {l:List D} {us:List Value}:ItK K l us->ItK K (.str x :: l) (.str x t :: us)
 | bl {b:Bool} {l:List D} {us:List Value}:ItK K l us->ItK K (.bl b :: l) (.bool b :: us)
 | tup {a:Addr} {l' l:List D} {us:List Value}:TupK K l' a->ItK K l us->ItK K (.ktp l' :: l) (.ref a :: us)
end
mutual
theorem TupK.rel {K:Fg}:∀ {l:List D} {a:Addr},TupK K l a->∀ H,RelD K H (.ktp l) (.ref a)
 | _,_,.mk h1 h2 h3,H=>by
  obtain ⟨vs,r,rd⟩:=h3.rel;exact .ktp (.inr ⟨_,_,_,h1,rfl,rfl,h2,r⟩) (rd H)
theorem ItK.rel {K:Fg}:∀ {l:List D} {us:[27]},ItK K l us->∃ vs,Vals vs us /\ ∀ H,RelDs K H l vs
 | _,_,.nil=>⟨[],.nil,λ _=>.nil⟩
 | _,_,.int h=>let ⟨vs,r,rd⟩:=h.rel; ⟨_,.cons (show RelV (.int _) _ from ⟨_,rfl⟩) r,λ H=>.cons (.int _) (rd H)⟩
 | _,_,.str h=>let ⟨vs,r,rd⟩:=h.rel; ⟨_,.cons (show RelV (.str _) _ from ⟨_,rfl⟩) r,λ H=>.cons (.str _) (rd H)⟩
 | _,_,.bl h=>let ⟨vs,r,rd⟩:=h.rel; ⟨_,.cons (show RelV (.bl _) _ from rfl) r,λ H=>.cons (.bl _) (rd H)⟩
 | _,_,.tup h0 h=>let ⟨vs,r,rd⟩:=h.rel; ⟨_,.cons (show RelV (.ref _) _ from rfl) r,λ H=>.cons (h0.rel H) (rd H)⟩
end
section
variable {h:Heap} 
theorem xy0 {t:Tok} (X:K.In h) (G:h.Ns mainGlobals mg) (e:nsIn K mainGlobals x=some (some (.int i t))):Gd K mg x (.int i):=⟨_,.int i,mg_of X G e,⟨_,rfl⟩,λ _=>.int i⟩
theorem sx0 {i:Str} {t:Tok} (X:K.In h) (G:h.Ns mainGlobals mg) (e:nsIn K mainGlobals x=some (some (.str i t))):Gd K mg x (.str i):=⟨_,.str i,mg_of X G e,⟨_,rfl⟩,λ _=>.str i⟩
theorem zs1 {a:Addr} {l:List D} (X:K.In h) (G:h.Ns mainGlobals mg) (e:nsIn K mainGlobals x=some (some (.ref a))) (r:TupK K l a):Gd K mg x (.ktp l):=⟨_,.ref a,mg_of X G e,rfl,λ H=>r.rel H⟩
end
theorem yh1 {K:Fg} {H:Hp}:∀ ns:List Int,RelDs K H (ns.map D.int) (ns.map V.int)
 | []=>.nil
 | n :: r=>.cons (.int n) (yh1 r)
theorem ya3 {a:Addr} {ns:List Int} (hO:Only H) (hS:SqL K H a (ns.map V.int)) (h:sp [.fls (ns.map D.int)] (λ _=>none) (λ d _=>d=.bl true)) :
    lift K sp [.ref a] H (λ v _=>v=.bl true) λ _ _ _=>False:=by
 have hF:SqF K H a (ns.map V.int):=by
  rcases hS with (h1 | ⟨o,h1⟩) | h1
  ·rcases hO a with z | ⟨o,xs,z⟩
   ·rw [h1] at z; cases z
   ·rw [h1] at z; cases z
  ·exact .inl ⟨o,h1⟩
  ·exact .inr h1
 refine ⟨_,_,_,.cons (.fls hF (yh1 ns)) .nil,(⟨λ p xs e=>(by cases e),λ p c fs e=>(by cases e),λ p kvs e=>(by cases e)⟩),h,λ d μ' v H' q _ r _=>?_⟩;subst q;cases r;rfl
open PySem.AutoSeq1 (wpAny_loadPart')
theorem tj1 (l:Addr) (items:Array Value) (n:Nat) (dd:Option Addr) (sl:[64]) (x:Int) (u:Tok) (hc0:(decide (x < -(2 ^ 63)) || decide (x ≥ 2 ^ 63))=false) (hc1:(items.isEmpty || x == 1)=true) :
    Meets (Builtin.«tuple.__mul__» ⟨[.ref l,.int x u],[]⟩) (λ _ R s=>s.heap.get? l=some { cls:=.type "tuple",dict:=dd,data:=.seq items n,slots:=sl } /\ R (.ok (.ret (.ref l))) s) :=
 .of_wp λ prog w A R s h=>by
  obtain ⟨hp,g,d,tk,os⟩:=s; obtain ⟨hl,h⟩:=h;have f1:=AutoSeq1.idx_int;have f2:=AutoSeq1.sub_tuple_tuple
  wp_walk using wpAny_loadPart' hl
  refine wpAny_ite_false (decide_eq_false (by rw [hc0]; exact Bool.false_ne_true)) ?_
  wp_walk using wpAny_loadPart' hl
  exact ⟨_,rfl,h⟩
theorem uj1 (l:Addr) (items:Array Value) (n:Nat) (dd:Option Addr) (sl:[64]) (x:Int) (u:Tok) (hc0:(decide (x < -(2 ^ 63)) || decide (x ≥ 2 ^ 63))=false) (hc1:(items.isEmpty || x == 1)=false) (hc2:(decide (x<=0) || items.isEmpty)=true) :
    Meets (Builtin.«tuple.__mul__» ⟨[.ref l,.int x u],[]⟩) (λ _ R s=>s.heap.get? l=some { cls:=.type "tuple",dict:=dd,data:=.seq items n,slots:=sl } /\ R (.ok (.ret [70])) { s with heap:=s.heap.push { cls:=.type "tuple",data:=.seq #[] } }) :=
 .of_wp λ prog w A R s h=>by
  obtain ⟨hp,g,d,tk,os⟩:=s; obtain ⟨hl,h⟩:=h;have f1:=AutoSeq1.idx_int;have f2:=AutoSeq1.sub_tuple_tuple
  wp_walk using wpAny_loadPart' hl
  refine wpAny_ite_false (decide_eq_false (by rw [hc0]; exact Bool.false_ne_true)) ?_
  wp_walk using wpAny_loadPart' hl
  exact ⟨_,rfl,h⟩
theorem vj1 (l:Addr) (items:Array Value) (n:Nat) (dd:Option Addr) (sl:[64]) (x:Int) (u:Tok) (hc0:(decide (x < -(2 ^ 63)) || decide (x ≥ 2 ^ 63))=false) (hc1:(items.isEmpty || x == 1)=false) (hc2:(decide (x<=0) || items.isEmpty)=false)
    (hc3:¬ ((items.size:Int) * x > (2 ^ 63 - 1) / 8)) (hc4:Builtin.Tuple.tupleTooMany ((items.size:Int) * x)=false) (hz:((List.replicate x.toNat items).foldl (· ++ ·) #[]).size<=sizeLine) :
    Meets (Builtin.«tuple.__mul__» ⟨[.ref l,.int x u],[]⟩) (λ _ R s=>s.heap.get? l=some { cls:=.type "tuple",dict:=dd,data:=.seq items n,slots:=sl } /\ R (.ok (.ret [70])) { s with heap:=s.heap.push { cls:=.type "tuple",data:=.seq ((List.replicate x.toNat items).foldl (· ++ ·) #[]) } }) :=
 .of_wp λ prog w A R s h=>by
  obtain ⟨hp,g,d,tk,os⟩:=s; obtain ⟨hl,h⟩:=h;have f1:=AutoSeq1.idx_int;have f2:=AutoSeq1.sub_tuple_tuple
  wp_walk using wpAny_loadPart' hl
  refine wpAny_ite_false (decide_eq_false (by rw [hc0]; exact Bool.false_ne_true)) ?_
  wp_walk using wpAny_loadPart' hl
  refine wpAny_ite_false (decide_eq_false hc3) ?_
  wp_walk using wpAny_loadPart' hl
  all_goals try (refine wpAny_ite_false (decide_eq_false (by rw [hc4]; exact Bool.false_ne_true)) ?_)
  have hsz:((List.replicate x.toNat items).foldl (· ++ ·) #[]).size<=sizeLine:=hz
  wp_walk using wpAny_loadPart' hl
  exact ⟨_,rfl,h⟩
theorem zs0:fillsNumberSlot (.type "tuple") "mul" = pure false :=
 PySem.fillsNumberSlot_seq (id := "tuple.__mul__") (r:=some (.builtin "tuple.__rmul__")) F.slot_tuple_mul.lookup [55] F.slot_tuple_rmul.lookup [55]
theorem tr0:seqRepeat? (.type "tuple")=pure (some (.builtin "tuple.__mul__")):=by
 unfold seqRepeat?;rw [PySem.seqSlot_of F.slot_tuple_mul.lookup (T := "tuple") (name := "__mul__") (id := "tuple.__mul__") [55],PySem.seqSlot_of F.slot_tuple_rmul.lookup (T := "tuple") (name := "__rmul__") (id := "tuple.__rmul__") [55]];rfl
theorem tv0 (a:Int) (t:Tok) (l:Addr) (its:Array Value) (n:Nat) (dd:Option Addr) (sl:[64]) :
    Meets (Builtin.«int.__rmul__» ⟨[.int a t,.ref l],[]⟩) (λ _ R s=>s.heap.get? l=some ⟨.type "tuple",dd,.seq its n,sl⟩ /\ R (.ok (.ret .notImplemented)) s) :=
 .of_wp λ prog w A R s h=>by
  obtain ⟨hp,g,d,tk,os⟩:=s;obtain ⟨hl,h⟩:=h
  wp_walk using wpAny_loadPart' hl
  exact ⟨_,rfl,h⟩
section
def rRepT (K:Fg):R2:=λ x y H Q=>∃ a k xs,x=.ref a /\ y=.int k /\ SqT K H a xs /\ -(2 ^ 62)<=k /\ k < 2 ^ 62 /\ xs.length * k.toNat<=1000000 /\ (xs=[] \/ k=1->Q (.ref a) H) /\ ∀ p,H p=none->Q [43] (upd H p (.tup (List.replicate k.toNat xs).flatten))
theorem op_repT:OpR X (binaryOp .Mult) (rRepT X.K):=by
 intro pins s σ H x y v u Q I rx ry h;obtain ⟨a,k,xs,rfl,rfl,hq,h1,h2,hz,q1,q2⟩:=h;cases rx;obtain ⟨t,rfl⟩:=ry;obtain ⟨its,r,⟨⟨cls,dd,data,sl⟩,ho,hc,n,hd⟩,hl⟩:=I.tuple hq;simp only at hc hd;subst hc hd;have hlen:its.length=xs.length:=r.length.symm
 have c0:(decide (k < -(2 ^ 63)) || decide (k ≥ 2 ^ 63))=false:=by
  rw [decide_eq_false [7],decide_eq_false [7]]; rfl
 refine wpAny_binaryOp_repeat_ref (T := "tuple") (U := "int") [8] ⟨_,ho,rfl⟩ (λ s'=>typeIs_int s' k t) zs0 F.fills_int_mul F.slot_int_rmul tr0 F.slot_int_index.lookup
  (call_meets F.slot_int_rmul (typeIs_int s k t) F.entry_int_rmul (F.args_int_rmul_2 _ _) (tv0 k t a its.toArray n dd sl) ⟨ho,rfl,⟨_,ho,rfl⟩,?_⟩)
 by_cases e1:xs=[] \/ k=1
 ·refine call_meets F.slot_tuple_mul ⟨_,ho,rfl⟩ F.entry_tuple_mul (F.args_tuple_mul_2 _ _) (tj1 a its.toArray n dd sl k t c0 ?_) ⟨ho,⟨.ref a,H,I,rfl,q1 e1⟩⟩;rcases e1 with e1 | e1
  ·subst e1; cases r; rfl
  ·subst e1; simp
 ·have hne:its ≠ []:=λ z=>e1 (.inl (by subst z; cases r; rfl));have hk1:k ≠ 1:=λ z=>e1 (.inr z);have c1:(its.toArray.isEmpty || k == 1)=false:=by simp [hne,hk1]
  have hf:H s.heap.objs.size=none:=I.hok.fresh [19];by_cases e2:k<=0
  ·have hk0:k.toNat=0:=by omega
   refine call_meets F.slot_tuple_mul ⟨_,ho,rfl⟩ F.entry_tuple_mul (F.args_tuple_mul_2 _ _) (uj1 a its.toArray n dd sl k t c0 c1 (by simp [e2])) ⟨ho,?_⟩;refine ⟨.ref _,upd H s.heap.objs.size (.tup []),I.laid (t':=s.toks) (λ b ob q=>Heap.get?_push_of_some _ q) [19] ⟨by rw [sizeLine_eq]; decide,[],.nil,IsTup.new _ _⟩,rfl,?_⟩;have:=q2 _ hf;rw [hk0] at this;exact this
  ·have fr:List.foldl (· ++ ·) #[] (List.replicate k.toNat its.toArray)=(List.replicate k.toNat its).flatten.toArray:=by
     have:=ut0 its k.toNat [];rw [nil_append] at this;exact this
   have hb:(1000000:Nat)<=sizeLine:=by rw [sizeLine_eq]; decide
   have hm:(its.toArray.size:Int) * k<=1000000:=by
    rw [size_toArray,hlen];have:((xs.length * k.toNat:Nat):Int)<=1000000:=by omega
    rw [Int.natCast_mul,Int.toNat_of_nonneg [7]] at this;exact this
   have hsz:(List.replicate k.toNat its).flatten.length<=sizeLine:=by rw [ul1,Nat.mul_comm,hlen]; omega
   refine call_meets F.slot_tuple_mul ⟨_,ho,rfl⟩ F.entry_tuple_mul (F.args_tuple_mul_2 _ _) (vj1 a its.toArray n dd sl k t c0 c1 (by simp [hne]; omega) [7] ?_ (by rw [fr,size_toArray]; exact hsz)) ⟨ho,?_⟩
   ·unfold Builtin.Tuple.tupleTooMany;rw [decide_eq_false [7]]
   ·rw [fr];refine ⟨.ref _,upd H s.heap.objs.size (.tup (List.replicate k.toNat xs).flatten),I.laid (t':=s.toks) (λ b ob q=>Heap.get?_push_of_some _ q) [19] ⟨?_,_,r.rep k.toNat,IsTup.new _ _⟩,rfl,q2 _ hf⟩;rw [ul1,Nat.mul_comm]; omega
theorem q_mul:RO X (binaryOp .Mult) mulR:=by
 refine ⟨_,op_mulB.or (op_repT.or op_rep),λ x y v u H Q μ Q3 m rx ry h k=>?_⟩;cases ry with
 | int j =>
  cases rx with
  | int i=>exact .inl ⟨i,j,rfl,rfl,h.1,k _ _ _ _ h.2 [37] (.int _) m⟩
  | tup hq rs =>
   rename_i a l vs;refine .inr (.inl ⟨a,j,vs,rfl,rfl,(SqT.of hq),h.1.1.1,h.1.1.2,by rw [<- rs.length]; exact h.1.2,λ e=>?_,λ p hp=>?_⟩)
   ·rcases e with e | e
    ·subst e; cases rs;have h2:=h.2;have e:(List.replicate j.toNat ([]:List D)).flatten=[]:=by simp
     rw [e] at h2;exact k _ _ _ _ h2 [37] (.tup hq .nil) m
    ·subst e;have h2:=h.2;have e:(List.replicate (1:Int).toNat l).flatten=l:=by simp
     rw [e] at h2;exact k _ _ _ _ h2 [37] (.tup hq rs) m
   ·exact k _ _ _ _ h.2 (Kp.new hp) (.tup zb0 ((rs.rep _).mono (Kp.new hp))) (m.newT hp)
  | ref p =>
   dsimp only [mulR] at h;cases e:μ p with
   | none=>rw [e] at h; exact h.elim
   | some oo =>
    cases oo with
    | ins _ _=>rw [e] at h; exact h.elim
    | dck _=>rw [e] at h; exact h.elim
    | lst l =>
     rw [e] at h;obtain ⟨vs,hv,rv⟩:=m p l e;have hb:(1000000:Nat)<=sizeLine:=by rw [sizeLine_eq]; decide
     refine .inr (.inr ⟨p,j,vs,rfl,rfl,hv,by have:=h.1.1.1; omega,by have:=h.1.1.2; omega,by rw [<- rv.length]; exact Nat.le_trans h.1.2 hb,λ t ht=>?_⟩);exact k _ _ _ _ (h.2 t (m.free ht)) (Kp.new ht) (.ref t) (m.newL ht (rv.rep _))
  | _=>exact False.elim h
 | _=>cases rx <;> exact False.elim h
theorem vq2:CallR X (.type "int") (λ xs H Q=>∃ z n,xs=[.str z] /\ PySem.intText? z=some n /\ z.length<=640 /\ Q (.int n) H):=by
 intro pins s σ H xs us Q I r h;obtain ⟨z,n,rfl,e,hl,q⟩:=h;obtain ⟨u,rfl,t,rfl⟩:=zr0 r;exact PySem.W.KIN.call_text e hl ⟨.int n,H,I.tok _,⟨_,rfl⟩,q⟩
theorem q_int:RC X (.type "int") intR:=by
 refine ⟨_,call_int1.or vq2,λ xs vs H Q μ Q3 m r h k=>?_⟩;cases r with
 | nil=>exact False.elim h
 | cons r1 r2 =>
  cases r2 with
  | cons _ _=>cases r1 <;> exact False.elim h
  | nil =>
   cases r1 with
   | int i=>exact .inl (.inl ⟨i,rfl,k _ _ _ _ h [37] (.int _) m⟩)
   | bl b=>exact .inl (.inr ⟨b,rfl,k _ _ _ _ h [37] (.int _) m⟩)
   | str z =>
    dsimp only [intR] at h;cases e:PySem.intText? z with
    | none=>rw [e] at h; exact h.elim
    | some n =>
     rw [e] at h;exact .inr ⟨z,n,rfl,e,h.1,k _ _ _ _ h.2 [37] (.int _) m⟩
   | _=>exact False.elim h
theorem zd2 {prog:[83]} {E:[9]} {t sl:Addr} {items:Array Value} {vl vu:Value} {lo hi:Option Int} {Q:[9]} (ht:IsTup s.heap t items) (hs:s.heap.IsSliceOf sl vl vu .none) (pl:IsPart vl lo) (pu:IsPart vu hi)
    (hw:HT.sIx items.size 0 lo=0 /\ HT.sIx items.size items.size hi=items.size) (h:Q (.ref t) s):wpAny [13] A (getItem (.ref t) (.ref sl)) Q E s:=by
 obtain ⟨os,hos,hcs,hds⟩:=id hs;have hTs:s.TypeIs (.ref sl) "slice" := ⟨os,hos,hcs⟩;unfold getItem
 try with_reducible refine wpAny_holding ?_
 first | refine wpAny_bind [35] | skip
 refine wpAny_bind (wpAny_sequenceKey ht.typeIs [8] ?_);refine wpAny_bind (wpAny_callSpecial?_slot ht.typeIs (name:=Str.ofString "__getitem__") PyProof.Rows.slot_tuple_getitem (wpAny_call_entry PyProof.Rows.slot_tuple_getitem ht.typeIs entry_tuple_getitem ?_ (args_tuple_getitem _ _)));show wpAny _ _ (Builtin.Tuple.tupleItemsOf (.ref t) >>= _) _ _ s;refine wpAny_bind (tupleItemsOf_ ht ?_);refine wpAny_bind (wpAny_typeOf hTs ?_);rw [if_pos [8]];refine wpAny_bind (HT.sliceApplied_gen hs pl pu ?_);rw [hw.1,hw.2];show wpAny _ _ (if ((((0:Nat):Int) == 0 && (1:Int) == 1 && (items.size - 0) == items.size)=true) then _ else _) _ _ s;rw [if_pos [18]];refine wpAny_bind (m:=Builtin.Tuple.tupleIsExact _) (wpAny_bind (wpAny_typeOf ht.typeIs [35]));rw [if_pos [8]];refine wpAny_bind (wpAny_rule ?_)
 first
  | exact wpAny_pure ⟨_,rfl,wpAny_pure h⟩
  | exact wpAny_bind (wpAny_pure [104])
  | exact wpAny_bind (wpAny_bind (wpAny_pure (wpAny_pure [104])))
def rSlA (K:Fg):V->Option Int->Option Int->Hp->VK->Prop:=λ x lo hi H Q=>∃ a xs,x=.ref a /\ SqT K H a xs /\ (cutV xs lo hi=xs->Q (.ref a) H) /\ ∀ p,H p=none->Q [43] (upd H p (.tup (cutV xs lo hi)))
theorem sl_tupA:SlR X (rSlA X.K):=by
 intro pins s σ H x v vl vu lo hi sl Q I rx hs pl pu h;obtain ⟨a,xs,rfl,hx,q1,q2⟩:=h;by_cases hw:HT.sIx xs.length 0 lo=0 /\ HT.sIx xs.length xs.length hi=xs.length
 ·cases rx;obtain ⟨its,r,ht,hz⟩:=I.tuple hx;have hlen:its.toArray.size=xs.length:=by rw [size_toArray]; exact r.length.symm
  have e:cutV xs lo hi=xs:=by unfold cutV; rw [hw.1,hw.2]; simp
  exact ⟨"tuple",_,PyProof.Rows.slot_tuple_getitem.lookup,ht.typeIs,zd2 ht hs pl pu (by rw [hlen]; exact hw) ⟨.ref a,H,I,rfl,q1 e⟩⟩
 ·exact wp4 pins s σ H _ v vl vu lo hi sl Q I rx hs pl pu ⟨a,xs,rfl,hx,hw,q2⟩
theorem wt3:∀ (n d:Nat) (o:Option Int),HT.sIx n d o=sIx3 n d o
 | _,_,none=>rfl
 | _,_,some _=>rfl
theorem RelDs.cut {l:List D} (r:RelDs K H l vs) (lo hi:Option Int):RelDs K H (cut3 l lo hi) (cutV vs lo hi):=by
 unfold cut3 cutV;rw [<- r.length];simp only [wt3];exact (r.drop _).take _
def RdP (K:Fg) (tv:TO) (t:TO3):Prop:=∀ σ H Q ρ μ Q3,RSt K H ρ σ->RelM K μ H->t ρ μ Q3->(∀ o μ' H',Q3 o μ'->Kp H H'->RelM K μ' H'->Q o H')->tv σ H Q
def RP (X:Cx) (e:Option Expr) (t:TO3):Prop:=∃ tv,PO X e tv /\ RdP X.K tv t
theorem tu3:RP X none np3:=⟨_,xy3,λ σ H Q ρ μ Q3 s m h k=>k _ _ _ h [37] m⟩
theorem uu3 (h:RE X e te):RP X (some e) (pt3 te):=by
 obtain ⟨tv,p,r⟩:=h;refine ⟨_,sx3 p,λ σ H Q ρ μ Q3 s m h k=>r σ H _ ρ μ _ s m h λ d μ1 v H1 h1 k1 r1 m1=>?_⟩;cases r1 with
 | int i=>exact ⟨i,rfl,k _ _ _ h1 k1 m1⟩
 | _=>exact False.elim h1
def RL (X:Cx) (r3:D->Option Int->Option Int->Mu->VK3->Prop):Prop:=∃ r,SlR X r /\ ∀ x v lo hi H Q μ Q3,RelM X.K μ H->RelD X.K H x v->r3 x lo hi μ Q3->Ks X.K H Q3 Q->r v lo hi H Q
def rSlS:V->Option Int->Option Int->Hp->VK->Prop:=λ x lo hi H Q=>∃ z:Str,x=.str z /\ z.length<=sizeLine /\ Q (.str ⟨(cut3 z.cps.toList lo hi).toArray⟩) H
theorem vo4 (lo hi:Option Int) (n:Nat):Builtin.Str.strSliceIndices lo hi 1 n=sliceRange ((sIx3 n 0 lo:Nat):Int) ((sIx3 n n hi:Nat):Int) 1:=by
 unfold Builtin.Str.strSliceIndices
 have a1:∀ (d:Nat) (v:Option Int),(match v with | none=>((d:Nat):Int) | some i=>(if (1:Int) > 0 then max 0 (min (if i < 0 then i + (n:Int) else i) (n:Int)) else max (-1) (min (if i < 0 then i + (n:Int) else i) ((n:Int) - 1))))=((sIx3 n d v:Nat):Int):=λ d v=>by
  cases v with
  | none=>rfl
  | some i =>
   simp only [sIx3,show (1:Int) > 0 by decide,if_true];by_cases h:i < 0
   ·simp only [h,if_true]; omega
   ·simp only [h,if_false]; omega
 have e1:=a1 0 lo;have e2:=a1 n hi;simp only [show (1:Int) > 0 by decide,if_true] at e1 e2 ⊢;rw [<- e1,<- e2];cases lo <;> cases hi <;> rfl
theorem up4 (n:Nat) (o:Option Int):sIx3 n n o<=n:=by
 cases o with
 | none=>exact Nat.le_refl _
 | some v =>
  show (if v < 0 then (v + (n:Int)).toNat else min v.toNat n)<=n;split <;> omega
theorem vp4:SlR X rSlS:=by
 intro pins s σ H x v vl vu lo hi sl Q I rx hs pl pu h;obtain ⟨z,rfl,hz,q⟩:=h;obtain ⟨t,rfl⟩:=rx;refine ⟨"str",_,F.slot_str_getitem.lookup,typeIs_str _ _ _,?_⟩
 have hl:∃ l:Option (Int × Tok),partValue l=vl /\ l.map (·.1)=lo:=by
  cases pl with
  | none=>exact ⟨none,rfl,rfl⟩
  | int i t=>exact ⟨some (i,t),rfl,rfl⟩
 have hu:∃ u:Option (Int × Tok),partValue u=vu /\ u.map (·.1)=hi:=by
  cases pu with
  | none=>exact ⟨none,rfl,rfl⟩
  | int i t=>exact ⟨some (i,t),rfl,rfl⟩
 obtain ⟨l,rfl,rfl⟩:=hl;obtain ⟨u,rfl,rfl⟩:=hu;refine wpAny_getItem_str_slice (l:=l) (u:=u) (st:=none) hs rfl ?_
 have e:(slicePicked z l u none).filterMap (z.cps[·]?)=cut3 z.cps.toList (l.map (·.1)) (u.map (·.1)):=by
  unfold slicePicked;show (Builtin.Str.strSliceIndices _ _ 1 z.length).filterMap (z.cps[·]?)=_;rw [vo4,sliceRange_one,pick_run];unfold cut3;rw [length_toList];rfl
 unfold sliceMade;split
 ·next hw =>
  have hlen:(slicePicked z l u none).length=z.length:=by
   rw [Bool.and_eq_true] at hw;simpa using hw.2
  have ez:cut3 z.cps.toList (l.map (·.1)) (u.map (·.1))=z.cps.toList:=by
   have h1:(Builtin.Str.strSliceIndices (l.map (·.1)) (u.map (·.1)) 1 z.length).length=z.length:=hlen;rw [vo4,sliceRange_one,length_map,length_range] at h1;have h2:=up4 z.length (u.map (·.1));have hs:z.length=z.cps.size:=rfl;unfold cut3;rw [length_toList,<- hs];rcases Nat.eq_zero_or_pos z.length with h0 | h0
   ·have:z.cps.toList=[]:=List.eq_nil_of_length_eq_zero (by rw [length_toList,<- hs]; exact h0);rw [this]; simp
   ·have ha:sIx3 z.length 0 (l.map (·.1))=0:=by omega
    rw [ha,drop_zero];exact take_of_length_le (by rw [length_toList,<- hs]; omega)
  rw [ez] at q;exact ⟨.str z,H,I,⟨t,rfl⟩,q⟩
 ·rw [e];refine ⟨?_,.str _,H,I.tok _,⟨_,rfl⟩,q⟩;refine Nat.le_trans ?_ hz;show (cut3 z.cps.toList (l.map (·.1)) (u.map (·.1))).toArray.size<=z.cps.size;rw [size_toArray];unfold cut3;rw [length_take,length_drop,length_toList];omega
theorem q_sl:RL X slR:=by
 refine ⟨_,(sl_tupA.or ys3).or vp4,λ x v lo hi H Q μ Q3 m rx h k=>?_⟩;cases rx with
 | str z=>exact .inr ⟨z,rfl,h.1,k _ _ _ _ h.2 [37] (.str _) m⟩
 | tup hq rs =>
  refine .inl <| .inl ⟨_,_,rfl,(SqT.of hq),λ e=>?_,λ p hp=>k _ _ _ _ h (Kp.new hp) (.tup zb0 ((rs.cut lo hi).mono (Kp.new hp))) (m.newT hp)⟩;refine k _ _ _ _ h [37] (.tup hq ?_) m;have:=rs.cut lo hi;rw [e] at this;exact this
 | fls hq rs=>exact .inl <| .inr ⟨_,_,rfl,hq.l,λ p hp=>k _ _ _ _ (h p (m.free hp)) (Kp.new hp) [43] (m.newL hp (rs.cut lo hi))⟩
 | ref p =>
  dsimp only [slR] at h;cases e:μ p with
  | none=>rw [e] at h; exact h.elim
  | some oo =>
   cases oo with
   | ins _ _=>rw [e] at h; exact h.elim
   | dck _=>rw [e] at h; exact h.elim
   | lst l =>
    rw [e] at h;obtain ⟨vs,hv,rs⟩:=m p l e;exact .inl <| .inr ⟨p,vs,rfl,SqL.of hv,λ t ht=>k _ _ _ _ (h t (m.free ht)) (Kp.new ht) (.ref t) (m.newL ht (rs.cut lo hi))⟩
 | _=>exact False.elim h
theorem xw2 {lo hi:Option Expr} {tl th:TO3} {p2:Pos} {r3:D->Option Int->Option Int->Mu->VK3->Prop} (hr:RL X r3) (he:RE X e te) (hl:RP X lo tl) (hu:RP X hi th):RE X (.Subscript e (.Slice lo hi none p2) pos) (sl3 r3 te tl th):=by
 obtain ⟨r,pr,rr⟩:=hr;obtain ⟨va,pa,ra⟩:=he;obtain ⟨vb,pb,rb⟩:=hl;obtain ⟨vc,pc,rc⟩:=hu
 exact ⟨_,vx2 pr pa pb pc,λ σ H Q ρ μ Q3 s m h k=>ra σ H _ ρ μ _ s m h λ x μ1 v H1 h1 k1 r1 m1=>rb σ H1 _ ρ μ1 _ [90] m1 h1 λ l μ2 H2 h2 k2 m2=>rc σ H2 _ ρ μ2 _ ([90].mono k2) m2 h2 λ u μ3 H3 h3 k3 m3 =>
  rr x v l u H3 Q μ3 Q3 m3 (r1.mono (k2.trans k3)) h3 (k.after (k1.trans (k2.trans k3)))⟩
theorem xr2 {K:Fg} {H:Hp}:∀ {l:List D} {vs:List V} {bs:List Bool},RelDs K H l vs->bls? l=some bs->vs=bs.map V.bl
 | _,_,bs,.nil,e=>by simp [bls?] at e; subst e; rfl
 | _,_,bs,.cons h r,e=>by
  cases h with
  | bl x =>
   simp only [bls?] at e;split at e
   ·next ys e1 =>
    simp only [Option.some.injEq] at e;subst e;rw [xr2 r e1]; rfl
   ·cases e
  | _=>simp [bls?] at e
theorem tn1:∀ {bs:List Bool} {us:[27]},Vals (bs.map V.bl) us->us=bs.map Value.bool
 | [],_,r=>by cases r; rfl
 | b :: bs,_,r=>by
  cases r with
  | cons r1 r2=>cases r1; rw [tn1 r2]; rfl
theorem vd2 (prog:[83]) (w:World) (A:Around) (bs:List Bool):TruthOf prog w A (λ i v=>(bs.map Value.bool).toArray[i]?=some v) (λ i=>bs.getD i false):=by
 intro i v s Q E hP hQ;have hP':(bs.map Value.bool)[i]?=some v:=by simpa using hP
 rw [getElem?_map] at hP';cases e:bs[i]? with
 | none=>rw [e] at hP'; cases hP'
 | some b =>
  rw [e] at hP';simp only [Option.map_some,Option.some.injEq] at hP';subst hP';refine wpAny_truthy_bool ?_;have:bs.getD i false=b:=by rw [getD_eq_getElem?_getD,e]; rfl
  dsimp only at hQ;rw [this] at hQ;exact hQ
theorem wh2 (bs:List Bool):(List.range bs.length).all (λ i=>bs.getD i false)=bs.all id:=by
 rw [Bool.eq_iff_iff,all_eq_true,all_eq_true];constructor
 ·intro h x hx;obtain ⟨i,hi,rfl⟩:=List.mem_iff_getElem.mp hx;have:=h i (List.mem_range.mpr hi);rw [getD_eq_getElem?_getD,getElem?_eq_getElem hi] at this;exact this
 ·intro h i hi;have hi':=List.mem_range.mp hi;rw [getD_eq_getElem?_getD,getElem?_eq_getElem hi'];exact h _ (getElem_mem hi')
theorem uq2 (hc:X.calm=true):CallR X (.builtin "all") (λ xs H Q=>∃ (p:Addr) (bs:List Bool),xs=[.ref p] /\ SqL X.K H p (bs.map V.bl) /\ Q (.bl (bs.all id)) H):=by
 intro pins s σ H xs us Q I r h;obtain ⟨p,bs,rfl,hq,q⟩:=h;obtain ⟨u,rfl,rx⟩:=zr0 r;cases rx;obtain ⟨its,r',pl,hz⟩:=I.list hq;have eu:=tn1 r';subst eu;refine call_all_walk (wpAny_pyIter_list pl.isList ?_);have hlt:p < s.heap.objs.size:=by obtain ⟨o,ho,_⟩:=pl.isList; exact Heap.lt_size ho
 refine ⟨_,_,_,_,_,_,_,rfl,Walks.list (A:=X.A.in1) (I.ok.hd hc) _ p (Nat.ne_of_lt hlt) _,⟨[57],pl.isList.at λ o e=>Heap.get?_push_of_some _ e⟩,vd2 _ _ _ bs,λ h' tk hk=>?_⟩;have e:(bs.map Value.bool).toArray.size=bs.length:=by simp
 rw [e,wh2];refine ⟨.bl _,H,I.kept (t':=tk) λ b o eb=>hk b o ?_ (Heap.get?_push_of_some _ eb),rfl,q⟩;intro z;rw [mem_singleton] at z;rw [z] at eb;exact absurd (Heap.lt_size eb) (Nat.lt_irrefl _)
theorem RdC.bools {f:List Bool->Bool} {r3:C3} (hr:∀ ds μ Q3,r3 ds μ Q3->∃ p l bs,ds=[.ref p] /\ μ p=some (.lst l) /\ bls? l=some bs /\ Q3 (.bl (f bs)) μ) :
    RdC K (λ xs H Q=>∃ (p:Addr) (bs:List Bool),xs=[.ref p] /\ SqL K H p (bs.map V.bl) /\ Q (.bl (f bs)) H) r3:=λ xs vs H Q μ Q3 m r h k=>by
 obtain ⟨p,l,bs,rfl,e,e1,q⟩:=hr _ _ _ h;cases r with
 | cons r1 r2 =>
  cases r2;cases r1;obtain ⟨us,hv,rs⟩:=m p l e;have ev:=xr2 rs e1;subst ev;exact ⟨p,bs,rfl,SqL.of hv,k _ _ _ _ q [37] (.bl _) m⟩
theorem q_all (hc:X.calm=true:=by rfl):RC X (.builtin "all") allR:=by
 refine ⟨_,uq2 hc,RdC.bools λ ds μ Q3 h=>?_⟩;unfold allR at h;split at h
 ·split at h
  ·next p _ l e =>
   split at h
   ·next bs e1=>exact ⟨p,l,bs,rfl,e,e1,h⟩
   ·exact h.elim
  ·exact h.elim
 ·exact h.elim
end
end Pv
namespace Pv
open PySem
def isN:D->Bool
 | .non=>true
 | _=>false
def isNR (neg:Bool):R3:=λ x y μ Q=>match y with
 | .non=>Q (.bl (if neg then !isN x else isN x)) μ
 | _=>False
def min2R:C3:=λ ds μ Q=>match ds with
 | [.int i,.int j]=>Q (.int (if j < i then j else i)) μ
 | _=>False
end Pv
namespace Pv
open PySem PySem.Spec PyProof.Rows L2
section
variable {X:Cx}
theorem isN_v {K:Fg} {H:Hp} {x:D} {v:V} (r:RelD K H x v):decide (v=.non)=isN x:=by
 cases r <;> simp [isN]
theorem q_isN:RO X (compareOp .Is) (isNR false):=by
 refine ⟨_,op_isN,λ x y v u H Q μ Q3 m rx ry h k=>?_⟩;cases ry with
 | non =>
  refine ⟨rfl,?_⟩;rw [isN_v rx];exact k _ _ _ _ h [37] (.bl _) m
 | _=>exact False.elim h
theorem uf5 (hc:X.calm=true):RC X (.builtin "min") min2R:=by
 refine ⟨_,wq2 hc,λ xs vs H Q μ Q3 m r h k=>?_⟩;cases r with
 | nil=>exact False.elim h
 | cons r1 r2 =>
  cases r1 with
  | int i =>
   cases r2 with
   | nil=>exact False.elim h
   | cons r2 r3 =>
    cases r2 with
    | int j =>
     cases r3 with
     | nil=>exact ⟨i,j,rfl,k _ _ _ _ h [37] (.int _) m⟩
     | cons _ _=>exact False.elim h
    | _=>exact False.elim h
  | _=>exact False.elim h
end
end Pv
namespace L2
open PySem PySem.Spec PyProof.Rows
variable {u:Value} {y:V}
section
variable {κ:Type} [DecidableEq κ]
def valV (kvs:List (κ × V)) (k:κ):Option V:=(kvs.find? λ kv=>decide (kv.1=k)).map (·.2)
def putK (kvs:List (κ × V)) (k:κ) (v:V):List (κ × V) :=
 if (kvs.any λ kv=>decide (kv.1=k))=true then kvs.map (λ kv=>if kv.1=k then (kv.1,v) else kv) else kvs ++ [(k,v)]
theorem xp0 {p:κ × V} {r:List (κ × V)} {k:κ} (e:p.1=k):valV (p :: r) k=some p.2:=by simp [valV,find?_cons,e]
theorem yp0 {p:κ × V} {r:List (κ × V)} {k:κ} (e:¬ p.1=k):valV (p :: r) k=valV r k:=by simp [valV,find?_cons,e]
theorem ty0 (k:κ):∀ kvs:List (κ × V),(kvs.any λ kv=>decide (kv.1=k))=(valV kvs k).isSome
 | []=>rfl
 | p :: r=>by
  rw [any_cons];by_cases e:p.1=k
  ·simp only [xp0 e,decide_eq_true e,Bool.true_or,Option.isSome_some]
  ·rw [yp0 e,decide_eq_false e,Bool.false_or]; exact ty0 k r
theorem ss0 (kvs:List (κ × V)) (k:κ) (v:V):(putK kvs k v).length<=kvs.length + 1:=by
 unfold putK;split
 ·rw [length_map]; omega
 ·rw [length_append,length_cons,length_nil]; omega
theorem RelO.isSome_eq {o:Option V} {u:Option Value} (r:RelO o u):o.isSome=u.isSome:=by
 cases o with
 | none=>cases u with
  | none=>rfl
  | some _=>exact (show False from r).elim
 | some _=>cases u with
  | none=>exact (show False from r).elim
  | some _=>rfl
theorem KV.val {kvs:List (κ × V)} {vs:List (κ × Value)} (r:KV kvs vs) (k:κ):RelO (valV kvs k) (valueAt vs k):=by
 unfold KV at r
 induction r with
 | nil=>exact True.intro
 | @cons p q ps qs h t ih =>
  obtain ⟨h1,h2⟩:=h;by_cases e:p.1=k
  ·have e':q.1=k:=h1.symm.trans e;have b:valueAt (q :: qs) k=some q.2:=by simp [valueAt,find?_cons,e']
   rw [xp0 e,b]; exact h2
  ·have e':¬ q.1=k:=λ z=>e (h1.trans z);have b:valueAt (q :: qs) k=valueAt qs k:=by simp [valueAt,find?_cons,e']
   rw [yp0 e,b]; exact ih
theorem KV.any {kvs:List (κ × V)} {vs:List (κ × Value)} (r:KV kvs vs) (k:κ):(kvs.any λ kv=>decide (kv.1=k))=vs.any λ kv=>decide (kv.1=k):=by
 unfold KV at r
 induction r with
 | nil=>rfl
 | cons h t ih=>rw [any_cons,any_cons,ih,h.1]
theorem KV.repl {kvs:List (κ × V)} {vs:List (κ × Value)} (r:KV kvs vs) (k:κ) (ry:RelV y u) :
    KV (kvs.map λ kv=>if kv.1=k then (kv.1,y) else kv) (vs.map λ kv=>if kv.1=k then (kv.1,u) else kv):=by
 unfold KV at r ⊢
 induction r with
 | nil=>exact .nil
 | @cons p q ps qs h t ih =>
  rw [map_cons,map_cons];refine .cons ?_ ih;obtain ⟨h1,h2⟩:=h;by_cases e:p.1=k
  ·rw [if_pos e,if_pos (h1.symm.trans e)]; exact ⟨h1,ry⟩
  ·rw [if_neg e,if_neg (λ z=>e (h1.trans z))]; exact ⟨h1,h2⟩
theorem KV.put {kvs:List (κ × V)} {vs:List (κ × Value)} (r:KV kvs vs) (k:κ) (ry:RelV y u):KV (putK kvs k y) (stored vs k u):=by
 unfold putK stored;rw [r.any k];by_cases e:(vs.any λ kv=>decide (kv.1=k))=true
 ·rw [if_pos e,if_pos e]; exact r.repl k ry
 ·rw [if_neg e,if_neg e]; exact Paired.snoc r ⟨rfl,ry⟩
theorem KV.length {kvs:List (κ × V)} {vs:List (κ × Value)} (r:KV kvs vs):kvs.length=vs.length:=Paired.length r
end
variable {P:[83]} {w:World}
theorem wl2 {k:Key} (r:RelV (kV k) u):(ze0 P w).is k u=true:=by
 cases k with
 | inl i=>obtain ⟨t,e⟩:=(show ∃ t,u=Value.int i t from r); subst e; exact zl1 P w i t
 | inr x=>obtain ⟨t,e⟩:=(show ∃ t,u=Value.str x t from r); subst e; exact yl1 P w x t
theorem xh1 {P:[83]} {w:World}:∀ {ks:List Key} {us:[27]},Vals (ks.map kV) us->ItemsAre (ze0 P w) ks us
 | [],_,r=>by rw [map_nil] at r; cases r; exact .nil
 | k :: ks,_,r=>by
  rw [map_cons] at r;cases r with
  | cons h t=>exact .cons (wl2 h) (xh1 t)
abbrev KT (H:Hp):List (List Key × V)->List (List Key × Addr × Value)->Prop:=Paired λ p q=>p.1=q.1 /\ H q.2.1=some (.tup (p.1.map kV)) /\ RelV p.2 q.2.2
variable {H:Hp} {xs:List (List Key × Addr × Value)}
theorem KT.val {kvs:List (List Key × V)} (r:KT H kvs xs) (k:List Key):RelO (valV kvs k) ((atKey xs k).map (·.2)):=by
 induction r with
 | nil=>exact True.intro
 | @cons p q ps qs h t ih =>
  obtain ⟨h1,_,h2⟩:=h;by_cases e:p.1=k
  ·have e':q.1=k:=h1.symm.trans e;have b:atKey (q :: qs) k=some q.2:=by simp [atKey,find?_cons,e']
   rw [xp0 e,b]; exact h2
  ·have e':¬ q.1=k:=λ z=>e (h1.trans z);have b:atKey (q :: qs) k=atKey qs k:=by simp [atKey,find?_cons,e']
   rw [yp0 e,b]; exact ih
theorem KT.repl {kvs:List (List Key × V)} (r:KT H kvs xs) (k:List Key) (ry:RelV y u) :
    KT H (kvs.map λ kv=>if kv.1=k then (kv.1,y) else kv) (xs.map (putAt k u)):=by
 induction r with
 | nil=>exact .nil
 | @cons p q ps qs h t ih =>
  rw [map_cons,map_cons];refine .cons ?_ ih;obtain ⟨h1,h2,h3⟩:=h;unfold putAt;by_cases e:p.1=k
  ·rw [if_pos e,if_pos (h1.symm.trans e)]; exact ⟨h1,h2,ry⟩
  ·rw [if_neg e,if_neg (λ z=>e (h1.trans z))]; exact ⟨h1,h2,h3⟩
theorem KT.put {kvs:List (List Key × V)} (r:KT H kvs xs) (k:List Key) {b:Addr} (hb:H b=some (.tup (k.map kV))) (ry:RelV y u) :
    KT H (putK kvs k y) (storedH xs k b u):=by
 have e:(kvs.any λ kv=>decide (kv.1=k))=(atKey xs k).isSome:=by
  rw [ty0,(r.val k).isSome_eq,Option.isSome_map]
 unfold putK storedH;rw [e];by_cases q:(atKey xs k).isSome=true
 ·rw [if_pos q,if_pos q]; exact r.repl k ry
 ·rw [if_neg q,if_neg q]; exact Paired.snoc r ⟨rfl,hb,ry⟩
variable {H':Hp}
theorem KT.keeps {kvs:List (List Key × V)} (r:KT H kvs xs) (ht:∀ b ys,H b=some (.tup ys)->H' b=some (.tup ys)):KT H' kvs xs :=
 Paired.mapP r λ _ _ z=>⟨z.1,ht _ _ z.2.1,z.2.2⟩
variable {prog:[83]} {A:Around} {E:[9]} {s:[88]} {h:Heap} {d a:Addr} {ep:Nat}
section
variable {K:Type} [DecidableEq K] {knd:HeapKind prog w K} 
def DHe (knd:HeapKind prog w K) (h:Heap) (d:Addr) (xs:List (K × Addr × Value)) (ep:Nat):Prop :=
 ∃ o es,h.get? d=some o /\ o.ExactDict /\ o.data=.dict es ep /\ es.toList=xs.map (entryOfKey knd) /\ (∀ x ∈ xs,knd.is h x.1 x.2.1) /\ (xs.map (·.1)).Nodup
theorem DHe.of {xs:List (K × Addr × Value)} (x:DHe knd h d xs ep):h.DictOfH knd d xs:=by
 obtain ⟨o,es,a⟩:=x; exact ⟨o,es,ep,a⟩
theorem DHe.new {xs:List (K × Addr × Value)} {k:K} {v:Value} {o:Obj} {es:Array DictEntry} {hs:Int} (ho:s.heap.get? d=some o) (hc:o.ExactDict) (hd:o.data=.dict es ep) (he:es.toList=xs.map (entryOfKey knd))
    (his:∀ x ∈ xs,knd.is s.heap x.1 x.2.1) (hn:(xs.map (·.1)).Nodup) (hkey:knd.is s.heap k a) (hno:∀ (j:Nat) (p:Addr × Value),xs[j]? ≠ some (k,p)) (eh:entryOfKey knd (k,a,v)=⟨hs,.ref a,v⟩) :
    DHe knd (s.heap.update d (Obj.mapDictKeys (·.push ⟨hs,.ref a,v⟩))) d (storedH xs k a v) (ep + 1):=by
 have hnot:k ∉ xs.map (·.1):=not_mem_keys_of_get hno;rw [storedH_new (atKey_none_of_get hno)];refine ⟨_,_,Heap.get?_update_self _ ho (Obj.isFreed_of_dict (Obj.data_mapDictKeys hd _)),hc.mapDictKeys _,Obj.data_mapDictKeys hd _,by simp [he,eh],λ c mc=>?_,?_⟩
 ·rcases List.mem_append.mp mc with mc | mc; · exact knd.keeps (his c mc) ho hd (Heap.SameBut.update ..)
  rw [mem_singleton] at mc; subst mc; exact knd.keeps hkey ho hd (Heap.SameBut.update ..)
 ·rw [map_append,List.nodup_append]; refine ⟨hn,by simp,λ c mc c' mc'=>?_⟩;have e':c'=k:=by simpa using mc'
  subst e'; exact λ e=>hnot (e ▸ mc)
theorem tp4 {xs:List (K × Addr × Value)} {k:K} {v:Value} {Q:Unit->Shared->Prop} (hu:knd.room A.in1) (hkey:knd.is s.heap k a) (hm:DHe knd s.heap d xs ep) (hsz:xs.length<=sizeLine)
    (hQ:∀ h' ep',ep'=(if (atKey xs k).isSome then ep else ep + 1)->DHe knd h' d (storedH xs k a v) ep'->Heap.SameBut d s.heap h'->Q () { s with heap:=h',toks:=s.toks + knd.draws k }) :
    wpAny [13] A (setItem (.ref d) (.ref a) v) Q E s:=by
 have ty:=hm.of.typeIs;obtain ⟨o,es,ho,hc,hd,he,his,hn⟩:=hm;unfold setItem; try with_reducible refine wpAny_holding ?_
 refine wpAny_bind (wpAny_sequenceKey ty [8] (wpAny_bind (wpAny_callSpecial?_slot (name:=Str.ofString "__setitem__") ty slot_dict_setitem (wpAny_call_entry slot_dict_setitem ty entry_dict_setitem ?_ (args_dict_setitem _ _ _)))));refine (show wpAny _ _ (Builtin.Dict.notOrdered "__setitem__" ⟨[.ref d,.ref a,v],[]⟩ >>= _) _ _ s from wpAny_bind (wpAny_notOrdered_dict ty ?_));refine (show wpAny _ _ (dictSet d (.ref a) v >>= _) _ _ s from wpAny_bind ?_);unfold dictSet; try with_reducible refine wpAny_holding ?_
 refine wpAny_bind (knd.pyHash hu hkey ?_); unfold dictSetHashed; try with_reducible refine wpAny_holding ?_
 refine wpAny_bind (wpAny_dictFind_heap (s:={ s with toks:=s.toks + knd.draws k }) hu hkey ho hd he his hn (λ hno=>?_) λ j p hj=>?_)
 ·refine wpAny_bind (wpAny_rule (wpAny_updateDictKeys (hz:=by have e:=size_of_entries he; omega) (s:={ s with toks:=s.toks + knd.draws k }) ho hd (wpAny_pure ⟨.none,rfl,wpAny_pure (hQ _ (ep + 1) (by rw [atKey_none_of_get hno]; rfl) (DHe.new ho hc hd he his hn hkey hno rfl) (Heap.SameBut.update ..))⟩)))
 ·have ak:=atKey_of_get hn hj;refine wpAny_bind (wpAny_rule (wpAny_bind (wpAny_updateDict (s:={ s with toks:=s.toks + knd.draws k }) ho hd (wpAny_point (wpAny_pure ⟨.none,rfl,wpAny_pure (hQ _ ep (by rw [ak]; rfl) ⟨_,_,Heap.get?_update_self _ ho (Obj.isFreed_of_dict (Obj.data_mapDict hd _)),hc.mapDict _,Obj.data_mapDict hd _,?_,?_,?_⟩ (Heap.SameBut.update ..))⟩)))))
  ·rw [storedH_old ak]; have z:=modify_map_putAt (entryOfKey knd) (λ e:DictEntry=>{ e with val:=v }) k v (λ _ _=>rfl) hn hj;rw [<- he] at z; obtain ⟨l⟩:=es; simpa using z
  ·rw [storedH_old ak]; intro c mc; obtain ⟨y,my,rfl⟩:=List.mem_map.mp mc; unfold putAt; split <;> exact knd.keeps (his y my) ho hd (Heap.SameBut.update ..)
  ·rw [storedH_old ak,keys_map_putAt]; exact hn
end
theorem tb4 {κ:Type} [DecidableEq κ] (kvs:List (κ × V)) (k:κ) (v:V):(putK kvs k v).length=if (valV kvs k).isSome then kvs.length else kvs.length + 1:=by
 unfold putK; rw [ty0]; split <;> simp
section
theorem se5 {u:HO} (ok:HOk P w H h) (e:Rd H a u):ObjOk P w H h a u:=e.ok ok
theorem sb2 {kvs:List (Key × V)} (ok:HOk P w H h) (e:Rd H a (.dK kvs)):kvs.length<=sizeLine /\ (a == sysModules)=false /\ ∃ vs,KV kvs vs /\ h.DictOf (ze0 P w) a vs :=
 show ObjOk P w H h a (.dK kvs) from se5 ok e
theorem ze4 {kvs:List (Key × V)} (ok:HOk P w H h) (e:H a=some (.dK kvs)):kvs.length<=sizeLine /\ (a == sysModules)=false /\ ∃ vs,KV kvs vs /\ h.DictOf (ze0 P w) a vs:=sb2 ok (.inl e)
theorem tg1 {ks:List Key} (ok:HOk P w H h) (e:H a=some (.tup (ks.map kV))):(tupleKind (ze0 P w)).is h ks a:=by
 obtain ⟨_,its,r,o,h1,h2,n,h3⟩:=(show ObjOk P w H h a (.tup (ks.map kV)) from ok a _ e);exact ⟨o,its.toArray,n,h1,h2,h3,by simpa using xh1 r⟩
theorem dt_ep {kvs:List (List Key × V)} (ok:HOk P w H h) (e:Rd H a (.dT kvs)):kvs.length<=sizeLine /\ (a == sysModules)=false ∧
    ∃ xs,KT H kvs xs /\ DHe (tupleKind (ze0 P w)) h a xs kvs.length:=by
 obtain ⟨z,y,xs,r,o,es,ep,h1,h2,h3,h4,h5,h6⟩:=(show ObjOk P w H h a (.dT kvs) from se5 ok e);subst h6;refine ⟨z,y,xs,r,o,es,h1,h2,h3,h4,λ x hx=>?_,h5⟩
 have all:∀ {l:List (List Key × V)} {m:List (List Key × Addr × Value)},KT H l m->∀ x ∈ m,(tupleKind (ze0 P w)).is h x.1 x.2.1:=by
  intro l m q
  induction q with
  | nil=>intro x hx; exact nomatch hx
  | @cons p q ps qs hq t ih =>
   intro x hx;rcases List.mem_cons.mp hx with e | hx
   ·subst e;exact tg1 ok (by rw [<- hq.1]; exact hq.2.1)
   ·exact ih x hx
 exact all r x hx
theorem wc3 {kvs:List (List Key × V)} (ok:HOk P w H h) (e:Rd H a (.dT kvs)):kvs.length<=sizeLine /\ (a == sysModules)=false /\ ∃ xs,KT H kvs xs /\ h.DictOfH (tupleKind (ze0 P w)) a xs:=by
 obtain ⟨z,y,xs,r,d⟩:=dt_ep ok e; exact ⟨z,y,xs,r,d.of⟩
end
def DGet (H:Hp) (a:Addr) (y:V) (r:Option V):Prop :=
 (∃ kvs k,Rd H a (.dK kvs) /\ y=kV k /\ r=valV kvs k) \/ ∃ kvs k b,Rd H a (.dT kvs) /\ y=.ref b /\ H b=some (.tup (k.map kV)) /\ r=valV kvs k
def DPut (H:Hp) (a:Addr) (y v:V) (H':Hp):Prop :=
 (∃ kvs k,H a=some (.dK kvs) /\ y=kV k /\ kvs.length < sizeLine /\ H'=upd H a (.dK (putK kvs k v))) ∨
 ∃ kvs k b,H a=some (.dT kvs) /\ y=.ref b /\ H b=some (.tup (k.map kV)) /\ kvs.length < sizeLine /\ H'=upd H a (.dT (putK kvs k v))
theorem DGet.k {H:Hp} {a:Addr} {kvs:List (Key × V)} {k:Key} (e:H a=some (.dK kvs)):DGet H a (kV k) (valV kvs k):=.inl ⟨kvs,k,.inl e,rfl,rfl⟩
theorem DPut.k {H:Hp} {a:Addr} {kvs:List (Key × V)} {k:Key} {v:V} (e:H a=some (.dK kvs)) (hl:kvs.length < sizeLine):DPut H a (kV k) v (upd H a (.dK (putK kvs k v))):=.inl ⟨kvs,k,e,rfl,hl,rfl⟩
variable {Q:[9]} {X:Cx} {pins:[20]} {σ:St} {h':Heap}
section
variable {v:V} {r:Value} {o:Option V} 
theorem Inv.big (I:[10]):sysModules < s.heap.objs.size:=by
 have h:mainGlobals < s.heap.objs.size:=(I.mod.glob.keeps I.bk).lt;exact Nat.lt_trans [8] h
theorem wp2 (hu:A.units + 1 < cLine) (I:[10]) (g:DGet H a y (some v)) (ry:RelV y u) (h:∀ w' s',Inv X pins σ H s'->RelV v w'->Q w' s') :
    wpAny [11] A (getItem (.ref a) u) Q E s:=by
 rcases g with ⟨kvs,k,e,ey,l⟩ | ⟨kvs,k,b,e,ey,eb,l⟩
 ·subst ey;obtain ⟨z,hd,vs,rel,dd⟩:=sb2 I.hok e;obtain ⟨w',hw,rw'⟩:=RelO.some_of (v:=v) (o:=valueAt vs k) (by rw [l]; exact rel.val k);exact wpAny_getItem_of (wl2 ry) dd.mapOf hw (h w' _ (I.tok _) rw')
 ·subst ey;cases (show u=Value.ref b from ry);obtain ⟨z,hd,xs,rel,dd⟩:=wc3 I.hok e;obtain ⟨w',hw,rw'⟩:=RelO.some_of (v:=v) (o:=(atKey xs k).map (·.2)) (by rw [l]; exact rel.val k);obtain ⟨p,hp,hp2⟩:=Option.map_eq_some_iff.mp hw;refine wpAny_getItem_heap (tupleKind_room_in1 hu) (tg1 I.hok eb) dd hp ?_;rw [hp2];exact h w' _ (I.tok _) rw'
theorem d_in (hu:A.units + 1 < cLine) (I:[10]) (g:DGet H a y o) (ry:RelV y u) (h:∀ s',Inv X pins σ H s'->Q (.bool o.isSome) s') :
    wpAny [11] A (compareOp .In u (.ref a)) Q E s:=by
 rcases g with ⟨kvs,k,e,ey,l⟩ | ⟨kvs,k,b,e,ey,eb,l⟩
 ·subst ey;obtain ⟨z,hd,vs,rel,dd⟩:=sb2 I.hok e;refine wpAny_in_of (wl2 ry) hd dd.mapOf ?_;rw [<- (rel.val k).isSome_eq,<- l];exact h _ (I.tok _)
 ·subst ey;cases (show u=Value.ref b from ry);obtain ⟨z,hd,xs,rel,dd⟩:=wc3 I.hok e;refine wpAny_in_heap (tupleKind_room_in1 hu) (tg1 I.hok eb) hd dd ?_;have q:=(rel.val k).isSome_eq;rw [Option.isSome_map] at q;rw [<- q,<- l];exact h _ (I.tok _)
theorem te4 (hu:A.units + 1 < cLine) (I:[10]) (g:DGet H a y o) (ry:RelV y u) (h:∀ s',Inv X pins σ H s'->Q (.bool (!o.isSome)) s') :
    wpAny [11] A (compareOp .NotIn u (.ref a)) Q E s:=by
 rcases g with ⟨kvs,k,e,ey,l⟩ | ⟨kvs,k,b,e,ey,eb,l⟩
 ·subst ey;obtain ⟨z,hd,vs,rel,dd⟩:=sb2 I.hok e;refine wpAny_notIn_of (wl2 ry) hd dd.mapOf ?_;rw [<- (rel.val k).isSome_eq,<- l];exact h _ (I.tok _)
 ·subst ey;cases (show u=Value.ref b from ry);obtain ⟨z,hd,xs,rel,dd⟩:=wc3 I.hok e;refine wpAny_notIn_heap (tupleKind_room_in1 hu) (tg1 I.hok eb) hd dd ?_;have q:=(rel.val k).isSome_eq;rw [Option.isSome_map] at q;rw [<- q,<- l];exact h _ (I.tok _)
theorem yp2 {t':Nat} {ob:HO} (I:[10]) (mu:Mut (H a)) (hs:Heap.SameBut a s.heap h') (he:∃ q,h'.get? a=some q) (new:ObjOk X.prog X.w (upd H a ob) h' a ob) :
    Inv X pins σ (upd H a ob) { s with heap:=h',toks:=t' } :=
 I.write (x:=a) (e:=a) mu (.inl rfl) (λ b q hb z=>(hs.2 b hb).trans z) he new
theorem zm3 {kvs:List (Key × V)} {vs:List (Key × Value)} (z:kvs.length<=sizeLine) (hd:(a == sysModules)=false) (rel:KV kvs vs) (dd:h'.DictOf (ze0 P w) a vs) :
    ObjOk P w H' h' a (.dK kvs):=⟨z,hd,vs,rel,dd⟩
theorem zp2 {Q:Unit->Shared->Prop} (hu:A.units + 1 < cLine) (I:[10]) (g:DPut H a y v H') (ry:RelV y u) (rv:RelV v r) (h:∀ s',Inv X pins σ H' s'->Q () s') :
    wpAny [11] A (setItem (.ref a) u r) Q E s:=by
 rcases g with ⟨kvs,k,e,ey,l,eH⟩ | ⟨kvs,k,b,e,ey,eb,l,eH⟩
 ·subst ey eH;obtain ⟨z,hd,vs,rel,dd⟩:=ze4 I.hok e;have hz:vs.length<=sizeLine:=by rw [<- rel.length]; exact z
  have hl:(putK kvs k v).length<=sizeLine:=by have:=ss0 kvs k v; omega
  refine wpAny_setItem_pairs (hsz:=hz) (wl2 ry) dd λ h' dd' hs=>h _ ?_;have he:∃ q,h'.get? a=some q:=let ⟨q,_,_,hq,_⟩:=dd'; ⟨q,hq⟩
  exact yp2 I (by rw [e]; exact True.intro) hs he (zm3 hl hd (rel.put k rv) dd')
 ·subst ey eH;cases (show u=Value.ref b from ry);obtain ⟨z,hd,xs,rel,dd⟩:=dt_ep I.hok (.inl e);have hz:xs.length<=sizeLine:=by rw [<- Paired.length rel]; exact z
  have hl:(putK kvs k v).length<=sizeLine:=by have:=ss0 kvs k v; omega
  refine tp4 (tupleKind_room_in1 hu) (tg1 I.hok eb) dd hz λ h' ep' e1 dd' hs=>h _ ?_;obtain ⟨q,es,hq,h2,h3,h4,_,h5⟩:=dd';have e2:ep'=(putK kvs k v).length:=by rw [e1,tb4,(rel.val k).isSome_eq,Option.isSome_map]
  refine yp2 I (by rw [e]; exact True.intro) hs ⟨q,hq⟩ ⟨hl,hd,_,(rel.put k eb rv).keeps λ c ys ec=>?_,q,es,ep',hq,h2,h3,h4,h5,e2⟩;rw [va0 (xl1 ec e (λ z=>nomatch z))];exact ec
end
def NoSl (i:Expr):Prop:=∀ ov iv,subscripted i false ov iv=operate [ov,iv] (getItem ov iv)
variable {pos:Pos}
theorem sj1 {env:Env} {value slice:Expr} {T id:String} 
    (hl:typeLookup (.type T) "__getitem__" = pure (some (.builtin id))) (hs:NoSl slice)
    (h:wpAny [13] A (eval value env) (λ o s₁=>wpAny [13] A (eval slice env) (λ i s₂=>s₂.TypeIs o T /\ wpAny [13] A (getItem o i) Q E s₂) E s₁) E s) :
    wpAny [13] A (eval (.Subscript value slice pos) env) Q E s:=by
 refine Subscript_ (wpAny_mono h (λ o s₁ h₁=>wpAny_mono h₁ (λ i s₂ h₂=>?_) λ _ _ x=>x) λ _ _ x=>x);obtain ⟨hT,h₂⟩:=h₂;unfold subscriptTail;refine wpAny_bind ?_;rw [getitemInPython_of_ne hT.not_modules];refine wpAny_bind (wpAny_specialOf hT hl ?_)
 have fin:wpAny [13] A (subscripted slice false o i) (λ r s₃=>wpAny [13] A (letTemporaryGo value o r >>= λ _=>pure r) Q E s₃) E s₂:=by
  rw [hs o i];exact wpAny_operating (wpAny_mono h₂ (λ r s₃ h₃=>wpAny_bind (wpAny_letTemporaryGo (wpAny_pure h₃))) λ _ _ x=>x)
 first
  | exact wpAny_pure (wpAny_bind fin)
  | exact wpAny_bind (wpAny_pure (wpAny_bind fin))
  | exact wpAny_bind fin
theorem tm1 {o:Option V} (I:[10]) (g:DGet H a y o):s.TypeIs (.ref a) "dict" := by
 rcases g with ⟨kvs,k,e,_,_⟩ | ⟨kvs,k,b,e,_,_,_⟩
 ·obtain ⟨_,_,vs,_,dd⟩:=sb2 I.hok e;exact dd.typeIs
 ·obtain ⟨_,_,xs,_,dd⟩:=wc3 I.hok e;exact dd.typeIs
def tDGet (td ty:TE):TE:=λ σ H Q=>td σ H λ x H1=>ty σ H1 λ y H2=>∃ a v,x=.ref a /\ DGet H2 a y (some v) /\ Q v H2
def sDPut (td ty tv:TE):TS:=λ D σ H=>tv σ H λ v H1=>td σ H1 λ x H2=>ty σ H2 λ y H3=>∃ a H4,x=.ref a /\ DPut H3 a y v H4 /\ D.nx σ H4
section
variable {o i e value:Expr} {pos' tpos:Pos} {td ty tv:TE}
theorem sy3 (hu:X.A.units + 1 < cLine) (ho:PE X o td) (hi:PE X i ty) (hs:NoSl i):PE X (.Subscript o i pos) (tDGet td ty):=by
 intro pins s σ H Q I h;refine sj1 PySem.F.slot_dict_getitem.lookup hs (thn (ho pins s σ H _ I h) λ u s1 ⟨x,H1,I1,rx,q1⟩=>thn (hi pins s1 σ H1 _ I1 q1) λ iv s2 ⟨y,H2,I2,ry,a,v,ex,g,q2⟩=>?_);subst ex;obtain rfl:u=Value.ref a:=rx;exact ⟨tm1 I2 g,wp2 hu I2 g ry λ w' s3 I3 rw'=>⟨v,H2,I3,rw',q2⟩⟩
theorem ux3 (hu:X.A.units + 1 < cLine) (ho:PE X o td) (hi:PE X i ty) (hv:PE X value tv) (hs:swapsWith value (some (.Subscript o i pos')) pos.line X.env=pure false) :
    PS X (.Assign [.Subscript o i pos'] value pos) (sDPut td ty tv):=by
 intro pins s σ H D I h;refine wpAny_Assign_Subscript (thn (hv pins s σ H _ I h) λ r s1 ⟨v,H1,I1,rv,q1⟩=>thn (ho pins s1 σ H1 _ I1 q1) λ u s2 ⟨x,H2,I2,rx,q2⟩=>thn (hi pins s2 σ H2 _ I2 q2) λ iv s3 ⟨y,H3,I3,ry,a,H4,ex,g,q3⟩=>?_) hs;subst ex;obtain rfl:u=Value.ref a:=rx;exact zp2 hu I3 g ry rv λ s4 I4=>⟨σ,H4,I4,q3⟩
end
theorem uc3 (h:Heap) (hb:sysModules < h.objs.size):ObjOk P w H (h.push { cls:=.type "dict",data:=.dict #[] }) h.objs.size (.dK []) :=
 ⟨Nat.zero_le _,beq_eq_false_iff_ne.mpr (Ne.symm (Nat.ne_of_lt hb)),[],.nil,Heap.DictOf.new h⟩
def wo4:TE:=λ _ H Q=>∀ p,H p=none->Q [43] (upd H p (.dK []))
section
theorem xy2:PE X (.Dict [] [] pos) wo4:=λ pins s σ H Q I h =>
 wpAny_Dict_empty ⟨.ref s.heap.objs.size,_,I.laid (a:=s.heap.objs.size) (o:=.dK []) (t':=s.toks) (λ _ _ q=>Heap.get?_push_of_some _ q) [19] (uc3 s.heap I.big),rfl,h _ (I.hok.fresh [19])⟩
end
structure M1 (X:Cx) (o:Expr) (m:Str) (apos:Pos) (e:Expr) (cpos:Pos):Prop where
 base:attributeBase o m X.env (eval o X.env)=eval o X.env
 few:((backTo cpos (starEach [e] X.env)).all (λ x=>!x.1) && (backToKw cpos (keywordEach [] X.env)).all (λ x=>x.1.isSome)
  && decide (([e]:List Expr).length + ([]:List Keyword).length + (if ([]:List Keyword).isEmpty then 0 else 1) < 30))=true
 line:(apos.endLine == cpos.line)=true
 trees:backTo cpos (starEach [e] X.env)=[(false,eval e X.env)]
structure M2 (X:Cx) (o:Expr) (m:Str) (apos:Pos) (e f:Expr) (cpos:Pos):Prop where
 base:attributeBase o m X.env (eval o X.env)=eval o X.env
 few:((backTo cpos (starEach [e,f] X.env)).all (λ x=>!x.1) && (backToKw cpos (keywordEach [] X.env)).all (λ x=>x.1.isSome)
  && decide (([e,f]:List Expr).length + ([]:List Keyword).length + (if ([]:List Keyword).isEmpty then 0 else 1) < 30))=true
 line:(apos.endLine == cpos.line)=true
 trees:backTo cpos (starEach [e,f] X.env)=[(false,eval e X.env),(false,eval f X.env)]
section
variable {kvs:List (Key × V)} 
theorem vd3 (I:[10]) (e:Rd H a (.dK kvs)) (h:∀ p s',H p=none->Inv X pins σ (upd H p (.dK kvs)) s'->Q [43] s'):wpAny [11] A (call (.type "dict") [.ref a]) Q E s:=by
 obtain ⟨z,hd,vs,rel,dd⟩:=sb2 I.hok e;refine kt_call_dict hd dd (by rw [<- rel.length]; exact z) λ h' dd' hs=>?_;refine h _ _ (I.hok.fresh [19]) (I.laid (a:=s.heap.objs.size) (o:=.dK kvs) (t':=s.toks) (λ b q hq=>?_) [19] (zm3 z (beq_eq_false_iff_ne.mpr (Ne.symm (Nat.ne_of_lt I.big))) rel dd'));exact (hs.2 b (Nat.ne_of_lt (Heap.lt_size hq))).trans (Heap.get?_push_of_some _ hq)
end
end L2
namespace Pv
open PySem PySem.Spec PyProof.Rows L2
def keyK:D->Option Key
 | .int i=>some (.inl i)
 | .str x=>some (.inr x)
 | _=>none
def valK (kvs:List (Key × D)) (k:Key):Option D:=(kvs.find? λ kv=>decide (kv.1=k)).map (·.2)
def putY (kvs:List (Key × D)) (k:Key) (y:D):List (Key × D):=if (kvs.any λ kv=>decide (kv.1=k))=true then kvs.map (λ kv=>if kv.1=k then (kv.1,y) else kv) else kvs ++ [(k,y)]
def dnk3:TE3:=λ _ μ Q=>∀ p,μ p=none->Q [43] (updM μ p (.dck []))
def dgkR:R3:=λ x y μ Q=>match x,keyK y with
 | .ref p,some k=>match μ p with
  | some (.dck kvs)=>match valK kvs k with
   | some v=>Q v μ
   | none=>False
  | _=>False
 | _,_=>False
def um1 (neg:Bool):R3:=λ y x μ Q=>match x,keyK y with
 | .ref p,some k=>match μ p with
  | some (.dck kvs)=>Q (.bl (if neg then !(valK kvs k).isSome else (valK kvs k).isSome)) μ
  | _=>False
 | _,_=>False
def th1 (to ti tv:TE3):TS3:=λ D' ρ μ=>tv ρ μ λ v μ1=>to ρ μ1 λ x μ2=>ti ρ μ2 λ y μ3=>match x,keyK y with
 | .ref p,some k=>match μ3 p with
  | some (.dck kvs)=>kvs.length < 90000 /\ D'.nx ρ (updM μ3 p (.dck (putY kvs k v)))
  | _=>False
 | _,_=>False
variable {H:Hp} {p:Addr}
theorem Kp.wrK {o:HO} {xs:List (Key × V)} (h:H p=some (.dK xs)):Kp H (upd H p o) :=
 [56]
variable {K:Fg} {μ:Mu}
theorem RelM.newK (h:H p=none) (m:RelM K μ H):RelM K (updM μ p (.dck [])) (upd H p (.dK [])):=by
 have m':=m.newT (o:=.dK []) h;refine ⟨λ q ys e=>?_,λ q c fs e=>?_,λ q kvs e=>?_⟩ <;> by_cases z:q=p
 ·subst z; rw [ya0] at e; cases e
 ·rw [za0 z] at e; exact m'.lst q ys e
 ·subst z; rw [ya0] at e; cases e
 ·rw [za0 z] at e; exact m'.ins q c fs e
 ·subst z; rw [ya0] at e; cases e; exact ⟨[],zb0,.nil⟩
 ·rw [za0 z] at e; exact m'.dck q kvs e
theorem RelM.wrK {K:Fg} {μ:Mu} {H:Hp} {p:Addr} {kvs:List (Key × D)} {vs ws:List (Key × V)} (h:H p=some (.dK ws)) (r:RelKk K H kvs vs) (m:RelM K μ H):RelM K (updM μ p (.dck kvs)) (upd H p (.dK vs)):=by
 have kp:Kp H (upd H p (.dK vs)):=Kp.wrK h;refine ⟨λ q ys e=>?_,λ q c fs e=>?_,λ q ks e=>?_⟩ <;> by_cases z:q=p
 ·subst z; rw [ya0] at e; cases e
 ·rw [za0 z] at e;obtain ⟨us,q1,r1⟩:=m.lst q ys e;exact ⟨us,by rw [va0 z]; exact q1,r1.mono kp⟩
 ·subst z; rw [ya0] at e; cases e
 ·rw [za0 z] at e;obtain ⟨C,dx,us,n,q1,q2,r1⟩:=m.ins q c fs e;refine ⟨C,dx,us,n,by rw [va0 z]; exact q1,?_,r1.mono kp⟩;rw [va0]
  ·exact q2
  ·intro y; subst y; rw [h] at q2; cases q2
 ·subst z; rw [ya0] at e; cases e; exact ⟨vs,zb0,r.mono kp⟩
 ·rw [za0 z] at e;obtain ⟨us,q1,r1⟩:=m.dck q ks e;exact ⟨us,by rw [va0 z]; exact q1,r1.mono kp⟩
variable {vs:List (Key × V)}
theorem RelKk.len {l:List (Key × D)} (r:RelKk K H l vs):l.length=vs.length:=by
 induction r with
 | nil=>rfl
 | cons _ _ ih=>rw [length_cons,length_cons,ih]
theorem RelKk.any {K:Fg} {H:Hp} {t:Key} {l:List (Key × D)} {vs:List (Key × V)} (r:RelKk K H l vs):(vs.any λ kv=>decide (kv.1=t))=l.any λ kv=>decide (kv.1=t):=by
 induction r with
 | nil=>rfl
 | cons _ _ ih=>rw [any_cons,any_cons,ih]
variable {t:Key}
theorem RelKk.val {l:List (Key × D)} (r:RelKk K H l vs):(valK l t=none /\ valV vs t=none) \/ ∃ d v,valK l t=some d /\ valV vs t=some v /\ RelD K H d v:=by
 induction r with
 | nil=>exact .inl ⟨rfl,rfl⟩
 | cons h _ ih =>
  rename_i t' d' v' l' vs' _;by_cases c:t'=t
  ·subst c;exact .inr ⟨d',v',by simp [valK],xp0 rfl,h⟩
  ·have e1:valK ((t',d') :: l') t=valK l' t:=by simp [valK,c]
   rw [e1,yp0 (p:=(t',v')) c];exact ih
variable {y:D} {v:V}
theorem RelKk.put (ry:RelD K H y v) {l:List (Key × D)} (r:RelKk K H l vs):RelKk K H (putY l t y) (putK vs t v):=by
 have rep:∀ {l:List (Key × D)} {vs:List (Key × V)},RelKk K H l vs->RelKk K H (l.map λ kv=>if kv.1=t then (kv.1,y) else kv) (vs.map λ kv=>if kv.1=t then (kv.1,v) else kv):=by
  intro l vs r
  induction r with
  | nil=>exact .nil
  | cons h _ ih =>
   rename_i t' d' v' l' vs' _;rw [map_cons,map_cons];by_cases c:t'=t
   ·rw [if_pos c,if_pos c]; exact .cons ry ih
   ·rw [if_neg c,if_neg c]; exact .cons h ih
 have snoc:∀ {l:List (Key × D)} {vs:List (Key × V)},RelKk K H l vs->RelKk K H (l ++ [(t,y)]) (vs ++ [(t,v)]):=by
  intro l vs r
  induction r with
  | nil=>exact .cons ry .nil
  | cons h _ ih=>exact .cons h ih
 unfold putY putK;rw [r.any];split
 ·exact rep r
 ·exact snoc r
theorem sl1 {k:Key} (r:RelD K H y v) (e:keyK y=some k):v=kV k:=by
 cases r <;> simp [keyK] at e <;> subst e <;> rfl
variable {X:Cx}
section
variable {pos pos':Pos}
theorem wz4:RE X (.Dict [] [] pos) dnk3:=⟨_,xy2,λ σ H Q ρ μ Q3 s m h k p hp=>k _ _ _ _ (h p (m.free hp)) (Kp.new hp) [43] (m.newK hp)⟩
theorem vz4 {o i:Expr} {to ti:TE3} (hu:[66]) (ho:RE X o to) (hi:RE X i ti) (hs:NoSl i:=by intro _ _; rfl):RE X (.Subscript o i pos) (o3 dgkR to ti):=by
 obtain ⟨vo,po,ro⟩:=ho;obtain ⟨vi,pi,ri⟩:=hi;refine ⟨_,sy3 [7] po pi hs,λ σ H Q ρ μ Q3 s m h k=>ro σ H _ ρ μ _ s m h λ x μ1 a H1 h1 k1 r1 m1=>ri σ H1 _ ρ μ1 _ [90] m1 h1 λ y μ2 b H2 h2 k2 r2 m2=>?_⟩;unfold dgkR at h2;split at h2
 ·next p kk ek =>
  split at h2
  ·next kvs e =>
   split at h2
   ·next v ev =>
    cases r1;obtain ⟨ws,hw,rk⟩:=m2.dck p kvs e;cases sl1 r2 ek;rcases rk.val (t:=kk) with ⟨z,_⟩ | ⟨d,w,z1,z2,rd⟩
    ·rw [ev] at z; cases z
    ·rw [ev] at z1;cases z1;have g:=DGet.k (k:=kk) hw;rw [z2] at g;exact ⟨p,w,rfl,g,k _ _ _ _ h2 (k1.trans k2) rd m2⟩
   ·exact h2.elim
  ·exact h2.elim
 ·exact h2.elim
theorem sf5 (neg:Bool) (hu:[66]):RO X (compareOp (if neg then .NotIn else .In)) (um1 neg):=by
 refine ⟨λ y x H Q=>∃ a o,x=.ref a /\ DGet H a y o /\ Q (.bl (if neg then !o.isSome else o.isSome)) H,?_,λ y x b a H Q μ Q3 m ry rx h k=>?_⟩
 ·intro pins s σ H y x u v Q I ry rx h;obtain ⟨a,o,rfl,g,q⟩:=h;cases rx;cases neg with
  | true=>exact te4 [7] I g ry λ s' I'=>⟨.bl (!o.isSome),H,I',rfl,q⟩
  | false=>exact d_in [7] I g ry λ s' I'=>⟨.bl o.isSome,H,I',rfl,q⟩
 ·unfold um1 at h;split at h
  ·next p kk ek =>
   split at h
   ·next kvs e =>
    cases rx;obtain ⟨ws,hw,rk⟩:=m.dck p kvs e;cases sl1 ry ek;refine ⟨p,_,rfl,DGet.k (k:=kk) hw,?_⟩
    have es:(valV ws kk).isSome=(valK kvs kk).isSome:=by
     rcases rk.val (t:=kk) with ⟨z1,z2⟩ | ⟨d,w,z1,z2,_⟩ <;> rw [z1,z2] <;> rfl
    rw [es];exact k _ _ _ _ h [37] (.bl _) m
   ·exact h.elim
  ·exact h.elim
theorem yw3 (hu:[66]):RO X (compareOp .In) (um1 false):=sf5 false hu
theorem zv2 {o i value:Expr} {to ti tv:TE3} (hu:[66]) (ho:RE X o to) (hi:RE X i ti) (hv:RE X value tv) (hs:swapsWith value (some (.Subscript o i pos')) pos.line X.env=pure false:=by rfl) :
    RS X (.Assign [.Subscript o i pos'] value pos) (th1 to ti tv):=by
 obtain ⟨vo,po,ro⟩:=ho;obtain ⟨vi,pi,ri⟩:=hi;obtain ⟨vv,pv,rv⟩:=hv
 refine ⟨_,ux3 [7] po pi pv hs,λ σ H D ρ μ D3 s m h k=>rv σ H _ ρ μ _ s m h λ y μ1 v H1 h1 k1 r1 m1=>ro σ H1 _ ρ μ1 _ [90] m1 h1 λ d μ2 x H2 h2 k2 r2 m2 =>
  ri σ H2 _ ρ μ2 _ (s.mono (k1.trans k2)) m2 h2 λ kd μ3 b H3 h3 k3 r3 m3=>?_⟩
 split at h3
 ·next p kk ek =>
  split at h3
  ·next kvs e =>
   cases r2;obtain ⟨ws,hw,rk⟩:=m3.dck p kvs e;cases sl1 r3 ek;have hl:=rk.len;have hz:(90000:Nat) < sizeLine:=by decide
   refine ⟨p,_,rfl,DPut.k (k:=kk) hw [7],?_⟩;exact k.nx _ _ _ _ h3.2 (k1.trans (k2.trans (k3.trans (Kp.wrK hw)))) (s.mono (k1.trans (k2.trans (k3.trans (Kp.wrK hw))))) (m3.wrK hw (rk.put (r1.mono (k2.trans k3))))
  ·exact h3.elim
 ·exact h3.elim
end
def dcpR:List D->Mu->(D->Mu->Prop)->Prop:=λ xs μ Q=>match xs with
 | [.ref p]=>match μ p with
  | some (.dck kvs)=>∀ r,μ r=none->Q (.ref r) (updM μ r (.dck kvs))
  | _=>False
 | _=>False
def dneR:R3:=λ x y μ Q=>match x,y with
 | .ref p,.ref q=>match μ p,μ q with
  | some (.dck ka),some (.dck kb)=>ka=kb /\ (∀ kv ∈ ka,∃ d,datM μ kv.2=some d /\ d.depth < 64) /\ Q (.bl false) μ
  | _,_=>False
 | _,_=>False
theorem RelM.newKs {kvs:List (Key × D)} (h:H p=none) (r:RelKk K H kvs vs) (m:RelM K μ H):RelM K (updM μ p (.dck kvs)) (upd H p (.dK vs)):=by
 have m':=m.newT (o:=.dK vs) h;refine ⟨λ q ys e=>?_,λ q c fs e=>?_,λ q kvs e=>?_⟩ <;> by_cases z:q=p
 ·subst z; rw [ya0] at e; cases e
 ·rw [za0 z] at e; exact m'.lst q ys e
 ·subst z; rw [ya0] at e; cases e
 ·rw [za0 z] at e; exact m'.ins q c fs e
 ·subst z; rw [ya0] at e; cases e; exact ⟨vs,zb0,r.mono (Kp.new h)⟩
 ·rw [za0 z] at e; exact m'.dck q kvs e
section
variable {pos pos':Pos}
def rDcp:List V->Hp->VK->Prop:=λ xs H Q=>∃ p vs,xs=[.ref p] /\ H p=some (.dK vs) /\ ∀ r,H r=none->Q (.ref r) (upd H r (.dK vs))
theorem we3:CallR X (.type "dict") rDcp:=by
 intro pins s σ H xs us Q I r h;obtain ⟨p,vs,rfl,hp,k⟩:=h;cases r with
 | cons r rr =>
  cases rr;cases r;exact vd3 I (.inl hp) λ r s' hr I'=>⟨.ref r,_,I',rfl,k r hr⟩
theorem q_dcp:RC X (.type "dict") dcpR:=by
 refine ⟨_,we3,λ xs vs H Q μ Q3 m rx h k=>?_⟩;unfold dcpR at h;split at h
 ·next p =>
  split at h
  ·next kvs e =>
   cases rx with
   | cons r rr =>
   cases rr;cases r;obtain ⟨us,hq,rl⟩:=m.dck p kvs e;exact ⟨p,us,rfl,hq,λ r hr=>k _ _ _ _ (h r (m.free hr)) (Kp.new hr) (.ref r) (m.newKs hr rl)⟩
  ·exact h.elim
 ·exact h.elim
theorem zr1 {X:Cx} {pins:[20]} {σ:L2.St} {H:Hp} {s:[88]} {A:Around} (I:[10]) {μ:Mu} (m:RelM X.K μ H) (hu:A.units + 64 < cLine) {wb:List (Key × Value)} (nd:(wb.map (·.1)).Nodup) :
    ∀ {ka:List (Key × D)} {va vb:List (Key × V)} {ua ub:List (Key × Value)} (n:Nat),RelKk X.K H ka va->RelKk X.K H ka vb->KV va ua->KV vb ub->wb.drop n=ub->(∀ kv ∈ ka,∃ d,datM μ kv.2=some d /\ d.depth < 64)->PySem.W.KeqHits A.in1 s wb ua true
 | [],_,_,_,_,n,.nil,.nil,a,b,e,h=>by cases a; exact .nil
 | (t,d) :: ka,_,_,_,_,n,.cons h1 r1,.cons h2 r2,a,b,e,h=>by
  cases a with
  | cons a1 ar =>
  cases b with
  | cons b1 br =>
  rename_i u1 ur w1 wr;obtain ⟨k1,x1⟩:=u1;obtain ⟨k2,x2⟩:=w1;obtain ⟨e1,q1⟩:=a1;obtain ⟨e2,q2⟩:=b1;dsimp only at e1 e2 q1 q2;subst e1;subst e2;obtain ⟨p,hp,hd⟩:=h _ (.head _);obtain ⟨as,z1⟩:=te0 I m h1 hp q1;obtain ⟨bs,z2⟩:=te0 I m h2 hp q2;have c:=su0 hp
  have hr:A.in1.units + min p.depth p.depth < cLine:=by
   have:A.in1.units=A.units + 1:=rfl;omega
  have ev:=PySem.SeqAt.eqAt_reads p p A.in1 s _ _ as bs z1 z2 c c hr;rw [PySem.SeqAt.eqv_refl p c] at ev
  have g:wb[n]?=some (t,x2):=by
   have:=congrArg (·[0]?) e;simpa using this
  refine .hit (b:=true) (valueAt_of_get nd g) ev (zr1 I m hu nd (n + 1) r1 r2 ar br ?_ λ kv hk=>h kv (.tail _ hk));rw [<- List.tail_drop,e]; rfl
theorem q_dne (hu:[66]):RO X (compareOp .NotEq) dneR:=by
 refine ⟨λ x y H Q=>∃ a b ka va vb μ,x=.ref a /\ y=.ref b /\ RelM X.K μ H /\ H a=some (.dK va) /\ H b=some (.dK vb) /\ RelKk X.K H ka va /\ RelKk X.K H ka vb /\ (∀ kv ∈ ka,∃ d,datM μ kv.2=some d /\ d.depth < 64) /\ Q (.bl false) H,?_,λ x y v u H Q μ Q3 m rx ry h k=>?_⟩
 ·intro pins s σ H x y u v Q I rx ry h;obtain ⟨a,b,ka,va,vb,μ,rfl,rfl,m,ha,hb,r1,r2,hk,q⟩:=h;cases rx;cases ry;obtain ⟨z1,n1,us,k1,d1⟩:=ze4 I.hok ha;obtain ⟨z2,n2,ws,k2,d2⟩:=ze4 I.hok hb;have nd:(ws.map (·.1)).Nodup:=by obtain ⟨_,_,_,_,_,_,_,_,nd⟩:=d2; exact nd
  have l1:=k1.length;have l2:=k2.length;have l3:=r1.len;have l4:=r2.len;refine PySem.W.keq_ne n1 n2 d1 d2 [7] (λ _=>zr1 I m ?_ nd 0 r1 r2 k1 k2 rfl hk) ⟨.bl false,H,I,?_,q⟩
  ·exact hu
  ·have:us.length=ws.length:=by omega
   rw [this]; simp; rfl
 ·unfold dneR at h;split at h
  ·next p q =>
   split at h
   ·next ka kb e1 e2 =>
    cases rx;cases ry;obtain ⟨rfl,h1,h2⟩:=h;obtain ⟨us,hq,rl⟩:=m.dck p ka e1;obtain ⟨ws,hq2,rl2⟩:=m.dck q ka e2;exact ⟨p,q,ka,us,ws,μ,rfl,rfl,m,hq,hq2,rl,rl2,h1,k _ _ _ _ h2 [37] (.bl _) m⟩
   ·exact h.elim
  ·exact h.elim
end
end Pv
namespace Pv
open PySem
def mnR:C3:=λ ds μ Q=>match ds with
 | [.int i,.int j]=>Q (.int (if j < i then j else i)) μ
 | [.tup [.int a,.int b],.tup [.int c,.int d]]=>Q (if ltP c d a b then .tup [.int c,.int d] else .tup [.int a,.int b]) μ
 | [.ref p]=>match μ p with
  | some (.lst l)=>match ints? l with
   | some ns=>0 < ns.length /\ ∀ m,m ∈ ns->(∀ a,a ∈ ns->m<=a)->Q (.int m) μ
   | none=>False
  | _=>False
 | _=>False
theorem mnR_pp (a b c d:Int) (μ:Mu) (Q:VK3):mnR [.tup [.int a,.int b],.tup [.int c,.int d]] μ Q=Q (if ltP c d a b then .tup [.int c,.int d] else .tup [.int a,.int b]) μ:=propext ⟨λ h=>h,λ h=>h⟩
def putD (f:Str) (v:D):List (Str × D)->List (Str × D)
 | []=>[(f,v)]
 | (g,x) :: r=>if g=f then (g,v) :: r else (g,x) :: putD f v r
def fld3 (t:TE3) (c f:Str):TE3:=λ ρ μ Q=>t ρ μ λ d μ1=>match d with
 | .ref p=>match μ1 p with
  | some (.ins c' fs)=>c'=c /\ (match fs.lookup f with
   | some v=>Q v μ1
   | none=>False)
  | _=>False
 | _=>False
def us3 (to tv:TE3) (c f:Str):TS3:=λ D' ρ μ=>tv ρ μ λ y μ1=>to ρ μ1 λ d μ2=>match d with
 | .ref p=>match μ2 p with
  | some (.ins c' fs)=>(c'=c /\ fs.length < 1000) /\ D'.nx ρ (updM μ2 p (.ins c (putD f y fs)))
  | _=>False
 | _=>False
def zb4 (c:Str) (sp:Sp3) (t:TA3):TE3:=λ ρ μ Q=>t ρ μ λ ds μ1=>∀ p,μ1 p=none->sp (.ref p :: ds) (updM μ1 p (.ins c [])) (λ v μ2=>v=.non /\ Q [43] μ2)
def xd0 (c m:Str) (sp:Sp3) (to:TE3) (t:TA3):TE3:=λ ρ μ Q=>to ρ μ λ d μ1=>match d with
 | .ref p=>match μ1 p with
  | some (.ins c' fs)=>(c'=c /\ fs.lookup m=none) /\ t ρ μ1 λ ds μ2=>sp (.ref p :: ds) μ2 Q
  | _=>False
 | _=>False
abbrev XE3:=Str->Mu->Prop
def vc0 (XE:XE3) (x:Str) (t:TA3):TS3:=λ _ ρ μ=>t ρ μ λ ds μ1=>ds.length<=sizeLine /\ XE x μ1
def zl2:D->St3->St3:=λ _ ρ=>ρ
def yu2 (j:Nat):D->St3->St3:=λ d ρ=>ρ.set j (some d)
end Pv
namespace Pv
open PySem PySem.Spec PyProof.Rows L2
open Sem (wp)
def F2 (h:Heap) (e:Addr):Prop:=∃ oe vs,h.get? e=some oe /\ oe.data=.fields vs /\ vs[2]?=some .none
structure Kf {α:Type} (e:Addr) (t:Sem α):Prop where
 out:∀ (M:Model) (Γ:PySem.Ctx) (P:α->Pos->Shared->Prop) (E:Value->Pos->Shared->Prop) (p:Pos) (s:Shared),F2 s.heap e->wp M Γ t P E p s->wp M Γ t (λ a p' s'=>P a p' s' /\ F2 s'.heap e) E p s
variable {e:Addr} {M:Model} {A:Around} {s:[88]}
namespace Kf
variable {α β:Type} 
theorem pure (a:α):Kf e (Pure.pure a:Sem α):=⟨λ _ _ _ _ _ _ f h=>⟨h,f⟩⟩
theorem uns (w:String):Kf e (unsupported w:Sem α):=⟨λ _ _ _ _ _ _ _ h=>h⟩
theorem bind {m:Sem α} {g:α->Sem β} (hm:Kf e m) (hg:∀ a,Kf e (g a)):Kf e (m >>= g):=⟨λ M Γ P E p s f h=>by
 rw [Sem.wp_bind'] at h ⊢;exact Sem.wp_mono M Γ m (λ a p' s' ⟨h1,f1⟩=>(hg a).out M Γ P E p' s' f1 h1) (λ _ _ _ x=>x) p s (hm.out M Γ _ E p s f h)⟩
theorem ite {c:Prop} [Decidable c] {t u:Sem α} (ht:Kf e t) (hu:Kf e u):Kf e (if c then t else u):=by split <;> assumption
theorem load (a:Addr):Kf e (PySem.load a):=⟨λ _ _ _ _ _ _ f ⟨o,h1,h2⟩=>⟨o,h1,h2,f⟩⟩
theorem stack:Kf e PySem.stack:=⟨λ M Γ P E p s f h=>by
 unfold PySem.stack at h ⊢;rw [Sem.wp_stack] at h ⊢;exact ⟨h,f⟩⟩
theorem alloc (o:Obj):Kf e (PySem.alloc o):=⟨λ _ _ _ _ _ _ ⟨oe,vs,h1,h2,h3⟩ h=>⟨h,oe,vs,Heap.get?_push_of_some _ h1,h2,h3⟩⟩
theorem slots (a:Addr) (g:Obj->Array (Option Value)):Kf e (PySem.update a λ o=>{ o with slots:=g o }):=⟨λ _ _ _ _ _ s ⟨oe,vs,h1,h2,h3⟩ ⟨h,k⟩=>⟨h,k,by
 by_cases q:a=e
 ·subst q;exact ⟨_,vs,Heap.get?_update_self (λ o=>{ o with slots:=g o }) h1 (Obj.isFreed_of_fields h2),h2,h3⟩
 ·exact ⟨oe,vs,(Heap.get?_update_ne _ _ _ _ (Ne.symm q)).trans h1,h2,h3⟩⟩⟩
theorem field (v:Value) (i:Nat):Kf e (PySem.field v i):=⟨λ _ Γ P E p s f h=>by
 rw [wp_field_iff] at h ⊢;obtain ⟨a,o,vs,x,h1,h2,h3,h4,h5⟩:=h;exact ⟨a,o,vs,x,h1,h2,h3,h4,h5,f⟩⟩
theorem setField (v:Value) {i:Nat} (x:Value) (hi:i ≠ 2):Kf e (PySem.setField v i x):=⟨λ _ Γ P E p s ⟨oe,vs,h1,h2,h3⟩ h=>by
 rw [wp_setField_iff] at h ⊢;obtain ⟨a,o,ws,k1,k2,k3,k4,k5⟩:=h;refine ⟨a,o,ws,k1,k2,k3,k4,k5,?_⟩;by_cases q:a=e
 ·subst q;have hd:=Obj.data_mapFields h2 (·.setIfInBounds i x);exact ⟨_,_,Heap.get?_update_self (Obj.mapFields (·.setIfInBounds i x)) h1 (Obj.isFreed_of_fields hd),hd,by rw [Array.getElem?_setIfInBounds_ne hi]; exact h3⟩
 ·exact ⟨oe,vs,(Heap.get?_update_ne _ _ _ _ (Ne.symm q)).trans h1,h2,h3⟩⟩
theorem sx4:∀ l:List Env,Kf e (readyFrames l)
 | []=>Kf.pure _
 | env :: outer=>by
  have ih:=sx4 outer;unfold readyFrames;unfold behindIsImport keptBack underTheClaimsCaller
  repeat' with_reducible first | assumption | exact Kf.pure _ | exact Kf.uns _ | exact Kf.field _ _ | exact Kf.load _ | exact Kf.stack | exact Kf.slots _ _ | apply Kf.ite | apply Kf.bind | intro _ | split
theorem note (v:Value) (env:Env):Kf e (noteFrame v env):=by
 have r:=λ l=>sx4 (e:=e) l;unfold noteFrame EntryCells.newEntry newFields newObj newObjAsIs PySem.frameOf frameObject entryPlaceOf frameEnvs
 repeat' with_reducible first | assumption | exact Kf.pure _ | exact Kf.uns _ | exact Kf.field _ _ | exact Kf.load _ | exact Kf.stack | exact Kf.alloc _ | exact Kf.setField _ _ [8] | exact r _ | apply Kf.ite | apply Kf.bind | intro _ | split
theorem flight (v:Value) (o:Option Addr):Kf e (setFlight v o):=by
 unfold setFlight
 repeat' with_reducible first | exact Kf.pure _ | exact Kf.field _ _ | exact Kf.setField _ _ [8] | apply Kf.ite | apply Kf.bind | intro _ | split
theorem leav (v:Value) (env:Env):Kf e (leaving env v):=Kf.bind (note v env) λ _=>flight v none
theorem any {t:Sem α} (k:Kf e t) {Q:α->Shared->Prop} {E:[9]} (f:F2 s.heap e) (h:wpAny M A t Q E s):wpAny M A t (λ a s'=>Q a s' /\ F2 s'.heap e) E s :=
 λ Γ p hΓ=>k.out M Γ _ _ p s f (h Γ p hΓ)
theorem any' {o:Prop} {t:Sem α} (k:Kf e t) {Q:α->Shared->Prop} {E:[9]} (f:o->F2 s.heap e) (h:wpAny M A t Q E s):wpAny M A t (λ a s'=>Q a s' /\ (o->F2 s'.heap e)) E s:=by
 by_cases q:o
 ·exact wpAny_mono (k.any (f q) h) (λ _ _ z=>⟨z.1,λ _=>z.2⟩) λ _ _ z=>z
 ·exact wpAny_mono h (λ _ _ z=>⟨z,λ y=>absurd y q⟩) λ _ _ z=>z
end Kf
def CXn (P:[83]) (w:World):CXT:=λ outer H s E e s'=>∃ (ea:Addr) (cls a0:Value) (H':Hp) (B:Heap),e=.ref ea /\ s'.os=s.os /\ AllBare s'.gens /\ Un (frs outer) [] H H' s.heap s'.heap /\ HOk P w H' s'.heap ∧
 Heap.FlyingW B outer ea cls a0 s'.heap /\ H' ea=none /\ (∀ b o,s'.heap.get? b=some o->b ∉ frs outer->(∃ o',s.heap.get? b=some o')->B.get? b=some o) /\ (∀ b,H' b ≠ none->∃ o,s'.heap.get? b=some o /\ B.get? b=some o) /\ ∃ o:Option Addr,(o=none->F2 s'.heap ea) /\ E cls o H'
variable {P:[83]} {w:World} {K:Fg} {mg:[25]} {base:Heap} {N:[29]} {qual:Str} {scope:Scope} {f:Addr} {cd:Value} {outer:List Env} {s0:[88]} {H0:Hp}
theorem zy2 {E:XK} :
    vo0 (CXn P w) [6] E:=by
 intro pins σ H s e s' I h;obtain ⟨ea,cls,a0,H',B,rfl,os,bare,u2,hok,fl,hea,cov1,cov2,oo,hf2,hE⟩:=h;have u1:Un (frs outer) [] H0 H s0.heap s.heap:=I.base;have habove:s0.heap.objs.size<=[4].locals:=I.ok.above
 have hloc:∀ {b:Addr} {o:Obj},s0.heap.get? b=some o->b ≠ [4].locals:=λ {b o} q z=>by
  have:=Heap.lt_size q;rw [z] at this;exact absurd this (Nat.not_lt.mpr habove)
 have hfs:frs ([4] :: outer)=[4].locals :: frs outer:=rfl
 have hfn:∀ {b:Addr} {o:Obj},s0.heap.get? b=some o->b ∉ frs outer->b ∉ frs ([4] :: outer):=λ {b o} q z hm=>by
  rw [hfs] at hm;rcases List.mem_cons.mp hm with hm | hm
  ·exact hloc q hm
  ·exact z hm
 show wpAny (model P w) (A.deeper [4]) (leaving [4] (.ref ea)) _ _ s';refine wpAny_mono ((Kf.leav _ _).any' hf2 (wpAny_leaves_onW (Q:=λ _ z=>∃ h',z={ s' with heap:=h' } /\ Heap.FlyingW B outer ea cls a0 h' /\ s'.heap.UpToSlots h') I.ok.frames rfl fl λ h' fl' up=>⟨h',rfl,fl',up⟩)) (λ _ z hz=>?_) λ _ _ z=>z;obtain ⟨⟨h',rfl,fl',up⟩,hf3⟩:=hz
 have far:∀ b o,s0.heap.get? b=some o->b ∉ frs outer->∃ o',s'.heap.get? b=some o' /\ B.get? b=some o' /\ h'.get? b=some o':=λ b o q hb=>by
  obtain ⟨o1,e1⟩:=u1.there b o q [18];obtain ⟨o2,e2⟩:=u2.there b o1 e1 [18];have e3:=cov1 b o2 e2 (hfn q hb) ⟨o1,e1⟩;exact ⟨o2,e2,e3,fl'.1 b o2 e3⟩
 have frm:∀ b o,s'.heap.get? b=some o->b ∈ frs outer->∃ sl,h'.get? b=some { o with slots:=sl }:=λ b o q hb=>by
  have hm:b ∈ ([4] :: outer).filterMap (·.frame):=by
   show b ∈ frs _;rw [hfs]; exact mem_cons_of_mem _ hb
  obtain ⟨_,o',ho,hnf⟩:=fl.2.2.1.mem hm;rw [q] at ho; cases ho;exact up b o q hnf
 refine ⟨ea,cls,a0,H',B,rfl,os.trans I.os,bare,?_,?_,fl',hea,?_,?_,oo,hf3,hE⟩
 ·refine ⟨λ b o q n hb _=>?_,λ b o q n hb _=>?_,λ b o q n _=>?_,λ b o q _=>?_,λ b xs q=>u2.tups b xs (u1.tups b xs q),λ b o u q=>u2.frzs b o u (u1.frzs b o u q),λ b ps q=>?_⟩
  ·have e1:=u1.keep b o q n hb [18];have e2:=u2.keep b o e1 (u1.free b o q n [18]) (hfn q hb) [18];obtain ⟨o',e3,_,e5⟩:=far b o q hb;rw [e2] at e3; cases e3;exact e5
  ·obtain ⟨sl,e1⟩:=u1.slot b o q n hb [18];obtain ⟨sl2,e2⟩:=u2.slot b _ e1 (u1.free b o q n [18]) (by show b ∈ frs ([4] :: outer); rw [hfs]; exact mem_cons_of_mem _ hb) [18];obtain ⟨sl3,e3⟩:=frm b _ e2 hb;exact ⟨sl3,e3⟩
  ·obtain ⟨o1,e1⟩:=u1.there b o q [18];exact u2.free b o1 e1 (u1.free b o q n [18]) [18]
  ·by_cases hb:b ∈ frs outer
   ·obtain ⟨o1,e1⟩:=u1.there b o q [18];obtain ⟨o2,e2⟩:=u2.there b o1 e1 [18];obtain ⟨sl,e3⟩:=frm b o2 e2 hb;exact ⟨_,e3⟩
   ·obtain ⟨o',_,_,e5⟩:=far b o q hb;exact ⟨o',e5⟩
  ·obtain ⟨m1,e1⟩:=u1.tbls b ps q;obtain ⟨m2,e2⟩:=u2.tbls b _ e1;exact ⟨m1 ++ m2,by rw [e2,Array.append_assoc]⟩
 ·refine λ a o e=>(hok a o e).stay (λ b u hb q=>?_) (λ _ h=>h) (λ _ _ h=>h)
  have hne:H' b ≠ none:=by
   rcases hb with rfl | hb
   ·rw [e]; simp
   ·rw [hb]; simp
  obtain ⟨o',e1,e2⟩:=cov2 b hne;rw [q] at e1; cases e1;exact fl'.1 b _ e2
 ·intro b o q hb ⟨o',q'⟩;obtain ⟨o2,_,e4,e5⟩:=far b o' q' hb;have q2:h'.get? b=some o:=q;rw [e5] at q2; cases q2;exact e4
 ·intro b hb;obtain ⟨o,e1,e2⟩:=cov2 b hb;exact ⟨o,fl'.1 b o e2,e2⟩
variable {H:Hp}
theorem xs0 {h:Heap} {a:Addr} {o:HO} (x:ObjOk P w H h a o):∃ ob,h.get? a=some ob:=by
 induction o with
 | lst xs=>obtain ⟨z,its,n,r,e⟩:=x; exact ⟨_,e⟩
 | tup xs=>obtain ⟨z,its,r,ob,e,c⟩:=x; exact ⟨_,e⟩
 | dK kvs=>obtain ⟨z,y,vs,r,ob,es,ep,e,c⟩:=x; exact ⟨_,e⟩
 | dT kvs=>obtain ⟨z,y,xs,r,ob,es,ep,e,c⟩:=x; exact ⟨_,e⟩
 | set S n=>obtain ⟨ob,es,ep,t,e,c⟩:=x; exact ⟨_,e⟩
 | ins C dx fs=>obtain ⟨d,z,ne,e,mA,_,r⟩:=x; exact ⟨_,e⟩
 | own y=>obtain ⟨ob,e⟩:=x; exact ⟨_,e⟩
 | xd fs=>obtain ⟨mA,⟨od,es,ep,e,c⟩,r⟩:=x; exact ⟨_,e⟩
 | rng lo hi=>obtain ⟨t,u,v,e⟩:=x; exact ⟨_,e⟩
 | frz ob u ih=>obtain ⟨e,q⟩:=x; exact ⟨_,e⟩
 | tbl ps=>exact ⟨_,x⟩
 | met f y=>exact ⟨_,x⟩
 | ext φ=>obtain ⟨p,⟨o,e⟩,st⟩:=x; exact ⟨_,e⟩
variable {pins:[20]} {σ:L2.St} {h1:Heap} {x:Str} {C:Addr} {e₀:Expr} {pos:Pos}
section
variable {E:XK}
theorem vh2 {a0:Value} {oe:Obj} {ws:Array Value} {oo:Option Addr} (I:L2.Inv [6] pins σ H s) (hxk:∀ b o,s.heap.get? b=some o->h1.get? b=some o) (hxn:s.heap.get? e=none) (he:h1.get? e=some oe) (hd:oe.data=.fields ws) (hw1:ws[1]?=some .none) (hw0:ws[0]?=some a0) (hw2:oo=none->ws[2]?=some .none) (hE:E oe.cls oo H) :
    [6].xe (.ref e) { s with heap:=h1 }:=by
 have u1:Un (frs outer) [] H0 H s0.heap s.heap:=I.base;have e0:=I.env0;have habove:s0.heap.objs.size<=[4].locals:=I.ok.above;have hfs:frs ([4] :: outer)=[4].locals :: frs outer:=rfl
 have hfn:∀ {b:Addr} {o:Obj},s0.heap.get? b=some o->b ∉ frs outer->b ∉ frs ([4] :: outer):=λ {b o} q z hm=>by
  rw [hfs] at hm;rcases List.mem_cons.mp hm with hm | hm
  ·have:=Heap.lt_size q;rw [hm] at this;exact absurd this (Nat.not_lt.mpr habove)
  ·exact z hm
 have hin:∀ env ∈ ([4] :: outer),∀ b,env.frame=some b->b ∈ frs ([4] :: outer):=λ env he b hb=>List.mem_filterMap.mpr ⟨env,he,hb⟩;have hfun:s.heap.FunFrames base ([4] :: outer):=e0.funs;have hl:=PySem.W.funFrames_hide hfun hin;show wpAny (model P w) (A.deeper [4]) (leaving [4] (.ref e)) _ _ _
 have hen:(hideAll s.heap (frs ([4] :: outer))).get? e=none:=by
  cases q:(hideAll s.heap (frs ([4] :: outer))).get? e with
  | none=>rfl
  | some o=>have:=of_hideAll _ q; rw [hxn] at this; cases this
 refine wpAny_mono ((Kf.leav _ _).any' (λ z=>⟨oe,ws,he,hd,hw2 z⟩) (wpAny_leaving_firstW (Q:=λ _ z=>∃ h',z=[96] /\ Heap.FlyingW (hideAll s.heap (frs ([4] :: outer))) outer e oe.cls a0 h' /\ h1.UpToSlots h') (s:={ s with heap:=h1 }) (a0:=a0) I.ok.frames (hl.of_keeps λ b o hb _=>⟨o,hxk b o hb,rfl⟩) rfl he (λ b o q=>hxk b o (of_hideAll _ q)) hen hd hw1 hw0 λ h' hL=>?_)) (λ _ z hz=>?_) λ _ _ z=>z
 ·obtain ⟨k1,⟨_,_,k2⟩,k3,k4⟩:=hL;exact ⟨h',rfl,⟨k1,hen,k2,k3⟩,k4⟩
 obtain ⟨⟨h',rfl,fl,up⟩,hf3⟩:=hz;have inB:∀ b o,s.heap.get? b=some o->b ∉ frs ([4] :: outer)->(hideAll s.heap (frs ([4] :: outer))).get? b=some o:=λ b o q hb=>hideAll_get _ q hb
 have trk:∀ b,H b ≠ none->∃ o,s.heap.get? b=some o /\ b ∉ frs ([4] :: outer):=λ b hb=>by
  cases q:H b with
  | none=>exact absurd q hb
  | some ho =>
   obtain ⟨o,eo⟩:=xs0 (I.hok b ho q);refine ⟨o,eo,λ hm=>?_⟩;have:=e0.frf b hm;rw [q] at this; cases this
 have frm:∀ b o,s.heap.get? b=some o->b ∈ frs outer->∃ sl,h'.get? b=some { o with slots:=sl }:=λ b o q hb=>by
  have hm:b ∈ ([4] :: outer).filterMap (·.frame):=by
   show b ∈ frs _;rw [hfs]; exact mem_cons_of_mem _ hb
  obtain ⟨_,o',ho,hnf⟩:=hfun.mem hm;rw [q] at ho; cases ho;exact up b o (hxk b o q) hnf
 refine ⟨e,oe.cls,a0,H,_,rfl,I.os,I.bare,?_,?_,fl,?_,?_,?_,oo,hf3,hE⟩
 ·refine ⟨λ b o q n hb _=>?_,λ b o q n hb _=>?_,λ b o q n _=>u1.free b o q n [18],λ b o q _=>?_,λ b xs q=>u1.tups b xs q,λ b o u q=>u1.frzs b o u q,λ b ps q=>u1.tbls b ps q⟩
  ·exact fl.1 b o (inB b o (u1.keep b o q n hb [18]) (hfn q hb))
  ·obtain ⟨sl,e1⟩:=u1.slot b o q n hb [18];obtain ⟨sl2,e2⟩:=frm b _ e1 hb;exact ⟨sl2,e2⟩
  ·obtain ⟨o1,e1⟩:=u1.there b o q [18];by_cases hb:b ∈ frs outer
   ·obtain ⟨sl,e2⟩:=frm b o1 e1 hb;exact ⟨_,e2⟩
   ·exact ⟨o1,fl.1 b o1 (inB b o1 e1 (hfn q hb))⟩
 ·refine λ a o ha=>(I.hok a o ha).stay (λ b u hb q=>?_) (λ _ h=>h) (λ _ _ h=>h)
  have hne:H b ≠ none:=by
   rcases hb with rfl | hb
   ·rw [ha]; simp
   ·rw [hb]; simp
  obtain ⟨o',e1,e2⟩:=trk b hne;exact fl.1 b u (inB b u q e2)
 ·cases q:H e with
  | none=>rfl
  | some ho =>
   obtain ⟨o,eo⟩:=xs0 (I.hok e ho q);rw [hxn] at eo; cases eo
 ·intro b o q hb ⟨o',q'⟩;obtain ⟨o1,e1⟩:=u1.there b o' q' [18];have e2:=inB b o1 e1 (hfn q' hb);have e3:=fl.1 b o1 e2;have q2:h'.get? b=some o:=q;rw [e3] at q2; cases q2;exact e2
 ·intro b hb;obtain ⟨o,e1,e2⟩:=trk b hb;exact ⟨o,fl.1 b o (inB b o e1 e2),inB b o e1 e2⟩
theorem wf5 {cls:Value} {us:[27]} (I:L2.Inv [6] pins σ H s) (hx:Heap.MadeExcOf s.heap h1 e cls us) (hE:E cls none H) :
    [6].xe (.ref e) { s with heap:=h1 }:=by
 obtain ⟨t,h2,_,_⟩:=hx.there;exact vh2 (oo:=none) I hx.keeps hx.new h2 rfl rfl rfl (λ _=>rfl) hE
def yo4 (E:XK) (C:Addr) (ta:TA):TS:=λ _ σ H=>ta σ H λ vs H1=>vs.length<=sizeLine /\ E (.ref C) none H1
theorem xx2 {Bn B newId inN nid initId:String} {bm bmN:[27]} {rest:List Expr} {np cpos:Pos} {ta:TA}
    (O:OwnCls x C bm newId mg base) (Fn:ExcBaseFacts Bn newId inN bmN) (hBn:bm.contains (.type Bn)=true) (FB:ExcBaseFacts B nid initId bm)
    (hg:Gl [6] x) (ha:PA [6] (e₀ :: rest) ta)
    (he:starEach (e₀ :: rest) [4]=(false,eval e₀ [4]) :: starEach rest [4]:=by rfl)
    (hplain:(backTo cpos (starEach rest [4])).any (·.1)=false:=by rfl) (hd:[17]=false:=by decide) :
    PS [6] (.Raise (some (.Call (.Name x np) (e₀ :: rest) [] cpos)) none pos) (yo4 E C ta):=by
 intro pins s σ H D I h;obtain ⟨tl,NN,nm,q,bs,hdct,sn,sub,ab,col,dd,k0,k1,k2,k3,k5,mN,hC,hN,hni,T⟩:=O.obj
 refine wpAny_Raise_call_subU (C:=C) (nm:=nm) (q:=q) (N:=NN) (bs:=bs) (bm:=tl) (hdct:=hdct) (sn:=sn) (sub:=sub) (ab:=ab) (col:=col) (dd:=dd) (k0:=k0) (k1:=k1) (k2:=k2) (k3:=k3) (k5:=k5)
  Fn hBn FB (mN:=mN) (T.hasType FB.hasBase) (I.ok.hd rfl) (by
   show (backTo cpos (starEach (e₀ :: rest) [4])).any (·.1)=false;rw [he]; show (false || (backTo cpos (starEach rest [4])).any (·.1))=false; rw [hplain]; rfl) hni (xf0 I hg O.bound ⟨rfl,?_⟩ hd)
 have hA:=ha cpos pins s σ H _ I h;have he':starEach (e₀ :: rest) [6].env=_:=he;rw [he'] at hA ⊢;refine Calls.evalArgs_plain (thn hA λ us s2 ⟨vs,H2,I2,r2,q2⟩=>⟨rfl,?_,I2.bk _ _ hC,hN.keeps I2.bk,T.keeps I2.bk,λ h' e hx=>wf5 I2 hx q2.2⟩);rw [<- r2.length]; exact q2.1
def EXok (K:Fg) (mg:[25]) (XE:XE3) (E:XK):Prop:=∀ x C μ' H' o,XE x μ'->mg x=some (.ref C)->RelM K μ' H'->(x = "NoWord" -> o=none)->E (.ref C) o H'
def ub4 (K:Fg) (mg:[25]) (spx:[41]):Sp:=λ vs H Q E=>∃ ds μ Q3 XE,RelDs K H ds vs /\ RelM K μ H /\ spx XE ds μ Q3 /\ Ks K H Q3 Q /\ EXok K mg XE E
def CalX (P:[83]) (w:World) (K:Fg) (mg:[25]) (base:Heap) (k:Nat) (x:Str) (ps:[29]) (spx:[41]):Prop :=
 ∃ f fd,FnOk P w K mg base (CXn P w) k f fd ps (ub4 K mg spx) /\ mg x=some (.ref f) /\ keepIn K (.ref f)=true /\ Binds K fd ps []
theorem CalX.mono {j k:Nat} {x:Str} {ps:[29]} {spx:[41]} (c:CalX P w K mg base j x ps spx) (h:j<=k):CalX P w K mg base k x ps spx:=by
 obtain ⟨f,fd,F,r⟩:=c;exact ⟨f,fd,F.mono h,r⟩
variable {XE:XE3}
theorem yv2 {Bn B newId inN nid initId:String} {bm bmN:[27]} {rest:List Expr} {np cpos:Pos} {ta:TA3} (EX:[63])
    (O:OwnCls x C bm newId mg base) (Fn:ExcBaseFacts Bn newId inN bmN) (hBn:bm.contains (.type Bn)=true) (FB:ExcBaseFacts B nid initId bm)
    (ha:RA [6] (e₀ :: rest) ta) (hg:Gl [6] x:=by rfl)
    (he:starEach (e₀ :: rest) [4]=(false,eval e₀ [4]) :: starEach rest [4]:=by rfl)
    (hplain:(backTo cpos (starEach rest [4])).any (·.1)=false:=by rfl) (hd:[17]=false:=by decide) :
    RS [6] (.Raise (some (.Call (.Name x np) (e₀ :: rest) [] cpos)) none pos) (vc0 XE x ta):=by
 obtain ⟨va,pa,ra⟩:=ha;exact ⟨_,xx2 O Fn hBn FB hg pa he hplain hd,λ σ H D ρ μ D3 s m h k=>ra σ H _ ρ μ _ s m h λ ds μ1 vs H1 h1 k1 r1 m1=>⟨by rw [<- r1.length]; exact h1.1,EX x C μ1 H1 none h1.2 O.bound m1 (λ _=>rfl)⟩⟩
theorem ww2 {k:Nat} {ps:[29]} {spx:[41]} {e:Expr} {es:List Expr} {p:Pos} {t:TA3} (EX:[63]) (c:CalX P w K mg base k x ps spx) (hr:Room k (A.deeper [4]))
    (ha:RA [6] (e :: es) t) (hg:Gl [6] x:=by rfl) (hdb:[17]=false:=by decide)
    (he:starEach (e :: es) [4]=(false,eval e [4]) :: starEach es [4]:=by rfl) (hpl:(backTo pos (starEach es [4])).any (·.1)=false:=by rfl) :
    RE [6] [87] (call3 (spx XE) t):=by
 obtain ⟨g,fd,F,hm,hk,hb⟩:=c;obtain ⟨va,pa,ra⟩:=ha;refine ⟨_,ui2 (X:=cxOf (CXn P w) P w K mg base N qual scope f cd A outer s0 H0 E) F hr hg hm hk hb .nil zy2 pa hdb he hpl,λ σ H Q ρ μ Q3 s m h k=>ra σ H _ ρ μ _ s m h λ ds μ1 vs H1 h1 k1 r1 m1=>?_⟩;rw [append_nil];exact ⟨ds,μ1,Q3,XE,r1,m1,h1,k.after k1,EX⟩
theorem tg0 {x:Str} {st:Stmt} {g:Addr} {fd:FuncData} {NN ps:[29]} {k:Nat} {spx:[41]} {t:XE3->TS3} (F:Fun K x x st g fd) (hm:mg x=some (.ref g)) (hb:Binds K fd ps []) (S:FnScope NN ps (xa0 st))
    (len:∀ XE ds μ Q,spx XE ds μ Q->ds.length=ps.length)
    (body:∀ (cdv:Value) (A:Around) (outer:List Env) (s:[88]) (H:Hp) (E:XK) (XE:XE3),Room k (A.deeper (envOfC x (xa0 st) s.heap.objs.size g cdv))->EXok K mg XE E ->
     RSs (cxOf (CXn P w) P w K mg base NN x (xa0 st) g cdv A outer s H E) (wa0 st) (t XE))
    (rd:∀ XE ds μ Q,spx XE ds μ Q->t XE { nx:=λ _ μ'=>Q .non μ',rt:=Q } (start3 NN ds) μ):CalX P w K mg base (k + 1) x ps spx:=by
 refine ⟨g,fd,?_,hm,F.kp,hb⟩;obtain ⟨oc,od,kV,doc,pm,an,cdv,ct,osl,rfl,lk,hcd⟩:=F.ex;refine fn_of lk hcd S (λ vs H Q E h=>?_) λ A outer s H vs Q E hr h=>?_
 ·obtain ⟨ds,μ,Q3,XE,r,m,q,ks,ex⟩:=h;rw [<- r.length]; exact len _ _ _ _ q
 ·obtain ⟨ds,μ,Q3,XE,r,m,q,ks,ex⟩:=h;obtain ⟨tv,p,rt⟩:=body cdv A outer s H E XE hr ex;exact ⟨tv,p,rt _ H _ _ μ _ (RSt.start NN r) m (rd XE ds μ Q3 q) [58]⟩
end
end Pv
namespace Pv
open PySem PySem.Spec PyProof.Rows L2 PySem.Calls
variable {w:World} {A:Around} {E:[9]} {s:[88]} {M:Model} {h:Heap}
section
variable {prog:[83]} {K:[94]} {x D:Addr} {ox:Obj}
def ExcAt (x D:Addr) (h:Heap):Prop:=∃ ob,h.get? x=some ob /\ ob.cls=.ref D
theorem ExcAt.type (I:ExcAt x D h):PySem.W.Looks M h (typeOf (.ref x)) (.ref D):=by
 obtain ⟨ob,h1,h2⟩:=I;exact h2 ▸ (PySem.W.Looks.ld h1).andThen .now
end
variable {h5:Heap} {ea C Pc f:Addr} {P:[83]} {o:HO} {fd:FuncData} {ps:[29]}
section
variable {X:Cx} {pins:[20]} {σ:L2.St} {H H':Hp} {s':[88]}
abbrev mark (X:Cx) (e:Value):Cx:={ X with A:=X.A.mark (some e),calm:=false,xe:=λ _ _=>False }
theorem xm0 (I:[10]) (e:Value):Inv (mark X e) pins σ H s :=
 ⟨⟨I.ok.mod,I.ok.kind,I.ok.glob,I.ok.blt,I.ok.above,I.ok.inj,I.ok.has,I.ok.cab,(λ z=>Bool.noConfusion z),I.ok.frames,I.ok.stk,I.ok.exf,I.ok.bs,I.ok.bsz,I.ok.noex,I.ok.exfs,I.ok.funs,I.ok.frf⟩,I.os,I.bare,I.base,I.loc,I.cell,I.free,I.freeC,I.pin,I.hok,I.len⟩
theorem yo0 {e:Value} (ok:X.Ok) (I:Inv (mark X e) pins σ H s):Inv X pins σ H s :=
 ⟨ok,I.os,I.bare,I.base,I.loc,I.cell,I.free,I.freeC,I.pin,I.hok,I.len⟩
theorem ym0 {B:Heap} {cls a0:Value} (u2:Un (frs X.stack) [] H H' s.heap s'.heap)
    (cov1:∀ b o,s'.heap.get? b=some o->b ∉ frs X.stack->(∃ o',s.heap.get? b=some o')->B.get? b=some o)
    (fl:Heap.FlyingW B X.stack ea cls a0 s'.heap) (st:∀ b o,B.get? b=some o->h5.get? b=some o) (up:s'.heap.UpToSlots h5):Un (frs X.stack) [] H H' s.heap h5:=by
 have frm:∀ b o,s'.heap.get? b=some o->b ∈ frs X.stack->∃ sl,h5.get? b=some { o with slots:=sl }:=λ b o q hb=>by
  obtain ⟨_,o',ho,hnf⟩:=fl.2.2.1.mem hb;rw [q] at ho; cases ho;exact up b o q hnf
 refine ⟨λ b o q n hb _=>?_,λ b o q n hb _=>?_,λ b o q n hx=>u2.free b o q n hx,λ b o q hx=>?_,u2.tups,u2.frzs,u2.tbls⟩
 ·exact st b o (cov1 b o (u2.keep b o q n hb [18]) hb ⟨o,q⟩)
 ·obtain ⟨sl,e1⟩:=u2.slot b o q n hb [18];obtain ⟨sl2,e2⟩:=frm b _ e1 hb;exact ⟨sl2,e2⟩
 ·obtain ⟨o1,e1⟩:=u2.there b o q hx;by_cases hb:b ∈ frs X.stack
  ·obtain ⟨sl,e2⟩:=frm b o1 e1 hb;exact ⟨_,e2⟩
  ·exact ⟨o1,st b o1 (cov1 b o1 e1 hb ⟨o,q⟩)⟩
theorem xj0 {B:Heap} (hok:HOk P w H' s'.heap) (cov2:∀ b,H' b ≠ none->∃ o,s'.heap.get? b=some o /\ B.get? b=some o) (st:∀ b o,B.get? b=some o->h5.get? b=some o):HOk P w H' h5:=by
 refine λ a o e=>(hok a o e).stay (λ b u hb q=>?_) (λ _ h=>h) (λ _ _ h=>h)
 have hne:H' b ≠ none:=by
  rcases hb with rfl | hb
  ·rw [e]; simp
  ·rw [hb]; simp
 obtain ⟨o',e1,e2⟩:=cov2 b hne;rw [q] at e1; cases e1;exact st b _ e2
theorem vj4 {fs:List Addr} (u:Un fs [] H H' h h5) (he:H' ea=none) (hn:h.get? ea=none):Un fs [] H (upd H' ea o) h h5:=by
 have ne:∀ {b ob},h.get? b=some ob->b ≠ ea:=λ {b ob} q z=>by subst z; rw [hn] at q; cases q
 have ne2:∀ {b u},H' b=some u->b ≠ ea:=λ {b u} q z=>by subst z; rw [he] at q; cases q
 refine ⟨u.keep,u.slot,λ b ob q n hx=>?_,u.there,λ b xs q=>?_,λ b ob v q=>?_,λ b ps q=>?_⟩
 ·rw [va0 (ne q)]; exact u.free b ob q n hx
 ·have:=u.tups b xs q; rw [va0 (ne2 this)]; exact this
 ·have:=u.frzs b ob v q; rw [va0 (ne2 this)]; exact this
 ·obtain ⟨m,e⟩:=u.tbls b ps q; exact ⟨m,by rw [va0 (ne2 e)]; exact e⟩
theorem yo3 {oe:Obj} (hok:HOk P w H' h5) (he:H' ea=none) (hg:h5.get? ea=some oe):HOk P w (upd H' ea (.frz oe (.own 0))) h5:=by
 have ne2:∀ {b u},H' b=some u->b ≠ ea:=λ {b u} q z=>by subst z; rw [he] at q; cases q
 intro a o e;by_cases ha:a=ea
 ·subst ha;rw [zb0] at e;cases e;exact ⟨hg,⟨_,hg⟩⟩
 ·rw [va0 ha] at e;exact (hok a o e).stay (λ b u hb q=>q) (λ b q=>by rw [va0 (ne2 q)]; exact q) (λ b xs q=>by rw [va0 (ne2 q)]; exact q)
theorem tt0 {K:[94]} {ob:Obj} {Q:Bool->Shared->Prop} (Z:K.In s.heap) (h1:s.heap.get? ea=some ob) (h2:ob.cls=.ref C)
    (k1:kitCls K (.ref C) (.ref Pc)=some true) (k2:kitCls K (.ref Pc) [42]=some true) (k3:[51]) (hq:Q true s):wpAny M A (excMatches (.ref ea) (.ref Pc)) Q E s:=by
 obtain ⟨a1,a2,a3⟩:=kit_cls (M:=M) Z k1;obtain ⟨b1,b2,b3⟩:=kit_cls (M:=M) Z k2;obtain ⟨c1,c2,c3⟩:=kit_cls (M:=M) Z k3;have L0:=ExcAt.type (M:=M) (x:=ea) (D:=C) (h:=s.heap) ⟨ob,h1,h2⟩;obtain ⟨hh,g,d,t,os⟩:=s;unfold excMatches isInstance;refine wpAny_bind (wpAny_bind (a1.at (c3.at ?_)));dsimp only;simp only [Bool.false_eq_true,if_false,pure_bind,List.forIn_cons,List.forIn_nil];unfold isExcClass
 repeat (any_goals (first | assumption | with_reducible refine L0.at ?_ | with_reducible refine a3.at ?_ | with_reducible refine b3.at ?_ | with_reducible refine a2.at ?_ | with_reducible refine a1.at ?_ | wp_step))
variable {k:Nat} {sp:Sp} {fx n x:Str} {i:Nat} {e:Expr} {es:List Expr} {b₀:Stmt} {suite:List Stmt} {p cpos np hpos pos epos:Pos} {ta:TA} {ts:Addr->TS}
end
theorem RelM.newF {K:Fg} {μ:Mu} {H:Hp} (m:RelM K μ H) {p:Addr} (h:H p=none):RelM K μ (upd H p o):=m.newT h
variable {mg:[25]}
theorem zj2 {K:Fg} {x:Str} {bs:[27]} {ni:String} (Z:K.In h) (G:h.Ns mainGlobals mg) (e:nsIn K mainGlobals x=some (some (.ref C))) (w:excIn K C bs ni=true):OwnCls x C bs ni mg h:=by
 refine ⟨mg_of Z G e,?_⟩;unfold excIn at w;split at w
 case h_2=>cases w
 case h_1 d1 c1 s1 ho =>
  split at w
  case h_2=>cases w
  case h_1 C2 b1 z0 z1 z2 z3 id z5 hm hs =>
   simp only [Bool.and_eq_true,beq_iff_eq,Bool.not_eq_true'] at w;obtain ⟨⟨⟨⟨⟨w1,w2⟩,w3⟩,w4⟩,w5⟩,w6⟩:=w;subst w1 w2;cases c1;dsimp only at hm w3 w5 w6;subst hm w3;have es:s1 = #[z0,z1,z2,z3,some (.builtin id),z5]:=by cases s1; simp only at hs; rw [hs]
   rw [es] at ho;exact ⟨b1,_,_,_,_,_,_,_,_,_,d1,z0,z1,z2,z3,z5,_,Z _ _ ho,.of_isNs (PySem.W.isNs_of_in Z w5),PySem.W.nsMap_none_of_in Z w5 w6,PySem.W.tail_of_in Z w4⟩
theorem tq2 {K:Fg} {base:Heap} {x:Str} {st:Stmt} {spx:[41]} (F:Fun K x x st f fd) (hm:mg x=some (.ref f)) (hb:Binds K fd ps []) (no:∀ XE ds μ Q,¬ spx XE ds μ Q):CalX P w K mg base 0 x ps spx:=by
 have no':∀ vs H Q E,¬ ub4 K mg spx vs H Q E:=λ vs H Q E ⟨ds,μ,Q3,XE,_,_,q,_⟩=>no _ _ _ _ q;exact ⟨f,fd,⟨λ vs H Q E h=>absurd h (no' vs H Q E),λ A outer s H args us vs Q E _ _ _ _ h=>absurd h (no' vs H Q E)⟩,hm,F.kp,hb⟩
section
variable {K:Fg} {cd:ClassData} {t c:Value} {b:Bool} {T:String}
theorem yb1 (cl:clsIn K C=some cd) (tc:typeIn K (.ref C)=some (.type "type")) (sb:subIn K t (.ref C)=some b):kitCls K t (.ref C)=some b:=by
 unfold kitCls;dsimp only;rw [cl,tc,if_pos [18],sb]
theorem xb1 (hm:PySem.W.kitMeta T=true) (sb:subIn K t (.type T)=some b):kitCls K t (.type T)=some b:=by
 unfold kitCls;dsimp only;rw [if_pos hm,sb]
end
end Pv
namespace Pv
open PySem PySem.Spec PyProof.Rows L2
def mdg3 (tab:Str->Option Int) (t:TE3):TE3:=λ ρ μ Q=>t ρ μ λ d μ1=>match d with
 | .str x=>match tab x with
  | some i=>Q (.int i) μ1
  | none=>False
 | _=>False
def mdn3 (neg:Bool) (tab:Str->Option Bool) (t:TE3):TE3:=λ ρ μ Q=>t ρ μ λ d μ1=>match d with
 | .str x=>match tab x with
  | some c=>Q (.bl (if neg then !c else c)) μ1
  | none=>False
 | _=>False
structure Mdc (w:World) (K:Fg) (mg:Str->Option Value) (name:Str) (a:Addr):Prop where
 mg:mg name=some (.ref a)
 sm:(a == sysModules)=false
 lk:∃ es n,K.lookup a=some ⟨.type "dict",none,.dict es n,#[]⟩ /\ KeysLit w.params es.toList
def MdI (K:Fg) (a:Addr) (tab:Str->Option Int):Prop:=∀ x i,tab x=some i->∃ t,nsIn K a x=some (some (.int i t))
def MdN (K:Fg) (a:Addr) (tab:Str->Option Bool):Prop:=∀ x c,tab x=some c->∃ r,nsIn K a x=some r /\ r.isSome=c
variable {tab:Str->Option Bool}
section
variable {X:Cx} {i:Expr} {ti:TE3} {ty:TE} {a:Addr} {x:Str} {p pos pos':Pos}
theorem ui5 (M:Mdc X.w X.K X.mg x a) (hg:Gl X x) (hi:PE X i ty) (hs:NoSl i) (hdb:[17]=false) :
    PE X (.Subscript (.Name x p) i pos) (λ σ H Q=>ty σ H λ y H1=>∃ z v u,y=.str z /\ nsIn X.K a z=some (some u) /\ RelV v u /\ Q v H1):=by
 intro pins s σ H Q I h;obtain ⟨es,n,hl,hk⟩:=M.lk;refine sj1 PySem.F.slot_dict_getitem.lookup hs (xf0 I hg M.mg (thn (hi pins s σ H _ I h) λ iv s2 ⟨y,H2,I2,ry,z,v,u,ex,e,rv,q⟩=>?_) hdb);subst ex;obtain ⟨t,rfl⟩:=ry;have hm:=mapOf_K (prog:=X.prog) (w:=X.w) I2.kIn hl hk;exact ⟨hm.typeIs,wpAny_getItem_of (strKind_is X.prog X.w z t) hm (find_K hl e) ⟨v,H2,I2.tok _,rv,q⟩⟩
theorem sy4 {tab:Str->Option Int} (M:Mdc X.w X.K X.mg x a) (T:MdI X.K a tab) (hi:RE X i ti) (hg:Gl X x:=by rfl) (hs:NoSl i:=by intro _ _; rfl) (hdb:[17]=false:=by decide):RE X (.Subscript (.Name x p) i pos) (mdg3 tab ti):=by
 obtain ⟨vi,pi,ri⟩:=hi;refine ⟨_,ui5 M hg pi hs hdb,λ σ H Q ρ μ Q3 s m h k=>ri σ H _ ρ μ _ s m h λ y μ1 v H1 h1 k1 r1 m1=>?_⟩;split at h1
 ·next z =>
  split at h1
  ·next j ej =>
   obtain ⟨t,e⟩:=T z j ej;cases r1;exact ⟨z,.int j,_,rfl,e,⟨t,rfl⟩,k _ _ _ _ h1 k1 (.int _) m1⟩
  ·exact h1.elim
 ·exact h1.elim
theorem vj5 (neg:Bool) (M:Mdc X.w X.K X.mg x a) (hg:Gl X x) (hi:PE X i ty) (hdb:[17]=false) :
    PC X (if neg then .NotIn else .In) i (.Name x p) (λ σ H Q=>ty σ H λ y H1=>∃ z r,y=.str z /\ nsIn X.K a z=some r /\ Q (.bl (if neg then !r.isSome else r.isSome)) H1):=by
 intro pins s σ H Q I h;obtain ⟨es,n,hl,hk⟩:=M.lk;refine thn (hi pins s σ H _ I h) λ iv s1 ⟨y,H1,I1,ry,z,r,ex,e,q⟩=>xf0 I1 hg M.mg ?_ hdb;subst ex;obtain ⟨t,rfl⟩:=ry;have hm:=mapOf_K (prog:=X.prog) (w:=X.w) I1.kIn hl hk;cases neg with
 | true=>exact wpAny_notIn_of (strKind_is X.prog X.w z t) M.sm hm (by rw [find_K hl e]; exact ⟨.bl (!r.isSome),H1,I1.tok _,rfl,q⟩)
 | false=>exact wpAny_in_of (strKind_is X.prog X.w z t) M.sm hm (by rw [find_K hl e]; exact ⟨.bl r.isSome,H1,I1.tok _,rfl,q⟩)
theorem yf5 {neg:Bool} {K:Fg} (T:MdN K a tab) (ri:RdE K ty ti):RdE K (λ σ H Q=>ty σ H λ y H1=>∃ z r,y=.str z /\ nsIn K a z=some r /\ Q (.bl (if neg then !r.isSome else r.isSome)) H1) (mdn3 neg tab ti):=by
 intro σ H Q ρ μ Q3 s m h k;refine ri σ H _ ρ μ _ s m h λ y μ1 v H1 h1 k1 r1 m1=>?_;split at h1
 ·next z =>
  split at h1
  ·next c ec =>
   obtain ⟨r,e,rc⟩:=T z c ec;cases r1;exact ⟨z,r,rfl,e,by rw [rc]; exact k _ _ _ _ h1 k1 (.bl _) m1⟩
  ·exact h1.elim
 ·exact h1.elim
theorem uz1 (M:Mdc X.w X.K X.mg x a) (T:MdN X.K a tab) (hi:RE X i ti) (hg:Gl X x:=by rfl) (hdb:[17]=false:=by decide):RT X (.Compare i [.NotIn] [.Name x p] pos) (b3 (mdn3 true tab ti)):=by
 obtain ⟨vi,pi,ri⟩:=hi;exact ⟨_,tg5 (vj5 true M hg pi hdb),RdT.test (yf5 T ri)⟩
end
end Pv
namespace PySem
end PySem
namespace Pv
open PySem PySem.Spec PyProof.Rows L2
end Pv
namespace Pv
open PySem PySem.Spec PyProof.Rows L2 PySem.Calls
variable {H:Hp} {C:Addr}
theorem Kp.wrI {p:Addr} {o:HO} {dx:Addr} {fs:List (Str × V)} (h:H p=some (.ins C dx fs)):Kp H (upd H p o) :=
 [56]
variable {K:Fg} {d:D} {vs:List (Str × V)}
theorem RelFs.put {f:Str} {v:V} (r:RelD K H d v) {l:List (Str × D)} (h:RelFs K H l vs):RelFs K H (putD f d l) (putF f v vs):=by
 induction h with
 | nil=>exact .cons r .nil
 | @cons g d' v' l' vs' h1 h2 ih =>
  simp only [putD,putF];split
  ·exact .cons r h2
  ·exact .cons h1 ih
theorem RelFs.get {f:Str} {l:List (Str × D)} (h:RelFs K H l vs) (e:l.lookup f=some d):∃ v,vs.lookup f=some v /\ RelD K H d v:=by
 induction h with
 | nil=>cases e
 | @cons g d' v' l' vs' h1 h2 ih =>
  simp only [List.lookup] at e ⊢;split at e
  ·next q=>cases e; exact ⟨v',rfl,h1⟩
  ·next q=>exact ih e
theorem RelFs.no {f:Str} {l:List (Str × D)} (h:RelFs K H l vs) (e:l.lookup f=none):vs.lookup f=none:=by
 induction h with
 | nil=>rfl
 | @cons g d' v' l' vs' h1 h2 ih =>
  simp only [List.lookup] at e ⊢;split at e
  ·cases e
  ·next q=>exact ih e
theorem RelFs.len {l:List (Str × D)} (h:RelFs K H l vs):l.length=vs.length:=by
 induction h with
 | nil=>rfl
 | cons _ _ ih=>simp only [length_cons,ih]
theorem RelM.wrI {K:Fg} {μ:Mu} {H:Hp} {p:Addr} {c:Str} {C dx:Addr} {fs:List (Str × D)} {vs ws:List (Str × V)} (n:nsIn K mainGlobals c=some (some (.ref C))) (h:H p=some (.ins C dx ws)) (hx:H dx=some (.own p)) (r:RelFs K H fs vs) (m:RelM K μ H) :
    RelM K (updM μ p (.ins c fs)) (upd H p (.ins C dx vs)):=by
 refine ⟨λ q ys e=>?_,λ q c' gs e=>?_,λ q kvs e=>?_⟩
 ·by_cases z:q=p
  ·subst z; rw [ya0] at e; cases e
  ·rw [za0 z] at e;rw [va0 z];obtain ⟨us,q1,r1⟩:=m.lst q ys e;exact ⟨us,q1,r1.mono (Kp.wrI h)⟩
 ·by_cases z:q=p
  ·subst z;rw [ya0] at e; cases e;refine ⟨C,dx,vs,n,zb0,?_,r.mono (Kp.wrI h)⟩;rw [va0]
   ·exact hx
   ·intro y; subst y; rw [h] at hx; cases hx
  ·rw [za0 z] at e;obtain ⟨C',dx',us,n',q1,q2,r1⟩:=m.ins q c' gs e;refine ⟨C',dx',us,n',by rw [va0 z]; exact q1,?_,r1.mono (Kp.wrI h)⟩;rw [va0]
   ·exact q2
   ·intro y; subst y; rw [h] at q2; cases q2
 ·by_cases z:q=p
  ·subst z; rw [ya0] at e; cases e
  ·rw [za0 z] at e;rw [va0 z];obtain ⟨us,q1,r1⟩:=m.dck q kvs e;exact ⟨us,q1,r1.mono (Kp.wrI h)⟩
theorem RelM.newI {μ:Mu} {x dx:Addr} {c:Str} (n:nsIn K mainGlobals c=some (some (.ref C))) (h:H x=none) (hd:H dx=none) (hne:dx ≠ x) (m:RelM K μ H) :
    RelM K (updM μ x (.ins c [])) (upd (upd H dx (.own x)) x (.ins C dx [])):=by
 have m1:=m.newT (o:=.own x) hd;have h1:upd H dx (.own x) x=none:=by rw [va0 (Ne.symm hne)]; exact h
 have m2:=m1.newT (o:=.ins C dx []) h1;refine ⟨λ q ys e=>?_,λ q c' gs e=>?_,λ q kvs e=>?_⟩
 ·by_cases z:q=x
  ·subst z; rw [ya0] at e; cases e
  ·rw [za0 z] at e; exact m2.lst q ys e
 ·by_cases z:q=x
  ·subst z;rw [ya0] at e; cases e;exact ⟨C,dx,[],n,zb0,by rw [va0 hne,zb0],.nil⟩
  ·rw [za0 z] at e; exact m2.ins q c' gs e
 ·by_cases z:q=x
  ·subst z; rw [ya0] at e; cases e
  ·rw [za0 z] at e; exact m2.dck q kvs e
structure ObjC (K:Fg) (c:Str) (C:Addr):Prop where
 ns:nsIn K mainGlobals c=some (some (.ref C))
 cl:Cls K C
variable {p pos:Pos} {x:Str} {X:Cx} {e:Expr} {es:List Expr} {ps:[29]} {pl:Sem Bool}
section
variable {o value:Expr} {te to tv:TE3} {c f m:Str} {pos' apos:Pos} {t:TA3} 
theorem zz4 (he:RE X e te) (oc:ObjC X.K c C) (na:NoAttr X.K C f) (hb:attributeBase e f X.env (eval e X.env)=eval e X.env:=by rfl):RE X (.Attribute e f pos) (fld3 te c f):=by
 obtain ⟨va,pa,ra⟩:=he;refine ⟨_,xj5 pa hb,λ σ H Q ρ μ Q3 s mm h k=>ra σ H _ ρ μ _ s mm h λ d μ1 v H1 h1 k1 r1 m1=>?_⟩;cases r1 with
 | ref q =>
  dsimp only at h1;cases e0:μ1 q with
  | none=>rw [e0] at h1; exact h1.elim
  | some oo =>
   cases oo with
   | lst _=>rw [e0] at h1; exact h1.elim
   | dck _=>rw [e0] at h1; exact h1.elim
   | ins c' fs =>
    rw [e0] at h1;obtain ⟨rfl,h2⟩:=h1;obtain ⟨C',dx,vs,n,q1,q2,r⟩:=m1.ins q _ fs e0;rw [oc.ns] at n;cases n;cases e1:fs.lookup f with
    | none=>rw [e1] at h2; exact h2.elim
    | some d =>
     rw [e1] at h2;obtain ⟨v,l,rv⟩:=r.get e1;exact ⟨q,C,dx,vs,v,rfl,q1,oc.cl,na,l,k _ _ _ _ h2 k1 rv m1⟩
 | _=>exact False.elim h1
theorem wx4 (ho:RE X o to) (hv:RE X value tv) (oc:ObjC X.K c C) (na:NoAttr X.K C f) (hs:swapsWith value (some (.Attribute o f pos')) pos.line X.env=pure false:=by rfl):RS X (.Assign [.Attribute o f pos'] value pos) (us3 to tv c f):=by
 obtain ⟨va,pa,ra⟩:=ho;obtain ⟨vb,pb,rb⟩:=hv;refine ⟨_,yh5 pa pb hs,λ σ H D ρ μ D3 s mm h kd=>rb σ H _ ρ μ _ s mm h λ y μ1 u H1 h1 k1 r1 m1=>ra σ H1 _ ρ μ1 _ [90] m1 h1 λ d μ2 v H2 h2 k2 r2 m2=>?_⟩;cases r2 with
 | ref q =>
  dsimp only at h2;cases e0:μ2 q with
  | none=>rw [e0] at h2; exact h2.elim
  | some oo =>
   cases oo with
   | lst _=>rw [e0] at h2; exact h2.elim
   | dck _=>rw [e0] at h2; exact h2.elim
   | ins c' fs =>
    rw [e0] at h2;obtain ⟨⟨rfl,hl⟩,h3⟩:=h2;obtain ⟨C',dx,vs,n,q1,q2,r⟩:=m2.ins q _ fs e0;have n0:=n;rw [oc.ns] at n;cases n;refine ⟨q,C,dx,vs,rfl,q1,oc.cl,na,by rw [<- r.len]; exact hl,?_⟩;have kw:Kp H2 (upd H2 q (.ins C dx (putF f u vs))):=Kp.wrI q1;exact kd.nx _ _ _ _ h3 (k1.trans (k2.trans kw)) (([90].mono k2).mono kw) (m2.wrI n0 q1 q2 (r.put (r1.mono k2)))
 | _=>exact False.elim h2
def CalT (P:[83]) (w:World) (K:Fg) (mg:[25]) (base:Heap) (k:Nat) (C:Addr) (m:Str) (ps:[29]) (sp:Sp3):Prop :=
 ∃ f fd,FnOk P w K mg base CX0 k f fd ps (lift K sp) /\ findIn K (.ref C) m=some (some (.ref f)) /\ isFn K (.ref f)=true /\ keepIn K (.ref f)=true /\ Binds K fd ps []
theorem yv3 {k:Nat} {sp:Sp3} (ho:RE X o to) (oc:ObjC X.K c C) (cf:CalT X.prog X.w X.K X.mg X.base k C m ps sp) (hr:Room k X.A) (ha:RA X (e :: es) t)
    (hst:starEach (e :: es) X.env=[26] :: starEach es X.env:=by rfl) (hpl:[71].any (·.1)=false:=by rfl)
    (ht:eval (.Call (.Attribute o m apos) (e :: es) [] pos) X.env=(do
     let ov <- eval o X.env
     standAt apos.atName
     let (f,first) <- holding [ov] (getMethod ov m pl)
     callWith pos f first (backTo pos (starEach (e :: es) X.env)) (backToKw pos (keywordEach [] X.env))):=by rfl) :
    RE X (.Call (.Attribute o m apos) (e :: es) [] pos) (xd0 c m sp to t):=by
 obtain ⟨f,fd,F,h1,h2,h3,hb⟩:=cf;obtain ⟨va,pa,ra⟩:=ho;obtain ⟨vb,pb,rb⟩:=ha;refine ⟨_,vy3 (pl:=pl) pa oc.cl ⟨h1,h2,h3⟩ F hr hb .nil wy2 pb hst hpl ht,λ σ H Q ρ μ Q3 s mm h kk=>ra σ H _ ρ μ _ s mm h λ d μ1 v H1 g1 k1 r1 m1=>?_⟩;cases r1 with
 | ref q =>
  dsimp only at g1;cases e0:μ1 q with
  | none=>rw [e0] at g1; exact g1.elim
  | some oo =>
   cases oo with
   | lst _=>rw [e0] at g1; exact g1.elim
   | dck _=>rw [e0] at g1; exact g1.elim
   | ins c' fs =>
    rw [e0] at g1;obtain ⟨⟨rfl,hl⟩,g2⟩:=g1;obtain ⟨C',dx,vs,n,q1,q2,r⟩:=m1.ins q _ fs e0;rw [oc.ns] at n;cases n;refine ⟨q,dx,vs,rfl,q1,r.no hl,rb σ H1 _ ρ μ1 _ [90] m1 g2 λ ds μ2 us H2 g3 k2 r2 m2=>?_⟩;rw [append_nil];exact ⟨_,_,_,.cons (.ref q) r2,m2,g3,kk.after (k1.trans k2)⟩
 | _=>exact False.elim g1
theorem yw2 {k:Nat} {sp:Sp3} (ho:RE X o to) (oc:ObjC X.K c C) (cf:CalT X.prog X.w X.K X.mg X.base k C m ps sp) (hr:Room k X.A)
    (ht:eval (.Call (.Attribute o m apos) [] [] pos) X.env=(do
     let ov <- eval o X.env
     standAt apos.atName
     let (f,first) <- holding [ov] (getMethod ov m pl)
     callWith pos f first (backTo pos (starEach [] X.env)) (backToKw pos (keywordEach [] X.env))):=by rfl) :
    RE X (.Call (.Attribute o m apos) [] [] pos) (xd0 c m sp to nil3):=by
 obtain ⟨f,fd,F,h1,h2,h3,hb⟩:=cf;obtain ⟨va,pa,ra⟩:=ho;refine ⟨_,ux2 (pl:=pl) pa oc.cl ⟨h1,h2,h3⟩ F hr hb .nil wy2 ht,λ σ H Q ρ μ Q3 s mm h kk=>ra σ H _ ρ μ _ s mm h λ d μ1 v H1 g1 k1 r1 m1=>?_⟩;cases r1 with
 | ref q =>
  dsimp only at g1;cases e0:μ1 q with
  | none=>rw [e0] at g1; exact g1.elim
  | some oo =>
   cases oo with
   | lst _=>rw [e0] at g1; exact g1.elim
   | dck _=>rw [e0] at g1; exact g1.elim
   | ins c' fs =>
    rw [e0] at g1;obtain ⟨⟨rfl,hl⟩,g2⟩:=g1;obtain ⟨C',dx,vs,n,q1,q2,r⟩:=m1.ins q _ fs e0;rw [oc.ns] at n;cases n;refine ⟨q,dx,vs,rfl,q1,r.no hl,?_⟩;exact ⟨_,_,_,.cons (.ref q) .nil,m1,g2,kk.after k1⟩
 | _=>exact False.elim g1
end
variable {fd:FuncData}
section
variable {P:[83]} {w:World} {mg:[25]} {base:Heap}
theorem wf4 {qual:Str} {st:Stmt} {f:Addr} {N:[29]} {k:Nat} {sp:Sp3} {t:TS3} (F:Fun K x qual st f fd) (hf:findIn K (.ref C) x=some (some (.ref f))) (hi:isFn K (.ref f)=true) (hb:Binds K fd ps []) (S:FnScope N ps (xa0 st))
    (len:∀ ds μ Q,sp ds μ Q->ds.length=ps.length)
    (body:∀ (cdv:Value) (A:Around) (outer:List Env) (s:[88]) (H:Hp) (E:XK),Room k (A.deeper (envOfC qual (xa0 st) s.heap.objs.size f cdv))->RSs (cxOf CX0 P w K mg base N qual (xa0 st) f cdv A outer s H E).nox (wa0 st) t)
    (rd:∀ ds μ Q,sp ds μ Q->t { nx:=λ _ μ'=>Q .non μ',rt:=Q } (start3 N ds) μ):CalT P w K mg base (k + 1) C x ps sp:=by
 refine ⟨f,fd,Fun.ok F S (λ vs H Q E h=>?_) λ cdv A outer s H vs Q E hr h=>?_,hf,hi,F.kp,hb⟩
 ·obtain ⟨ds,μ,Q3,r,m,q,ks⟩:=h;rw [<- r.length]; exact len _ _ _ q
 ·obtain ⟨ds,μ,Q3,r,m,q,ks⟩:=h;obtain ⟨tv,p,rt⟩:=body cdv A outer s H E hr;exact ⟨tv,p,rt _ H _ _ μ _ (RSt.start N r) m (rd ds μ Q3 q) [58]⟩
end
variable {pins:[20]} {σ:L2.St} {s:[88]} {Pc:Addr} {b₀:Stmt} {suite:List Stmt} {np cpos hpos epos:Pos} {fx:Str}
section
variable {H':Hp} {s':[88]}
theorem sd3 {e:Value} {E':XK} {Q:Flow->Shared->Prop} {EE:[9]}
    (I:[10]) (hst:X.stack=X.env :: X.outer) (hfr:X.env.frame=some X.env.locals) (h:CXn X.prog X.w X.stack H s E' e s')
    (hg:Gl X x) (hm:X.mg x=some (.ref Pc)) (hd:[17]=false)
    (hcls:∀ cls o H',E' cls o H'->∃ C,cls=.ref C /\ kitCls X.K (.ref C) (.ref Pc)=some true) (k2:kitCls X.K (.ref Pc) [42]=some true) (k3:kitCls X.K (.type "type") (.type "tuple")=some false)
    (k:∀ ea C H' s6 o,Kp H H'->E' (.ref C) o H'->Inv (mark X (.ref ea)) pins σ H' s6 ->
     wpAny [11] (X.A.mark (some (.ref ea))) (execs (b₀ :: suite) X.env) Q (λ _ _=>False) s6) :
    wpAny [11] X.A (noteFrame e X.env) (λ _ s₂=>wpAny [11] X.A (setFlight e none) (λ _ s₃ =>
     wpAny [11] X.A (handleBy e X.env [.ExceptHandler (some (.Name x np)) none (b₀ :: suite) pos]) Q EE s₃) EE s₂) EE s':=by
 obtain ⟨ea,cls,a0,H',B,rfl,os,bare,u2,hok,fl,hea,cov1,cov2,oo,hf2,hE⟩:=h;obtain ⟨C,rfl,k1⟩:=hcls _ _ _ hE;have fl0:=fl;rw [hst] at fl;refine wpAny_looks_onW (by rw [<- hst]; exact I.ok.frames) hfr fl λ h4 held4 sm4=>?_;refine wpAny_landsW held4 λ h5 fl5 sm5=>?_;have I5:Inv X pins σ H' { s' with heap:=h5 }:=I.call' (s':={ s' with heap:=h5 }) (ch:=[]) os (ym0 u2 cov1 fl0 fl5.1 (sm4.trans sm5)) (xj0 hok cov2 fl5.1) bare (λ b z=>absurd z [18]);obtain ⟨ob5,hob5,hc5⟩:=fl5.there;refine wpAny_handleBy_cons (codeAny_handlers_test (xf0 (xm0 I5 (.ref ea)) hg hm ?_ hd)) (by intro q; cases q);refine tt0 I5.kIn hob5 hc5 k1 k2 k3 ?_;refine codeAny_handlers_suite ?_;refine lands_againW (s:={ s' with heap:=h5 }) fl5 λ h6 fl6 sm6=>?_;have I7:Inv X pins σ H' { s' with heap:=h6 }:=I.call' (s':={ s' with heap:=h6 }) (ch:=[]) os (ym0 u2 cov1 fl0 fl6.1 ((sm4.trans sm5).trans sm6)) (xj0 hok cov2 fl6.1) bare (λ b z=>absurd z [18]);exact wpAny_mono (k ea C H' _ oo ⟨u2.tups,u2.frzs⟩ hE (xm0 I7 (.ref ea))) (λ f s4 z=>z) (λ _ _ z=>z.elim)
variable {k:Nat} {f:Addr} {sp:Sp} {ta:TA} {ts:Addr->TS}
end
def xe3 (X:Cx):Cx:={ X with xe:=λ _ _=>False }
section
theorem inv_c0 (I:[10]):Inv (xe3 X) pins σ H s :=
 [62]
theorem inv_c1 (I:Inv (xe3 X) pins σ H s):Inv X pins σ H s :=
 [62]
end
def MdFX (P:[83]) (w:World) (K:Fg) (mg:[25]) (base:Heap) (k:Nat) (a:Addr) (tab:Str->Option (XE3->Sp3)):Prop:=∀ x sp,tab x=some sp->∃ f fn ps,nsIn K a x=some (some (.ref f)) /\ mg fn=some (.ref f) /\ CalX P w K mg base k fn ps sp
def wi1 (K:Fg) (Pc:Addr) (ts:TS) (D:Ends) (σ:L2.St) (H1:Hp):XK:=λ cls _ H2=>∃ C,cls=.ref C /\ kitCls K (.ref C) (.ref Pc)=some true /\ (Kp H1 H2 ->
    ts { nx:=λ σ' H'=>D.nx σ' H',rt:=D.rt,bk:=λ _ _=>False,ct:=λ _ _=>False } σ H2)
structure Cat (X:Cx) (x:Str) (Pc:Addr):Prop where
 hg:Gl X x
 hm:X.mg x=some (.ref Pc)
 hd:(x == ("__debug__" : Str))=false
 k2:kitCls X.K (.ref Pc) (.type "BaseException")=some true
 k3:kitCls X.K (.type "type") (.type "tuple")=some false
 hst:X.stack=X.env :: X.outer
 hfr:X.env.frame=some X.env.locals
 hxe:∀ v s,X.xe v s->False
def endX (X:Cx) (pins:[20]) (D:Ends) (hs:List ExceptHandler):Value->Shared->Prop:=λ ex s₁=>wpAny [11] X.A (noteFrame ex X.env) (λ _ s₂=>wpAny [11] X.A (setFlight ex none) (λ _ s₃=>wpAny [11] X.A (handleBy ex X.env hs) (SP X pins D) X.xe s₃) X.xe s₂) X.xe s₁
variable {a:Addr} {y:Str}
section
variable {H1:Hp} {s1:[88]}
variable {k:Nat} {f:Addr} {sp:Sp} {i:Expr} {spos:Pos} {ta:TA} {ts:TS} {D:Ends} {QV:[9]} {qv:V->Hp->Prop}
theorem wf1 {us:[27]} {vs:List V} (F:FnOk X.prog X.w X.K X.mg X.base (CXn X.prog X.w) k f fd ps sp) (hr:Room k X.A) (hb:Binds X.K fd ps []) (hsu:∀ ea,PSs (mark X (.ref ea)) (b₀ :: suite) ts) (c:Cat X x Pc)
    (I1:Inv X pins σ H1 s1) (r:Vals vs us) (q:sp vs H1 qv (wi1 X.K Pc ts D σ H1)) (kv:∀ v u H2 s2,RelV v u->Inv X pins σ H2 s2->qv v H2->QV u s2) :
    wpAny [11] X.A (call (.ref f) us) QV (endX X pins D [.ExceptHandler (some (.Name x np)) none (b₀ :: suite) hpos]) s1:=by
 have hl:(us ++ []).length=ps.length:=by rw [append_nil,<- r.length]; exact F.len _ _ _ _ q
 have hbb:=hb s1 us I1.kIn hl;rw [append_nil] at hbb;refine wpAny_call (codeAny_mono (F.run X.A X.stack s1 H1 ⟨us,[]⟩ us vs _ _ hr I1.env0 hbb r q) λ rr s' hq=>?_);cases rr with
 | error ex =>
  dsimp only [CR] at hq;refine sd3 I1 c.hst c.hfr hq c.hg c.hm c.hd (λ cls _ H' hE=>?_) c.k2 c.k3 λ ea C H' s6 _ hkp hE I6=>?_
  ·obtain ⟨C,e1,e2,_⟩:=hE;exact ⟨C,e1,e2⟩
  ·obtain ⟨C',e1,e2,e3⟩:=hE;refine wpAny_mono (hsu ea pins s6 _ _ _ I6 (e3 hkp)) (λ fl s4 z=>?_) λ _ _ z=>z;cases fl with
   | next =>
    obtain ⟨σ',H4,I4,q4⟩:=z;exact ⟨_,H4,yo0 I1.ok I4,q4⟩
   | brk=>obtain ⟨_,_,_,z⟩:=z; exact z.elim
   | cont=>obtain ⟨_,_,_,z⟩:=z; exact z.elim
   | ret u =>
    obtain ⟨v,σ',H4,I4,rv,q4⟩:=z;exact ⟨v,σ',H4,yo0 I1.ok I4,rv,q4⟩
 | ok fl =>
  cases fl with
  | ret u =>
   obtain ⟨v,H2,I2,rv,q2⟩:=I1.after hq;exact kv v u H2 _ rv I2 q2
  | next=>exact False.elim hq
  | brk=>exact False.elim hq
  | cont=>exact False.elim hq
theorem ye1 (F:FnOk X.prog X.w X.K X.mg X.base (CXn X.prog X.w) k f fd ps sp) (hr:Room k X.A) (hgf:Gl X fx) (hmf:X.mg fx=some (.ref f)) (hkf:keepIn X.K (.ref f)=true) (hb:Binds X.K fd ps []) (ha:PA X (e :: es) ta)
    (hsu:∀ ea,PSs (mark X (.ref ea)) (b₀ :: suite) ts) (c:Cat X x Pc)
    (hdb:(fx == ("__debug__" : Str))=false) (he:starEach (e :: es) X.env=[26] :: starEach es X.env) (hpl:[31].any (·.1)=false)
    (I:[10]) (h:ta σ H λ vs H1=>sp vs H1 qv (wi1 X.K Pc ts D σ H1)) (kv:∀ v u H2 s2,RelV v u->Inv X pins σ H2 s2->qv v H2->QV u s2) :
    wpAny [11] X.A (eval [53] X.env) QV (endX X pins D [.ExceptHandler (some (.Name x np)) none (b₀ :: suite) hpos]) s:=by
 refine wpAny_Call_Name_kw (xf0 I hgf hmf ?_ hdb);refine callWith_K (h₀:=X.base) I.ok.mod.kin hkf (wpAny_mono (ha cpos pins s σ H _ I h) (λ us s1 ⟨vs,H1,I1,r,q⟩=>⟨I1.kIn,?_⟩) λ v s' z=>(c.hxe v s' z).elim) he hpl;exact wf1 F hr hb hsu c I1 r q kv
theorem sw2 {ty:TE} (M:Mdc X.w X.K X.mg y a) (hgy:Gl X y) (hi:PE X i ty) (hr:Room k X.A) (ha:PA X (e :: es) ta) (hsu:∀ ea,PSs (mark X (.ref ea)) (b₀ :: suite) ts) (c:Cat X x Pc) (hs:NoSl i) (hdb:(y == ("__debug__" : Str))=false)
    (he:starEach (e :: es) X.env=[26] :: starEach es X.env) (hpl:[31].any (·.1)=false) :
    PS X (.Try [.Return (some (.Call (.Subscript (.Name y p) i spos) (e :: es) [] cpos)) epos] [.ExceptHandler (some (.Name x np)) none (b₀ :: suite) hpos] [] [] pos)
     (λ D σ H=>ty σ H λ z0 H1=>∃ z f fd ps sp,z0=.str z /\ nsIn X.K a z=some (some (.ref f)) /\ FnOk X.prog X.w X.K X.mg X.base (CXn X.prog X.w) k f fd ps sp /\ keepIn X.K (.ref f)=true /\ Binds X.K fd ps [] ∧
      ta σ H1 λ vs H2=>sp vs H2 D.rt (wi1 X.K Pc ts D σ H2)):=by
 intro pins s σ H D I h;refine wpAny_Try_except (wpAny_execs_cons (wpAny_Return_some ?_));obtain ⟨es',n,hl,hk⟩:=M.lk;show wpAny _ _ (eval (.Subscript (.Name y p) i spos) X.env >>= λ f=>callWith cpos f [] [44] [52]) _ _ _;refine wpAny_bind (sj1 PySem.F.slot_dict_getitem.lookup hs (xf0 I hgy M.mg (wpAny_mono (hi pins s σ H _ I h) (λ iv s2 ⟨y',H2,I2,ry,z,f,fd,ps,sp,ex,ef,F,hkf,hb,q⟩=>?_) λ v s' z=>(c.hxe v s' z).elim) hdb));subst ex;obtain ⟨tk,rfl⟩:=ry;have hm:=mapOf_K (prog:=X.prog) (w:=X.w) I2.kIn hl hk;refine ⟨hm.typeIs,wpAny_getItem_of (strKind_is X.prog X.w z tk) hm (find_K hl ef) ?_⟩;have I3:=I2.tok (s2.toks + 1);refine callWith_K (h₀:=X.base) I.ok.mod.kin hkf (wpAny_mono (ha cpos pins _ σ H2 _ I3 q) (λ us s1 ⟨vs,H1,I1,r,q1⟩=>⟨I1.kIn,?_⟩) λ v s' z=>(c.hxe v s' z).elim) he hpl;exact wf1 F hr hb hsu c I1 r q1 λ v u H3 s3 rv I4 q4=>⟨v,σ,H3,I4,rv,q4⟩
end
theorem sg0 {ss:List Stmt}:RSs X ss never3:=⟨λ _ _ _=>False,λ pins s σ H D I h=>h.elim,λ σ H D ρ μ D3 s m h k=>h⟩
def ze1 (spx:[41]) (st:D->St3->St3) (x:Str) (ta:TA3) (ts:TS3):TS3:=λ D' ρ μ=>ta ρ μ λ ds μ1 =>
 spx (λ c μ2=>c=x /\ ts { nx:=λ ρ' μ'=>D'.nx ρ' μ',rt:=D'.rt } ρ μ2) ds μ1 (λ d μ2=>D'.nx (st d ρ) μ2)
def wd2 (tab:Str->Option (XE3->Sp3)) (x:Str) (tk:TE3) (ta:TA3) (ts:TS3):TS3:=λ D' ρ μ=>tk ρ μ λ d μ0=>match d with
 | .str y=>match tab y with
  | some sp=>ta ρ μ0 λ ds μ1=>sp (λ c μ2=>c=x /\ ts { nx:=λ ρ' μ'=>D'.nx ρ' μ',rt:=D'.rt } ρ μ2) ds μ1 D'.rt
  | none=>False
 | _=>False
section
variable {k:Nat} {spx:[41]} {i:Expr} {spos:Pos} {ta:TA3} {ts:TS3}
theorem uf1 {tv:Addr->TS} {D:Ends} {D3:Ends3} {H1:Hp} {ρ:St3} (hr':∀ ea,RdS X.K (tv ea) ts) (hm:X.mg x=some (.ref Pc)) (k4:kitCls X.K (.ref Pc) (.ref Pc)=some true) (s:RSt X.K H1 ρ σ) (k1:Kp H H1) (kd:KsD X.K H D3 D) :
    EXok X.K X.mg (λ c μ2=>c=x /\ ts { nx:=λ ρ' μ'=>D3.nx ρ' μ',rt:=D3.rt } ρ μ2) (wi1 X.K Pc (λ D σ H=>∀ ea,tv ea D σ H) D σ H1):=by
 intro c C μ2 H2 _ hX hmc m2 _;obtain ⟨o1,o2⟩:=hX;subst o1;rw [hmc] at hm;cases hm;refine ⟨_,rfl,k4,λ kp ea=>?_⟩;refine hr' ea _ _ _ _ _ _ (s.mono kp) m2 o2 ⟨λ ρ' μ' σ' H' q k' s' m'=>?_,λ _ _ _ _ q=>False.elim q,λ _ _ _ _ q=>False.elim q,λ d μ' v H' q k' r' m'=>?_⟩
 ·exact kd.nx _ _ _ _ q (k1.trans (kp.trans k')) s' m'
 ·exact kd.rt _ _ _ _ q (k1.trans (kp.trans k')) r' m'
theorem zh2 {va:TA} {tv:Addr->TS} {st:V->L2.St->L2.St} {st3:D->St3->St3} (hstp:∀ {H:Hp} {ρ:St3} {σ:L2.St} {d:D} {v:V},RSt X.K H ρ σ->RelD X.K H d v->RSt X.K H (st3 d ρ) (st v σ))
    (ra:RdA X.K va ta) (hr':∀ ea,RdS X.K (tv ea) ts) (hm:X.mg x=some (.ref Pc)) (k4:kitCls X.K (.ref Pc) (.ref Pc)=some true) :
    RdS X.K (λ D σ H=>va σ H λ vs H1=>ub4 X.K X.mg spx vs H1 (λ v H2=>D.nx (st v σ) H2) (wi1 X.K Pc (λ D σ H=>∀ ea,tv ea D σ H) D σ H1)) (ze1 spx st3 x ta ts):=by
 intro σ H D ρ μ D3 s m h kd;refine ra σ H _ ρ μ _ s m h λ ds μ1 vs H1 h1 k1 r1 m1=>?_;exact ⟨ds,μ1,_,_,r1,m1,h1,λ d μ2 v H2 h2 k2 r2 m2=>kd.nx _ _ _ _ h2 (k1.trans k2) (hstp (s.mono (k1.trans k2)) r2) m2,uf1 hr' hm k4 [90] k1 kd⟩
theorem su2 (c:CalX X.prog X.w X.K X.mg X.base k fx ps spx) (hr:Room k X.A) (ha:RA X (e :: es) ta) (hsu:∀ ea,RSs (mark X (.ref ea)) (b₀ :: suite) ts)
    (hm:X.mg x=some (.ref Pc)) (k2:kitCls X.K (.ref Pc) [42]=some true) (k3:kitCls X.K (.type "type") (.type "tuple")=some false) (k4:kitCls X.K (.ref Pc) (.ref Pc)=some true)
    (hg:Gl X x:=by rfl) (hgf:Gl X fx:=by rfl) (hd:[17]=false:=by decide)
    (hst:X.stack=X.env :: X.outer:=by rfl) (hfr:X.env.frame=some X.env.locals:=by rfl) (hxe:∀ v s,X.xe v s->False:=by intro _ _ h; exact h)
    (hdb:(fx == ("__debug__" : Str))=false:=by decide) (he:starEach (e :: es) X.env=[26] :: starEach es X.env:=by rfl) (hpl:[31].any (·.1)=false:=by rfl)
    (hs:swapsWith [53] none epos.line X.env=pure false:=by rfl) :
    RS X (.Try [.Expr [53] epos] [.ExceptHandler (some (.Name x np)) none (b₀ :: suite) hpos] [] [] pos) (ze1 spx zl2 x ta ts):=by
 obtain ⟨f,fd,F,hmf,hkf,hb⟩:=c;obtain ⟨va,pa,ra⟩:=ha;refine ⟨_,λ pins s σ H D I h=>?_,zh2 (tv:=λ ea=>(hsu ea).choose) (st:=λ _ σ=>σ) (λ s _=>s) ra (λ ea=>(hsu ea).choose_spec.2) hm k4⟩;refine wpAny_Try_except (wpAny_execs_cons (wpAny_Expr_any ?_ I.quiet hs));exact ye1 F hr hgf hmf hkf hb pa (λ ea pins s σ H D I h=>(hsu ea).choose_spec.1 pins s σ H D I (h ea)) ⟨hg,hm,hd,k2,k3,hst,hfr,hxe⟩ hdb he hpl I h λ v u H2 s2 rv I2 q=>wpAny_execs_nil (wpAny_execs_nil ⟨σ,H2,I2,q⟩)
theorem uu2 {j:Nat} {py:Pos} (c:CalX X.prog X.w X.K X.mg X.base k fx ps spx) (hr:Room k X.A) (ha:RA X (e :: es) ta) (hsu:∀ ea,RSs (mark X (.ref ea)) (b₀ :: suite) ts) (hN:X.N.Nodup)
    (hm:X.mg x=some (.ref Pc)) (k2:kitCls X.K (.ref Pc) [42]=some true) (k3:kitCls X.K (.type "type") (.type "tuple")=some false) (k4:kitCls X.K (.ref Pc) (.ref Pc)=some true)
    (hj:X.N[j]?=some y:=by rfl) (hlocy:X.env.scope.names.lookup y=some .local:=by rfl) (hg:Gl X x:=by rfl) (hgf:Gl X fx:=by rfl) (hd:[17]=false:=by decide)
    (hst:X.stack=X.env :: X.outer:=by rfl) (hfr:X.env.frame=some X.env.locals:=by rfl) (hxe:∀ v s,X.xe v s->False:=by intro _ _ h; exact h)
    (hdb:(fx == ("__debug__" : Str))=false:=by decide) (he:starEach (e :: es) X.env=[26] :: starEach es X.env:=by rfl) (hpl:[31].any (·.1)=false:=by rfl)
    (hs:swapsWith [53] (some (.Name y py)) epos.line X.env=pure false:=by rfl) :
    RS X (.Try [.Assign [.Name y py] [53] epos] [.ExceptHandler (some (.Name x np)) none (b₀ :: suite) hpos] [] [] pos) (ze1 spx (yu2 j) x ta ts):=by
 obtain ⟨f,fd,F,hmf,hkf,hb⟩:=c;obtain ⟨va,pa,ra⟩:=ha;refine ⟨_,λ pins s σ H D I h=>?_,zh2 (tv:=λ ea=>(hsu ea).choose) (st:=λ v σ=>σ.set j (some v)) (λ s r=>s.set j r) ra (λ ea=>(hsu ea).choose_spec.2) hm k4⟩;refine wpAny_Try_except (wpAny_execs_cons (wpAny_Assign_Name ?_ hs));exact ye1 F hr hgf hmf hkf hb pa (λ ea pins s σ H D I h=>(hsu ea).choose_spec.1 pins s σ H D I (h ea)) ⟨hg,hm,hd,k2,k3,hst,hfr,hxe⟩ hdb he hpl I h λ v u H2 s2 rv I2 q=>yz0 I2 hN hj (.inl hlocy) rv (λ s3 I3=>wpAny_execs_nil (wpAny_execs_nil ⟨_,H2,I3,q⟩)) (.inr hlocy)
theorem tu2 {ti:TE3} {tab:Str->Option (XE3->Sp3)} (M:Mdc X.w X.K X.mg y a) (T:MdFX X.prog X.w X.K X.mg X.base k a tab) (hi:RE X i ti) (hr:Room k X.A) (ha:RA X (e :: es) ta) (hsu:∀ ea,RSs (mark X (.ref ea)) (b₀ :: suite) ts)
    (hm:X.mg x=some (.ref Pc)) (k2:kitCls X.K (.ref Pc) [42]=some true) (k3:kitCls X.K (.type "type") (.type "tuple")=some false) (k4:kitCls X.K (.ref Pc) (.ref Pc)=some true)
    (hg:Gl X x:=by rfl) (hgy:Gl X y:=by rfl) (hd:[17]=false:=by decide)
    (hst:X.stack=X.env :: X.outer:=by rfl) (hfr:X.env.frame=some X.env.locals:=by rfl) (hxe:∀ v s,X.xe v s->False:=by intro _ _ h; exact h) (hs:NoSl i:=by intro _ _; rfl)
    (hdb:(y == ("__debug__" : Str))=false:=by decide) (he:starEach (e :: es) X.env=[26] :: starEach es X.env:=by rfl) (hpl:[31].any (·.1)=false:=by rfl) :
    RS X (.Try [.Return (some (.Call (.Subscript (.Name y p) i spos) (e :: es) [] cpos)) epos] [.ExceptHandler (some (.Name x np)) none (b₀ :: suite) hpos] [] [] pos) (wd2 tab x ti ta ts):=by
 obtain ⟨vi,pi,ri⟩:=hi;obtain ⟨va,pa,ra⟩:=ha;refine ⟨_,sw2 (ts:=λ D σ H=>∀ ea,(hsu ea).choose D σ H) M hgy pi hr pa (λ ea pins s σ H D I h=>(hsu ea).choose_spec.1 pins s σ H D I (h ea)) ⟨hg,hm,hd,k2,k3,hst,hfr,hxe⟩ hs hdb he hpl,?_⟩;intro σ H D ρ μ D3 s m h kd;refine ri σ H _ ρ μ _ s m h λ y μ1 v H1 h1 k1 r1 m1=>?_;split at h1
 ·next z =>
  split at h1
  ·next sp ej =>
   obtain ⟨g,fn,ps,e1,e2,f',fd,F,hmf,hk,hb⟩:=T z sp ej;rw [e2] at hmf;cases hmf;cases r1;refine ⟨z,g,fd,ps,_,rfl,e1,F,hk,hb,ra σ H1 _ ρ μ1 _ [90] m1 h1 λ ds μ2 vs H2 h2 k2 r2 m2=>?_⟩;exact ⟨ds,μ2,_,_,r2,m2,h2,kd.rt.after (k1.trans k2),uf1 (λ ea=>(hsu ea).choose_spec.2) hm k4 (s.mono (k1.trans k2)) (k1.trans k2) kd⟩
  ·exact h1.elim
 ·exact h1.elim
end
section
theorem zw2 {k:Nat} {sp:Sp3} (oc:ObjC X.K x C) (mk:makesIn X.K C=true) (kp:keepIn X.K (.ref C)=true) (cf:CalT X.prog X.w X.K X.mg X.base k C "__init__" ps sp) (hm:X.mg x=some (.ref C)) (hr:Room (k + 1) X.A)
    (hg:Gl X x:=by rfl) (hdb:[17]=false:=by decide):RE X (.Call (.Name x p) [] [] pos) (zb4 x sp nil3):=by
 obtain ⟨f,fd,F,h1,h2,h3,hb⟩:=cf;refine ⟨_,tx2 ⟨mk,h1,h2,kp⟩ F hr hg hm hb .nil wy2 hdb,λ σ H Q ρ μ Q3 s mm h kk y dy n1 n2 n3=>?_⟩;rw [append_nil];have kA:Kp H (upd H dy (.own y)):=Kp.new n2;have n1':upd H dy (.own y) y=none:=by rw [va0 (Ne.symm n3)]; exact n1
 have kB:Kp (upd H dy (.own y)) (upd (upd H dy (.own y)) y (.ins C dy [])):=Kp.new n1';refine ⟨_,_,_,.cons (.ref y) .nil,mm.newI oc.ns n1 n2 n3,h y (mm.free n1),λ d μ2 v H2 q k2 r2 m2=>?_⟩;obtain ⟨rfl,q2⟩:=q;cases r2;exact ⟨rfl,kk _ _ _ _ q2 (kA.trans (kB.trans k2)) (.ref y) m2⟩
end
end Pv
namespace L2
open PySem PySem.Spec PyProof.Rows
section
variable {X:Cx}
def rep (z:Str) (n:Nat):Str:=⟨(List.replicate n z.cps).foldl (· ++ ·) #[]⟩
def rSmx:R2:=λ x y H Q=>∃ z k,x=.str z /\ y=.int k /\ (1 < k /\ k<=1000) /\ (0 < z.length /\ z.length<=1000) /\ Q (.str (rep z k.toNat)) H
theorem up1 (x:Str):∀ (n:Nat) (a:Array Nat),((List.replicate n x.cps).foldl (· ++ ·) a).size=a.size + x.length * n
 | 0,a=>by simp
 | n + 1,a=>by
  rw [replicate_succ,List.foldl_cons,up1 x n,Array.size_append,Nat.mul_succ];show a.size + x.cps.size + x.length * n=_;have:x.cps.size=x.length:=rfl;omega
theorem op_smx:OpR X (binaryOp .Mult) rSmx:=by
 intro pins s σ H x y v u Q I rx ry h;obtain ⟨z,k,rfl,rfl,⟨k1,k2⟩,⟨z1,z2⟩,q⟩:=h;obtain ⟨t,rfl⟩:=rx;obtain ⟨t',rfl⟩:=ry;have hm:z.length * k.toNat<=1000000:=Nat.le_trans (Nat.mul_le_mul z2 (show k.toNat<=1000 by omega)) [8];have hs:z.length * k.toNat<=sizeLine:=Nat.le_trans hm [8];have c1:¬ k < 1:=by omega
 have c2:(k == 1 || z.length == 0)=false:=by
  have a1:(k == 1)=false:=by simp; omega
  have a2:(z.length == 0)=false:=by simp; omega
  rw [a1,a2]; rfl
 refine P.mul_str (by rw [decide_eq_false [7],decide_eq_false [7]]; rfl) (λ _ _=>?_) (λ _ _=>by unfold Builtin.Str.tooLong; simp; exact hs) ?_
 ·have h1:(1000:Int)<=(2 ^ 63 - 1) / k:=(Int.le_ediv_iff_mul_le [7]).mpr [7];omega
 ·rw [if_neg c1,c2]
  have el:(rep z k.toNat).length=z.length * k.toNat:=by
   show Array.size ((List.replicate k.toNat z.cps).foldl (· ++ ·) #[])=_;rw [up1]; simp
  exact ⟨by show Str.length (rep z k.toNat)<=sizeLine; rw [el]; exact hs,.str _,H,I.tok _,⟨_,rfl⟩,q⟩
end
end L2
namespace Pv
open PySem L2
def smxR:R3:=λ x y μ Q=>match x,y with
 | .str z,.int k=>(1 < k /\ k<=1000) /\ (0 < z.length /\ z.length<=1000) /\ Q (.str (rep z k.toNat)) μ
 | _,_=>False
theorem q_smx {X:Cx}:RO X (binaryOp .Mult) smxR:=by
 refine ⟨_,op_smx,λ x y v u H Q μ Q3 m rx ry h k=>?_⟩;unfold smxR at h;split at h
 ·cases rx;cases ry;exact ⟨_,_,rfl,rfl,h.1,h.2.1,k _ _ _ _ h.2.2 [37] (.str _) m⟩
 ·exact h.elim
end Pv
namespace Pv
open PySem PySem.Spec PyProof.Rows L2 PySem.Calls
theorem ub2:entryFor table "proto.unchain" = some Builtin.«proto.unchain» := entryFor_of_tree (by kernel_rfl)
variable {w:World} {A:Around} {h:Addr} {bm bmN:[27]} {newId initId:String} {Q:Flow->Shared->Prop} {cpos npos:Pos} {kk:Nat}
section
variable {prog:[83]} {E:[9]} {s:[88]} {env:Env}
theorem tk1 {α:Type} {e:Addr} {oe:Obj} {vs:Array Value} {Q:α->Shared->Prop} (hh:A.handled=some (.ref h)) (hne:h ≠ e) (f2:F2 s.heap h) (he:s.heap.get? e=some oe) (hd:oe.data=.fields vs) (hs:2 < vs.size)
    (k:E (.ref e) { s with heap:=s.heap.update e (Obj.mapFields (·.setIfInBounds 2 (.ref h))) }):wpAny [13] A (raiseNew (.ref e):Sem α) Q E s:=by
 obtain ⟨oh,ws,h1,h2,h3⟩:=f2;unfold raiseNew;refine wpAny_bind (wpAny_handled ?_);rw [hh];dsimp only;rw [if_pos (by simp [hne])];refine wpAny_bind (wpAny_holding (wpAny_runValue (codeAny_builtin ub2 ?_)));unfold Builtin.«proto.unchain»;refine wpAny_bind (wpAny_field h1 h2 h3 ?_);rw [if_pos (by rfl)];refine wpAny_bind (wpAny_pure [35]);show wpAny _ _ (setField (.ref e) 2 (.ref h) >>= _) _ _ _;refine wpAny_bind (wpAny_setField he hd hs (wpAny_throw k))
variable {nm q:Str} {C N:Addr} {bs bmB:[27]} {hdct:Bool} {sn:[29]} {sub:[27]} {ab:Bool} {col:Option Bool} {dd:Option Addr} {k0 k1 k2 k3 k5:Option Value} {B Bn nid inN:String} 
theorem tf1 {x c:Sem Value} (hbase:bm.contains [42]=true) (hh:A.handled=some (.ref h))
    (hx:wpAny [13] A x (λ v s₁=>∃ e t,v=.ref e /\ s₁.heap.get? C=some (excClassObj nm q C N bs bm hdct sn sub ab col dd k0 k1 k2 k3 k5 newId) ∧
     s₁.heap.get? e=some { cls:=.ref C,data:=.fields #[.ref t,.none,.none,.none,.bool false,.none] } /\ h ≠ e /\ F2 s₁.heap h /\ wpAny [13] A c (λ cv s₂=>cv=.none /\ s₂=s₁) E s₁ ∧
     ∀ h',h'.get? e=some { cls:=.ref C,data:=.fields #[.ref t,.none,.ref h,.none,.bool true,.none] }->(∀ b,b ≠ e->h'.get? b=s₁.heap.get? b)->E (.ref e) { s₁ with heap:=h' }) E s) :
    wpAny [13] A (raiseStmt env (some x) (some c)) Q E s:=by
 have hcB:(Value.ref C :: bm).contains [42]=true:=by rw [List.contains_cons,hbase,Bool.or_true]
 unfold raiseStmt;refine wpAny_bind (wpAny_mono hx (λ v s₁ h₁=>?_) λ _ _ x=>x);obtain ⟨e,t,rfl,hC,he,hne,f2,hc,hE⟩:=h₁;refine wpAny_bind (wpAny_holding (wpAny_mono hc (λ cv s₂ h₂=>?_) λ _ _ x=>x));obtain ⟨rfl,rfl⟩:=h₂;obtain ⟨hp,g,d,tk,os⟩:=s₂;refine wpAny_bind [35];refine wpAny_bind (wpAny_holding ?_);unfold excFromValue
 repeat (first | with_reducible refine wpAny_loadPart_at he ?_ | with_reducible refine wpAny_loadPart_at hC ?_ | (with_reducible refine wpAny_isSubtype_exc hC ?_; rw [hcB]) | wp_step)
 have hCe:e ≠ C:=λ z=>by
  subst z;have:=he.symm.trans hC;cases this
 have up:∀ (m:Array Value->Array Value) (h':Heap) (b:Addr),b ≠ e->(h'.update e (Obj.mapFields m)).get? b=h'.get? b:=λ m h' b hb=>Heap.get?_update_other _ _ (Ne.symm hb);have hC2:=(up (·.setIfInBounds 4 (.bool true)) _ C (Ne.symm hCe)).trans ((up (·.setIfInBounds 3 .none) _ C (Ne.symm hCe)).trans hC);have e1:=Heap.get?_update_self (Obj.mapFields (·.setIfInBounds 3 Value.none)) he rfl;have e2:=Heap.get?_update_self (Obj.mapFields (·.setIfInBounds 4 (.bool true))) e1 rfl;have e3:=Heap.get?_update_self (Obj.mapFields (·.setIfInBounds 2 (.ref h))) e2 rfl
 repeat (first | with_reducible refine wpAny_loadPart_at hC2 ?_ | wp_step)
 refine (tk1 hh hne ?_ e2 rfl (show 2 < 6 by decide) (hE _ e3 λ b hb=>?_))
 ·obtain ⟨oh,ws,h1,h2,h3⟩:=f2;exact ⟨oh,ws,(up _ _ h hne).trans ((up _ _ h hne).trans h1),h2,h3⟩
 ·exact (up _ _ b hb).trans ((up _ _ b hb).trans (up _ _ b hb))
theorem sf3 (Fn:ExcBaseFacts Bn newId inN bmN) (hBn:bmB.contains (.type Bn)=true) (F:ExcBaseFacts B nid initId bmB) {mN:[25]} {x:Str} {np pos:Pos} {args:List Expr} {ea:Addr} 
    (hbase:bm.contains [42]=true) (hh:A.handled=some (.ref ea)) (hplain:(backTo cpos (starEach args env)).any (·.1)=false) (hni:mN "__init__" = none)
    (h:wpAny [13] A (eval (.Name x np) env) (λ f s₁=>f=.ref C /\ wpAny [13] A (evalArgs (.ref C) true (backTo cpos (starEach args env)) [])
     (λ a s₂=>a.kw=[] /\ a.pos.length<=sizeLine /\ s₂.heap.get? C=some (excClassObj nm q C N bs bm hdct sn sub ab col dd k0 k1 k2 k3 k5 newId) /\ s₂.heap.Ns N mN /\ OwnTail s₂.heap bmB bm /\ F2 s₂.heap ea ∧
      ∀ h' e,(∀ b o,s₂.heap.get? b=some o->h'.get? b=some o)->s₂.heap.get? e=none->(∃ t,h'.get? e=some { cls:=.ref C,data:=.fields #[.ref t,.none,.ref ea,.none,.bool true,.none] })->E (.ref e) { s₂ with heap:=h' }) E s₁) E s) :
    wpAny [13] A (exec (.Raise (some (.Call (.Name x np) args [] cpos)) (some (.Constant .none kk npos)) pos) env) Q E s:=by
 rw [arm_exec_Raise];simp only [evalOpt,Option.map];refine wpAny_bind (wpAny_standAt (tf1 (C:=C) (nm:=nm) (q:=q) (N:=N) (bs:=bs) (bm:=bm) (hdct:=hdct) (sn:=sn) (sub:=sub) (ab:=ab) (col:=col) (dd:=dd) (k0:=k0) (k1:=k1) (k2:=k2) (k3:=k3) (k5:=k5) (newId:=newId) hbase hh (wpAny_bind (wpAny_mono (wpAny_Call_ofName (wpAny_mono h (λ f s₁ h₁=>?_) λ _ _ x=>x)) (λ v s₃ h₃=>wpAny_bind (wpAny_standAt (wpAny_pure h₃))) λ _ _ x=>x))));obtain ⟨rfl,h₁⟩:=h₁;unfold callWith;refine wpAny_bind (wpAny_holding (wpAny_mono h₁ (λ a s₂ h₂=>wpAny_bind (wpAny_standAt ?_)) λ _ _ x=>x));obtain ⟨apos,akw⟩:=a;obtain ⟨hkw,hlen,hC,hn,T,f2,h₂⟩:=h₂;obtain rfl:akw=[]:=hkw;obtain ⟨hp,g,d,tk,os⟩:=s₂;simp only [hplain];refine wpAny_bind (wpAny_keeperOf_exc hC ?_);refine wpAny_bind (wpAny_call_exc_subU (hrest:=hlen) Fn hBn F T hC hn hni λ h' e hm=>wpAny_bind (wpAny_holding (wpAny_point [35])));obtain ⟨t,ht,_,_⟩:=hm.there;obtain ⟨oh,ws,g1,g2,g3⟩:=f2;have hne:ea ≠ e:=λ z=>by subst z; rw [hm.new] at g1; cases g1
 refine ⟨e,t,rfl,hm.keeps _ _ hC,ht,hne,⟨oh,ws,hm.keeps _ _ g1,g2,g3⟩,?_,λ h2 k1 k2=>h₂ h2 e (λ b o q=>?_) hm.new ⟨t,k1⟩⟩
 ·exact wpAny_bind (Constant_none (wpAny_bind (wpAny_standAt (wpAny_pure ⟨rfl,rfl⟩))))
 ·rw [k2 b (λ z=>by subst z; rw [hm.new] at q; cases q)];exact hm.keeps b o q
end
def tTryR (K:Fg) (E:XK) (Pc C2:Addr) (sp:Sp) (ta:TA) (tb:Addr->TA):TS:=λ D σ H=>ta σ H λ vs H1=>sp vs H1 (λ v H2=>D.nx σ H2)
 (λ cls o H2=>o=none /\ ∃ C,cls=.ref C /\ kitCls K (.ref C) (.ref Pc)=some true /\ (Kp H1 H2->∀ ea ob,H2 ea=none->ob.cls=.ref C ->
  tb ea σ (upd H2 ea (.frz ob (.own 0))) λ vs H3=>vs.length<=sizeLine /\ H3 ea=some (.frz ob (.own 0)) /\ E (.ref C2) (some 0) H3))
variable {P:[83]} {K:Fg} {mg:[25]} {base:Heap} {qual:Str} {scope:Scope} {f:Addr} {cd:Value} {outer:List Env} {s0:[88]} {H0:Hp} {ps:[29]}
section
variable {N:[29]} {E:XK}
theorem zx3 {k:Nat} {fa Pc C2:Addr} {fd:FuncData} {sp:Sp} {fx x x2:Str} {e e₀:Expr} {es rest:List Expr} {p np np2 cpos2 rpos hpos pos epos:Pos} {ta:TA} {tb:Addr->TA} {Bn B inN nid:String} 
    (F:FnOk P w K mg base (CXn P w) k fa fd ps sp) (hr:Room k (A.deeper [4])) (hgf:Gl [6] fx) (hmf:mg fx=some (.ref fa)) (hkf:keepIn K (.ref fa)=true) (hb:Binds K fd ps []) (ha:PA (xe3 [6]) (e :: es) ta)
    (hsu:∀ ea,PA (mark [6] (.ref ea)) (e₀ :: rest) (tb ea)) (hg:Gl [6] x) (hm:mg x=some (.ref Pc)) (hd:[17]=false) (k2:kitCls K (.ref Pc) [42]=some true) (k3:[51])
    (O:OwnCls x2 C2 bm newId mg base) (Fn:ExcBaseFacts Bn newId inN bmN) (hBn:bm.contains (.type Bn)=true) (FB:ExcBaseFacts B nid initId bm) (hg2:Gl [6] x2) (hd2:(x2 == ("__debug__" : Str))=false)
    (hdb:(fx == ("__debug__" : Str))=false) (he:starEach (e :: es) [4]=(false,eval e [4]) :: starEach es [4]) (hpl:(backTo cpos (starEach es [4])).any (·.1)=false)
    (he2:starEach (e₀ :: rest) [4]=(false,eval e₀ [4]) :: starEach rest [4]) (hpl2:(backTo cpos2 (starEach rest [4])).any (·.1)=false)
    (hs:swapsWith [53] none epos.line [4]=pure false) :
    PS [6] (.Try [.Expr [53] epos] [.ExceptHandler (some (.Name x np)) none [.Raise (some (.Call (.Name x2 np2) (e₀ :: rest) [] cpos2)) (some (.Constant .none kk npos)) rpos] hpos] [] [] pos) (tTryR K E Pc C2 sp ta tb):=by
 intro pins s σ H D I h;refine wpAny_Try_except (wpAny_execs_cons (wpAny_Expr_any ?_ I.quiet hs));refine wpAny_Call_Name_kw (xf0 I hgf hmf ?_ hdb);refine callWith_K (h₀:=base) I.ok.mod.kin hkf (wpAny_mono (ha cpos pins s σ H _ (inv_c0 I) h) (λ us s1 ⟨vs,H1,I1',r,q⟩=>⟨I1'.kIn,?_⟩) λ _ _ z=>(show False from z).elim) he hpl;have I1:=inv_c1 I1';have hl:(us ++ []).length=ps.length:=by rw [append_nil,<- r.length]; exact F.len _ _ _ _ q
 have hbb:=hb s1 us I1.kIn hl;rw [append_nil] at hbb;refine wpAny_call (codeAny_mono (F.run _ _ s1 H1 ⟨us,[]⟩ us vs _ _ hr I1.env0 hbb r q) λ rr s' hq=>?_);cases rr with
 | error ex =>
  dsimp only [CR] at hq;obtain ⟨ea,cls,a0,H',B',rfl,os,bare,u2,hok,fl,hea,cov1,cov2,oo,hf2,rfl,C,rfl,k1,hkk⟩:=hq;have fl0:=fl;refine wpAny_mono ((Kf.note _ _).any (hf2 rfl) (wpAny_looks_onW (Q:=λ _ z=>∃ h4,z={ s' with heap:=h4 } /\ Heap.HeldW B' (envOfC qual scope s0.heap.objs.size f cd :: outer) ea (.ref C) a0 [4].locals h4 /\ s'.heap.UpToSlots h4) I1.ok.frames rfl fl λ h4 a b=>⟨h4,rfl,a,b⟩)) (λ _ z hz=>?_) λ _ _ z=>z;obtain ⟨⟨h4,rfl,held4,sm4⟩,g4⟩:=hz;refine wpAny_mono ((Kf.flight _ _).any g4 (wpAny_landsW (s:={ s' with heap:=h4 }) (Q:=λ _ z=>∃ h5,z={ s' with heap:=h5 } /\ Heap.FlyingW B' (envOfC qual scope s0.heap.objs.size f cd :: outer) ea (.ref C) a0 h5 /\ h4.UpToSlots h5) held4 λ h5 a b=>⟨h5,rfl,a,b⟩)) (λ _ z hz=>?_) λ _ _ z=>z;obtain ⟨⟨h5,rfl,fl5,sm5⟩,g5⟩:=hz;have I5:Inv [6] pins σ H' { s' with heap:=h5 }:=I1.call' (s':={ s' with heap:=h5 }) (ch:=[]) os (ym0 u2 cov1 fl0 fl5.1 (sm4.trans sm5)) (xj0 hok cov2 fl5.1) bare (λ b z=>absurd z [18]);obtain ⟨ob5,hob5,hc5⟩:=fl5.there;refine wpAny_handleBy_cons (codeAny_handlers_test (xf0 (xm0 I5 (.ref ea)) hg hm ?_ hd)) (by intro q; cases q);refine tt0 I5.kIn hob5 hc5 k1 k2 k3 ?_;refine codeAny_handlers_suite ?_;refine wpAny_mono ((Kf.flight _ _).any g5 (lands_againW (s:={ s' with heap:=h5 }) (Q:=λ _ z=>∃ h6,z={ s' with heap:=h6 } /\ Heap.FlyingW B' (envOfC qual scope s0.heap.objs.size f cd :: outer) ea (.ref C) a0 h6 /\ h5.UpToSlots h6) fl5 λ h6 a b=>⟨h6,rfl,a,b⟩)) (λ _ z hz=>?_) λ _ _ z=>z;obtain ⟨⟨h6,rfl,fl6,sm6⟩,oe,ws,g6,g7,g8⟩:=hz
  have hoec:oe.cls=.ref C:=by
   obtain ⟨o2,w1,w2⟩:=fl6.there;have:=g6.symm.trans w1;cases this;exact w2
  have hsn:s1.heap.get? ea=none:=by
   cases q:s1.heap.get? ea with
   | none=>rfl
   | some o =>
    exfalso;obtain ⟨o1,e1⟩:=u2.there ea o q [18];by_cases hb:ea ∈ frs (envOfC qual scope s0.heap.objs.size f cd :: outer)
    ·obtain ⟨_,o',ho,hnf⟩:=fl0.2.2.1.mem hb;obtain ⟨oe0,vs0,he0,_,hd0,_⟩:=fl0.first;rw [he0] at ho; cases ho;exact hnf _ hd0
    ·have:=cov1 ea o1 e1 hb ⟨o,q⟩;rw [fl0.2.1] at this; cases this
  have I7:Inv [6] pins σ (upd H' ea (.frz oe (.own 0))) { s' with heap:=h6 }:=I1.call' (s':={ s' with heap:=h6 }) (ch:=[]) os (vj4 (ym0 u2 cov1 fl0 fl6.1 ((sm4.trans sm5).trans sm6)) hea hsn) (yo3 (xj0 hok cov2 fl6.1) hea g6) bare (λ b z=>absurd z [18]);have hq:=hkk ⟨u2.tups,u2.frzs⟩ ea oe hea hoec;obtain ⟨tl,NN,nm,qn,bs,hdct,sn,sub,ab,col,dd,k0,k1',k2',k3',k5,mN,hC,hN,hni,T⟩:=O.obj
  refine wpAny_passesOwnAt PassesOwnAt.leaving (wpAny_execs_cons (sf3 (C:=C2) (nm:=nm) (q:=qn) (N:=NN) (bs:=bs) (bm:=tl) (hdct:=hdct) (sn:=sn) (sub:=sub) (ab:=ab) (col:=col) (dd:=dd) (k0:=k0) (k1:=k1') (k2:=k2') (k3:=k3') (k5:=k5) (ea:=ea)
   Fn hBn FB (mN:=mN) (T.hasType FB.hasBase) rfl (by
    show (backTo cpos2 (starEach (e₀ :: rest) [4])).any (·.1)=false;rw [he2]; show (false || (backTo cpos2 (starEach rest [4])).any (·.1))=false; rw [hpl2]; rfl) hni (xf0 (xm0 I7 (.ref ea)) hg2 O.bound ⟨rfl,?_⟩ hd2)))
  have hA:=hsu ea cpos2 pins _ σ _ _ (xm0 I7 (.ref ea)) hq;have he':starEach (e₀ :: rest) (mark [6] (.ref ea)).env=_:=he2;rw [he'] at hA;show wpAny _ _ (evalArgs (.ref C2) true (backTo cpos2 (starEach (e₀ :: rest) [4])) []) _ _ _;rw [he2];refine Calls.evalArgs_plain (wpAny_mono hA (λ us s2 ⟨vs,H2,I2,r2,q2,q3,q4⟩=>⟨rfl,?_,I2.bk _ _ hC,hN.keeps I2.bk,T.keeps I2.bk,?_,λ h' e3 w1 w2 ⟨t,w3⟩=>?_⟩) λ _ _ z=>(show False from z).elim)
  ·rw [<- r2.length]; exact q2
  ·exact ⟨oe,ws,(I2.hok ea _ q3).1,g7,g8⟩
  ·exact vh2 (oo:=some 0) (yo0 I1.ok I2) w1 w2 w3 rfl rfl rfl (λ z=>by cases z) q4
 | ok fl =>
  cases fl with
  | ret u =>
   obtain ⟨v,H2,I2,rv,q2⟩:=I1.after hq;exact wpAny_execs_nil (wpAny_execs_nil ⟨σ,H2,I2,q2⟩)
  | next=>exact False.elim hq
  | brk=>exact False.elim hq
  | cont=>exact False.elim hq
end
def wo3 (XE:XE3) (spx:[41]) (x2:Str) (ta tb:TA3):TS3:=λ D' ρ μ=>ta ρ μ λ ds μ1 =>
 spx (λ c μ2=>c = "NoWord" /\ tb ρ μ2 λ vs μ3=>vs.length<=sizeLine /\ XE x2 μ3) ds μ1 (λ _ μ2=>D'.nx ρ μ2)
section
variable {N:[29]} {E:XK} {XE:XE3}
theorem wu3 {k:Nat} {Pc C2:Addr} {spx:[41]} {fx x2:Str} {e e₀:Expr} {es rest:List Expr} {p np np2 cpos2 rpos hpos pos epos:Pos} {ta tb:TA3} {Bn B inN nid:String} 
    (EX:[63]) (c:CalX P w K mg base k fx ps spx) (hr:Room k (A.deeper [4])) (ha:RA (xe3 [6]) (e :: es) ta) (hsu:∀ ea,RA (mark [6] (.ref ea)) (e₀ :: rest) tb)
    (hm:mg "NoWord" = some (.ref Pc)) (k2:kitCls K (.ref Pc) [42]=some true) (k3:[51]) (k4:kitCls K (.ref Pc) (.ref Pc)=some true)
    (O:OwnCls x2 C2 bm newId mg base) (Fn:ExcBaseFacts Bn newId inN bmN) (hBn:bm.contains (.type Bn)=true) (FB:ExcBaseFacts B nid initId bm)
    (hg:Gl [6] "NoWord" := by rfl) (hgf:Gl [6] fx:=by rfl) (hg2:Gl [6] x2:=by rfl) (hd:(("NoWord" : Str) == ("__debug__" : Str))=false:=by decide) (hd2:(x2 == ("__debug__" : Str))=false:=by decide) (hx2:x2 ≠ "NoWord" := by decide)
    (hdb:(fx == ("__debug__" : Str))=false:=by decide) (he:starEach (e :: es) [4]=(false,eval e [4]) :: starEach es [4]:=by rfl) (hpl:(backTo cpos (starEach es [4])).any (·.1)=false:=by rfl)
    (he2:starEach (e₀ :: rest) [4]=(false,eval e₀ [4]) :: starEach rest [4]:=by rfl) (hpl2:(backTo cpos2 (starEach rest [4])).any (·.1)=false:=by rfl)
    (hs:swapsWith [53] none epos.line [4]=pure false:=by rfl) :
    RS [6] (.Try [.Expr [53] epos] [.ExceptHandler (some (.Name "NoWord" np)) none [.Raise (some (.Call (.Name x2 np2) (e₀ :: rest) [] cpos2)) (some (.Constant .none kk npos)) rpos] hpos] [] [] pos) (wo3 XE spx x2 ta tb):=by
 obtain ⟨fa,fd,F,hmf,hkf,hb⟩:=c;obtain ⟨va,pa,ra⟩:=ha;have hh:∃ tv:Addr->TA,(∀ ea,PA (mark [6] (.ref ea)) (e₀ :: rest) (tv ea)) /\ ∀ ea,RdA K (tv ea) tb:=⟨λ ea=>(hsu ea).choose,λ ea=>(hsu ea).choose_spec.1,λ ea=>(hsu ea).choose_spec.2⟩;obtain ⟨tv,hp,hr'⟩:=hh;refine ⟨_,zx3 F hr hgf hmf hkf hb pa hp hg hm hd k2 k3 O Fn hBn FB hg2 hd2 hdb he hpl he2 hpl2 hs,?_⟩;intro σ H D ρ μ D3 s m h kd;refine ra σ H _ ρ μ _ s m h λ ds μ1 vs H1 h1 k1 r1 m1=>?_;refine ⟨ds,μ1,_,_,r1,m1,h1,λ d μ2 v H2 h2 k2 r2 m2=>?_,λ c C μ2 H2 o hX hmc m2 ho=>?_⟩
 ·exact kd.nx _ _ _ _ h2 (k1.trans k2) (s.mono (k1.trans k2)) m2
 ·obtain ⟨rfl,o2⟩:=hX;have hmc':mg "NoWord" = some (.ref C):=hmc;rw [hm] at hmc';cases hmc';refine ⟨ho rfl,_,rfl,k4,λ kp ea ob hea hob=>?_⟩;have kn:Kp H2 (upd H2 ea (.frz ob (.own 0))):=Kp.new hea;refine hr' ea σ _ _ ρ μ2 _ ((s.mono (k1.trans kp)).mono kn) (m2.newF hea) o2 λ ds μ3 us H3 h3 k3 r3 m3=>⟨by rw [<- r3.length]; exact h3.1,k3.frz _ _ _ zb0,?_⟩;exact EX x2 C2 μ3 H3 (some 0) h3.2 O.bound m3 λ z=>absurd z hx2
end
end Pv
namespace Pv
open PySem PySem.Spec PyProof.Rows L2
def so0 (cells:List (Str × Addr)):List (Str × NameKind)->List (Str × Addr)->List (Str × Addr)
 | [],acc=>acc
 | (n,k) :: r,acc=>if k == .free then so0 cells r ((n,(cells.lookup n).getD 0) :: acc) else so0 cells r acc
variable {scope:Scope}
theorem uc1 {env:Env} (h:∀ y ∈ scope.names,y.2=.free->(env.cells.lookup y.1).isSome=true):closureFor scope env=pure (so0 env.cells scope.names []):=by
 unfold closureFor
 have key:∀ (l:List (Str × NameKind)) (acc:List (Str × Addr)),(∀ y ∈ l,y.2=.free->(env.cells.lookup y.1).isSome=true) ->
     (forIn l acc (λ x r=>if (x.2 == NameKind.free)=true then do let c <- cellOf env x.1; pure (ForInStep.yield ((x.1,c) :: r)) else pure (ForInStep.yield r)):Sem (List (Str × Addr)))=pure (so0 env.cells l acc):=by
  intro l
  induction l with
  | nil=>intro acc _; rfl
  | cons y r ih =>
   intro acc hl;obtain ⟨n,k⟩:=y;rw [List.forIn_cons];have ih':=λ a=>ih a λ z hz=>hl z (mem_cons_of_mem _ hz);by_cases hk:k=.free
   ·subst hk;have hs:=hl (n,.free) (mem_cons_self ..) rfl;obtain ⟨c,hc⟩:=Option.isSome_iff_exists.mp hs;have ec:cellOf env n=pure c:=by unfold cellOf; rw [hc]
    simp only [so0,ec,pure_bind,beq_self_eq_true,if_true,hc,Option.getD_some];exact ih' _
   ·have hk':(k == NameKind.free)=false:=by simpa using hk
    simp only [so0,hk',Bool.false_eq_true,if_false,pure_bind];exact ih' _
 have:=key scope.names [] h;refine Eq.trans ?_ this;refine Eq.trans (bind_pure (forIn scope.names ([]:List (Str × Addr)) _:Sem (List (Str × Addr)))) ?_;congr 1
theorem uu0 {cells:List (Str × Addr)} {x:Str} {c:Addr}:∀ (l:List (Str × NameKind)) (acc:List (Str × Addr)),(∀ y ∈ l,y.2=.free->(cells.lookup y.1).isSome=true)->(acc.lookup x=some c->cells.lookup x=some c) ->
    (so0 cells l acc).lookup x=some c->cells.lookup x=some c
 | [],acc,_,ha,h=>ha h
 | (n,k) :: r,acc,hl,ha,h=>by
  unfold so0 at h;split at h
  ·next hk =>
   refine uu0 r _ (λ z hz=>hl z (mem_cons_of_mem _ hz)) (λ h2=>?_) h;rw [lookup_cons] at h2;split at h2
   ·next e =>
    have e':x=n:=eq_of_beq e;subst e';obtain ⟨c',hc⟩:=Option.isSome_iff_exists.mp (hl (x,k) (mem_cons_self ..) (eq_of_beq hk));rw [hc] at h2;simp only [Option.getD_some,Option.some.injEq] at h2;rw [hc,h2]
   ·exact ha h2
  ·exact uu0 r acc (λ z hz=>hl z (mem_cons_of_mem _ hz)) ha h
theorem tu0 {cells:List (Str × Addr)} {x:Str}:∀ (l:List (Str × NameKind)) (acc:List (Str × Addr)),((∃ c,acc.lookup x=some c) \/ (x,NameKind.free) ∈ l)->∃ c,(so0 cells l acc).lookup x=some c
 | [],acc,h=>by
  rcases h with h | h
  ·exact h
  ·cases h
 | (n,k) :: r,acc,h=>by
  unfold so0;split
  ·next hk =>
   refine tu0 r _ ?_;by_cases e:x=n
   ·subst e;left;exact ⟨(cells.lookup x).getD 0,by rw [lookup_cons]; simp⟩
   ·rcases h with ⟨c,h⟩ | h
    ·left;refine ⟨c,?_⟩;rw [lookup_cons];have:(x == n)=false:=by simpa using e
     rw [this]; exact h
    ·right;rcases List.mem_cons.mp h with h | h
     ·exact absurd (congrArg Prod.fst h) e
     ·exact h
  ·next hk =>
   refine tu0 r acc ?_;rcases h with h | h
   ·exact .inl h
   ·rcases List.mem_cons.mp h with h | h
    ·cases h; exact absurd rfl hk
    ·exact .inr h
theorem CompSc.free {X:Cx} {NN:[29]} {scope:Scope} {js:List (Option Nat)} (hcell:∀ y ∈ scope.names,y.2 ≠ .cell) (hk:scope.kind=.function) (hfn:X.env.scope.kind=.function)
    (hn:∀ y ∈ scope.names,y.2=.local->scope.names.lookup y.1=some .local) (hfree:∀ y ∈ scope.names,y.2=.free->X.env.scope.names.lookup y.1=some .cell) (hlook:∀ y ∈ scope.names,y.2=.free->scope.names.lookup y.1=some .free)
    (hcl:∀ x,X.env.scope.names.lookup x=some .cell->(X.env.cells.lookup x).isSome=true) (len:js.length=NN.length)
    (hout:∀ i ∈ List.range js.length,∀ j,js.getD i none=some j->∃ x,NN[i]?=some x /\ X.N[j]?=some x /\ scope.names.lookup x=some .free) :
    CompSc X NN scope (so0 X.env.cells scope.names []) js where
 clos:=uc1 λ y hy e=>hcl _ (hfree y hy e)
 cell:=hcell
 kind:=hk
 names:=hn
 sub:=λ x c h=>uu0 scope.names [] (λ y hy e=>hcl _ (hfree y hy e)) (λ h=>by simp at h) h
 has:=λ x h=>by
  refine tu0 scope.names [] (.inr ?_)
  have hm:∃ k,(x,k) ∈ scope.names /\ (k=.free \/ k=.cell):=by
   have key:∀ kk,(relabel scope X.env).names.lookup x=some kk->(kk=.cell \/ kk=.free)->∃ k,(x,k) ∈ scope.names /\ (k=.free \/ k=.cell):=λ kk hkk hc=>by
    have hmem:=xh0 hkk;obtain ⟨⟨n,k⟩,hy,e⟩:=List.mem_map.mp hmem;dsimp only at e;split at e
    ·next hq =>
     cases e;simp only [Bool.and_eq_true] at hq;exact ⟨k,hy,.inl (by simpa using hq.1.1)⟩
    ·cases e;exact ⟨kk,hy,hc.symm⟩
   rcases h with h | h
   ·exact key _ h (.inl rfl)
   ·exact key _ h (.inr rfl)
  obtain ⟨k,hk1,hk2⟩:=hm;rcases hk2 with rfl | rfl
  ·exact hk1
  ·exact absurd rfl (hcell _ hk1)
 len:=len
 out:=λ i j h=>by
  have hi:i < js.length:=by
   rcases Nat.lt_or_ge i js.length with z | z
   ·exact z
   ·rw [List.getElem?_eq_none z] at h; cases h
  obtain ⟨x,e1,e2,e3⟩:=hout i (List.mem_range.mpr hi) j (by rw [getD_eq_getElem?_getD,h]; rfl);have hf:=hfree (x,.free) (xh0 e3) rfl;refine ⟨x,e1,e2,.inr (.inl hf),by rw [hf]; simp,?_⟩;left
  have key:∀ (l:List (Str × NameKind)),l.lookup x=some .free->(l.map λ (n,k)=>if (k == NameKind.free && X.env.scope.kind == .function && X.env.kindOf n == some .cell) then (n,NameKind.cell) else (n,k)).lookup x=some .cell:=λ l=>by
   induction l with
   | nil=>intro h; simp at h
   | cons y r ih =>
    obtain ⟨n,k⟩:=y;intro h;rw [lookup_cons] at h;rw [map_cons,lookup_cons];by_cases e:x=n
    ·subst e;simp only [beq_self_eq_true,Option.some.injEq] at h;subst h
     have hkind:(X.env.kindOf x == some NameKind.cell)=true:=by
      show (X.env.scope.names.lookup x == some NameKind.cell)=true;rw [hf]; rfl
     simp [hfn,hkind]
    ·have e':(x == n)=false:=by simpa using e
     rw [e'] at h;have ih':=ih h;by_cases hq:(k == NameKind.free && X.env.scope.kind == ScopeKind.function && X.env.kindOf n == some NameKind.cell)=true
     ·simp only [hq,if_true,e']; exact ih'
     ·simp only [hq,Bool.false_eq_true,if_false,e']; exact ih'
  exact key _ e3
variable {w:World} {A:Around} {s:[88]}
theorem xn1 {CX:CXT} {P:[83]} {K:Fg} {mg:[25]} {base:Heap} {N:[29]} {qual:Str} {sc:Scope} {f:Addr} {cdv:Value} {outer:List Env} {H:Hp} {E:XK} {NN:[29]} {js:List (Option Nat)}
    (hcell:∀ y ∈ scope.names,y.2 ≠ .cell:=by decide +kernel) (hk:scope.kind=.function:=by rfl) (hfn:sc.kind=.function:=by rfl)
    (hn:∀ y ∈ scope.names,y.2=.local->scope.names.lookup y.1=some .local:=by decide +kernel) (hfree:∀ y ∈ scope.names,y.2=.free->sc.names.lookup y.1=some .cell:=by decide +kernel)
    (hlook:∀ y ∈ scope.names,y.2=.free->scope.names.lookup y.1=some .free:=by decide +kernel) (len:js.length=NN.length:=by rfl)
    (hout:∀ i ∈ List.range js.length,∀ j ∈ (js.getD i none).toList,∃ x ∈ NN[i]?.toList,N[j]?=some x /\ scope.names.lookup x=some .free:=by decide +kernel) :
    CompSc (cxOf CX P w K mg base N qual sc f cdv A outer s H E).nox NN scope (so0 (cxOf CX P w K mg base N qual sc f cdv A outer s H E).nox.env.cells scope.names []) js :=
 CompSc.free (X:=(cxOf CX P w K mg base N qual sc f cdv A outer s H E).nox) hcell hk hfn hn hfree hlook (λ x h=>by
  obtain ⟨c,hc⟩:=sc1 (n:=_) h
  exact Option.isSome_iff_exists.mpr ⟨c,hc⟩) len λ i hi j hj=>by
   obtain ⟨x,h1,h2,h3⟩:=hout i hi j (by rw [hj]; simp);exact ⟨x,by simpa using h1,h2,h3⟩
open PySem.AutoSeq1 (wpAny_loadPart')
theorem wb4 (p q:Addr) (a b c d:Int) (t1 t2 t3 t4:Tok) (n m:Nat) (dd dd2:Option Addr) (sl sl2:[64]) :
    Meets (Builtin.«tuple.__lt__» ⟨[.ref p,.ref q],[]⟩) (λ A R s=>s.heap.get? p=some { cls:=.type "tuple",dict:=dd,data:=.seq #[.int a t1,.int b t2] n,slots:=sl } /\ s.heap.get? q=some { cls:=.type "tuple",dict:=dd2,data:=.seq #[.int c t3,.int d t4] m,slots:=sl2 } ∧
     R (.ok (.ret (.bool (ltP a b c d)))) s) :=
 .of_wp λ prog w A R s h=>by
  obtain ⟨hp,g,dr,tk,os⟩:=s; obtain ⟨hl,hb,h⟩:=h;have f2:=AutoSeq1.sub_tuple_tuple;have lt:∀ (x y:Int) (tx ty:Tok) {Q:[9]} {E:[9]} {A:Around} {s:[88]},Q (.bool (decide (x < y))) s->wpAny [13] A (richCompare .Lt (.int x tx) (.int y ty)) Q E s:=λ x y tx ty Q E A s hq=>wpAny_lt_int hq;have eqb:∀ (x y:Int) (tx ty:Tok) {Q:Bool->Shared->Prop} {E:[9]} {A:Around} {s:[88]},Q (x == y) s->wpAny [13] A (eqBool (.int x tx) (.int y ty)) Q E s:=λ x y tx ty Q E A s hq=>wpAny_eqBool_int hq
  wp_walk using wpAny_loadPart' hl,wpAny_loadPart' hb,eqb a c t1 t3
  by_cases h1:a=c
  ·rw [show (a == c)=true by simpa using h1]
   wp_walk using eqb b d t2 t4
   by_cases h2:b=d
   ·rw [show (b == d)=true by simpa using h2]
    wp_walk
    have h':R (.ok (.ret (.bool false))) ⟨hp,g,dr,tk,os⟩:=by simpa [ltP,h1,h2] using h
    exact ⟨_,rfl,h'⟩
   ·rw [show (b == d)=false by simpa using h2]
    wp_walk using lt b d t2 t4
    exact ⟨_,rfl,by simpa [ltP,h1] using h⟩
  ·rw [show (a == c)=false by simpa using h1]
   wp_walk using lt a c t1 t3
   exact ⟨_,rfl,by simpa [ltP,h1] using h⟩
variable {prog:[83]}
section
variable {R:Result->Shared->Prop} {I:Addr} {fp wr:List Addr} {n:Nat} {P:Nat->Value->Prop} {St:Nat->Heap->Prop}
theorem wb3:(toString "min" ++ toString ".loop" : String) = "min.loop" := by decide
theorem tk3 (W:Walks prog w A.in1 I fp wr n P St) (S:Addr) (hSf:S ∉ fp) (s:[88]) (vb:Value) (c:Nat) (hst:St n s.heap)
    (hS:s.heap.get? S=some { cls:=.type "list",dict:=none,data:=.seq #[vb,vb] c,slots:=#[] })
    (hR:∀ h' tk,([89])->R (.ok (.ret vb)) [21]) :
    codeAny [13] A (.builtin "min.loop" ⟨[.ref I,.none,.ref S],[]⟩) R s:=by
 have hSw:S ∉ wr:=λ h=>hSf (W.sub _ h);refine codeAny_builtin F.entry_min_loop ?_;rw [Around.under_plainId F.plain_min_loop _];show wpAny _ A.in1 (seqItems? (.ref S) >>= _) _ _ s;refine wpAny_bind (wpAny_seqItems hS rfl ?_);show wpAny _ A.in1 (tryCatch (pyNext (.ref I)) _ >>= _) _ _ s;refine wpAny_bind (wpAny_tryCatch (W.done s _ _ hst λ h' tk hk'=>?_));have hS':=hk' S _ hSw hS;show wpAny _ A.in1 (updateSeq S (λ _=>#[]) >>= _) _ _ _;refine wpAny_bind ?_;refine wpAny_updateSeq hS' rfl (wpAny_bind (wpAny_letGo [35]));exact hR _ tk λ b o hbw hbS e=>(Heap.get?_update_other _ _ (Ne.symm hbS)).trans (hk' b o hbw e)
theorem yb4 (W:Walks prog w A.in1 I fp wr n P St) (S:Addr) (hSf:S ∉ fp) (s:[88]) (vb v0:Value) (r:Bool) (c j:Nat) (hlt:j < n) (hj:j + 1=n) (hst:St j s.heap) (hv:∀ v,P j v->v=v0)
    (hcmp:∀ (h':Heap) (tk:Nat) (Q:[9]) (E:[9]),(∀ b o,b ∉ wr->s.heap.get? b=some o->h'.get? b=some o)->Q (.bool r) ([21])->wpAny [13] A.in1 (richCompare .Lt v0 vb) Q E [21])
    (hS:s.heap.get? S=some { cls:=.type "list",dict:=none,data:=.seq #[vb,vb] c,slots:=#[] })
    (hR:∀ h' tk,([89])->R (.ok (.ret (if r then v0 else vb))) [21]) :
    codeAny [13] A (.builtin "min.loop" ⟨[.ref I,.none,.ref S],[]⟩) R s:=by
 have hSw:S ∉ wr:=λ h=>hSf (W.sub _ h);refine codeAny_builtin F.entry_min_loop ?_;rw [Around.under_plainId F.plain_min_loop _];show wpAny _ A.in1 (seqItems? (.ref S) >>= _) _ _ s;refine wpAny_bind (wpAny_seqItems hS rfl ?_);show wpAny _ A.in1 (tryCatch (pyNext (.ref I)) _ >>= _) _ _ s;refine wpAny_bind (wpAny_tryCatch (W.item j s _ _ hlt hst λ v h' tk hP hst' hk'=>?_));obtain rfl:=hv v hP;have hS':=hk' S _ hSw hS;show wpAny _ A.in1 (tryCatch (holding [v,v] (richCompare .Lt v vb >>= _)) _ >>= _) _ _ _;refine wpAny_bind (wpAny_tryCatch (wpAny_holding (wpAny_bind (hcmp h' tk _ _ hk' ?_))));refine wpAny_bind (wpAny_holding (wpAny_truthy_bool ?_));refine wpAny_bind (wpAny_letGo [35]);cases r with
 | true =>
  simp only [if_true];refine wpAny_bind ?_;refine wpAny_updateSeq hS' rfl (wpAny_bind (wpAny_letGo ?_));rw [wb3];refine wpAny_pure ⟨plainId_quiet F.plain_min_loop _,tk3 W S hSf _ v _ (hj ▸ W.frame _ _ _ hst' λ b hbf o e=>?_) (Heap.get?_update_self _ hS' rfl) λ h'' tk'' hk''=>?_⟩
  ·exact (Heap.get?_update_other _ _ (λ h:S=b=>hSf (by rw [h]; exact hbf))).trans e
  ·exact hR h'' tk'' λ b o hbw hbS e=>hk'' b o hbw hbS ((Heap.get?_update_other _ _ (Ne.symm hbS)).trans (hk' b o hbw e))
 | false =>
  simp only [Bool.false_eq_true,if_false];refine wpAny_bind (wpAny_letGo ?_);rw [wb3];refine wpAny_pure ⟨plainId_quiet F.plain_min_loop _,tk3 W S hSf _ vb c (hj ▸ hst') hS' λ h'' tk'' hk''=>?_⟩;exact hR h'' tk'' λ b o hbw hbS e=>hk'' b o hbw hbS (hk' b o hbw e)
theorem ml_two (W:Walks prog w A.in1 I fp wr 2 P St) (S:Addr) (hSf:S ∉ fp) (s:[88]) (va vb:Value) (r:Bool) (c:Nat) (hst:St 0 s.heap) (hva:∀ v,P 0 v->v=va) (hvb:∀ v,P 1 v->v=vb)
    (hcmp:∀ (h':Heap) (tk:Nat) (Q:[9]) (E:[9]),([89])->Q (.bool r) ([21])->wpAny [13] A.in1 (richCompare .Lt vb va) Q E [21])
    (hS:s.heap.get? S=some { cls:=.type "list",dict:=none,data:=.seq #[] c,slots:=#[] })
    (hR:∀ h' tk,([89])->R (.ok (.ret (if r then vb else va))) [21]) :
    codeAny [13] A (.builtin "min.loop" ⟨[.ref I,.none,.ref S],[]⟩) R s:=by
 have hSw:S ∉ wr:=λ h=>hSf (W.sub _ h);refine codeAny_builtin F.entry_min_loop ?_;rw [Around.under_plainId F.plain_min_loop _];show wpAny _ A.in1 (seqItems? (.ref S) >>= _) _ _ s;refine wpAny_bind (wpAny_seqItems hS rfl ?_);show wpAny _ A.in1 (tryCatch (pyNext (.ref I)) _ >>= _) _ _ s;refine wpAny_bind (wpAny_tryCatch (W.item 0 s _ _ [8] hst λ v h' tk hP hst' hk'=>?_));obtain rfl:=hva v hP;have hS':=hk' S _ hSw hS;show wpAny _ A.in1 (updateSeq S (λ _=>#[v,v]) >>= _) _ _ _;refine wpAny_bind ?_;refine wpAny_updateSeq hS' rfl ?_;rw [wb3];have up:∀ (f:Obj->Obj) b o,b ∉ wr->b ≠ S->s.heap.get? b=some o->Heap.get? (h'.update S f) b=some o:=λ f b o hbw hbS e=>(Heap.get?_update_other _ _ (Ne.symm hbS)).trans (hk' b o hbw e);refine wpAny_pure ⟨plainId_quiet F.plain_min_loop _,yb4 W S hSf _ v vb r _ 1 [8] rfl (W.frame _ _ _ hst' λ b hbf o e=>?_) hvb (λ h2 tk2 Q E hk2 hq=>?_) (Heap.get?_update_self _ hS' rfl) λ h'' tk'' hk''=>?_⟩
 ·exact (Heap.get?_update_other _ _ (λ h:S=b=>hSf (by rw [h]; exact hbf))).trans e
 ·exact hcmp h2 tk2 Q E (λ b o hbw hbS e=>hk2 b o hbw (up _ b o hbw hbS e)) hq
 ·exact hR h'' tk'' λ b o hbw hbS e=>hk'' b o hbw hbS (up _ b o hbw hbS e)
end
variable {Q:[9]}
section
variable {E:[9]} 
theorem va2 {va vb:Value} {r:Bool} (hh:A.handled=none)
    (hcmp:∀ (h':Heap) (tk:Nat) (Q:[9]) (E:[9]),(∀ b o,s.heap.get? b=some o->h'.get? b=some o)->Q (.bool r) ([21])->wpAny [13] A.in1 (richCompare .Lt vb va) Q E [21])
    (h:∀ h' tk,(∀ c o,s.heap.get? c=some o->h'.get? c=some o)->Q (if r then vb else va) [21]) :
    wpAny [13] A (call (.builtin "min") [va,vb]) Q E s:=by
 refine call_function_tree F.kind_min F.plain_min F.entry_min (F.args_min2 _ _) ?_;show wpAny _ A.in1 (Builtin.Builtins.bindParams "min" ["key", "default"] 0 ⟨[],[]⟩ >>= _) _ _ s;refine wpAny_bind (wpAny_of_eq (show Builtin.Builtins.bindParams "min" ["key", "default"] 0 ⟨[],[]⟩=pure [none,none] from rfl) ?_);show wpAny _ A.in1 (newTuple [va,vb] >>= _) _ _ s;refine wpAny_bind (wpAny_newObj_type ?_);have hT:(s.heap.push { cls:=.type "tuple",data:=.seq #[va,vb] }).IsTuple s.heap.objs.size #[va,vb]:=⟨_,Heap.get?_push_size _ rfl,rfl,0,rfl⟩;refine wpAny_bind (wpAny_pyIter_tuple (s:={ s with heap:=s.heap.push { cls:=.type "tuple",data:=.seq #[va,vb] } }) hT ?_);have hsz:(s.heap.push { cls:=.type "tuple",data:=.seq #[va,vb] }).objs.size=s.heap.objs.size + 1:=Heap.size_push ..;refine wpAny_bind (wpAny_newObj_type ?_);rw [wb3];have hsz2:[50].objs.size=s.heap.objs.size + 2:=by rw [Heap.size_push,hsz]
 have keep:∀ c o,s.heap.get? c=some o->Heap.get? ([50].push { cls:=.type "list",data:=.seq #[] }) c=some o:=λ c o e=>Heap.get?_push_of_some _ (Heap.get?_push_of_some _ (Heap.get?_push_of_some _ e))
 have off:∀ (c:Addr) (o:Obj),s.heap.get? c=some o->c ∉ [(s.heap.push { cls:=.type "tuple",data:=.seq #[va,vb] }).objs.size] /\ c ≠ [50].objs.size:=λ c o e=>by
  have h1:=Heap.lt_size e;rw [hsz2,hsz];refine ⟨λ hm=>?_,Nat.ne_of_lt (Nat.lt_succ_of_lt (Nat.lt_succ_of_lt h1))⟩;rw [List.mem_singleton.mp hm] at h1;exact absurd h1 (Nat.not_lt.mpr (Nat.le_succ _))
 refine wpAny_pure ⟨plainId_quiet F.plain_min_loop _,ml_two (Walks.tuple (A:=A.in1) hh _ s.heap.objs.size (by rw [hsz]; exact Nat.ne_of_lt (Nat.lt_succ_self _)) #[va,vb]) _ ?_ _ va vb r _ ?_ (λ v hP=>by simpa using hP.symm) (λ v hP=>by simpa using hP.symm) ?_ (Heap.get?_push_size _ rfl) ?_⟩
 ·rw [hsz2,hsz];simp
 ·exact ⟨⟨_,Heap.get?_push_of_some _ (Heap.get?_push_size _ rfl),rfl,rfl⟩,(hT.push _).push _⟩
 ·intro h' tk Q E hk hq;exact hcmp h' tk Q E (λ c o e=>hk c o (off c o e).1 (off c o e).2 (keep c o e)) hq
 ·intro h' tk hk;exact h h' tk λ c o e=>hk c o (off c o e).1 (off c o e).2 (keep c o e)
theorem yz2 {p q:Addr} {a b c d:Int} {t1 t2 t3 t4:Tok} (hh:A.handled=none) (hu:A.units + 64 < cLine) (hp:IsTup s.heap p #[.int a t1,.int b t2]) (hq:IsTup s.heap q #[.int c t3,.int d t4])
    (h:∀ h' tk,(∀ c o,s.heap.get? c=some o->h'.get? c=some o)->Q (if ltP c d a b then .ref q else .ref p) [21]) :
    wpAny [13] A (call (.builtin "min") [.ref p,.ref q]) Q E s:=by
 refine va2 hh (λ h' tk Q E hk hq'=>?_) h;obtain ⟨⟨cp,dp,datp,slp⟩,ep,hcp,np,hdp⟩:=hp;obtain ⟨⟨cq,dq,datq,slq⟩,eq,hcq,nq,hdq⟩:=hq;dsimp only at hcp hdp hcq hdq;subst hcp hdp hcq hdq;refine richCompare_meets_room (T := "tuple") (s:=[21]) ⟨_,hk _ _ eq,rfl⟩ ⟨_,hk _ _ ep,rfl⟩ F.slot_tuple_lt F.entry_tuple_lt (F.args_tuple_lt_2 _ _) (wb4 q p c d a b t3 t4 t1 t2 nq np dq dp slq slp) ⟨hk _ _ eq,hk _ _ ep,by simp,hq'⟩ ?_;have:A.in1.units=A.units + 1:=rfl;omega
end
section
variable {X:Cx}
theorem yq2 (hc:X.calm=true) (hu:[66]):CallR X (.builtin "min") (λ xs H Q=>∃ p q a b c d,xs=[.ref p,.ref q] /\ SqT X.K H p [.int a,.int b] /\ SqT X.K H q [.int c,.int d] /\ Q (.ref (if ltP c d a b then q else p)) H):=by
 intro pins s σ H xs us Q I r h;obtain ⟨p,q,a,b,c,d,rfl,hp,hq,k⟩:=h;obtain ⟨u,w',rfl,e1,e2⟩:=sc2 r;cases e1;cases e2;obtain ⟨its,rv,pp,hz⟩:=I.tuple hp;obtain ⟨its2,rv2,pp2,hz2⟩:=I.tuple hq;obtain ⟨v1,v2,rfl,⟨t1,rfl⟩,⟨t2,rfl⟩⟩:=sc2 rv;obtain ⟨v3,v4,rfl,⟨t3,rfl⟩,⟨t4,rfl⟩⟩:=sc2 rv2;refine yz2 (I.ok.hd hc) hu pp pp2 λ h' tk kk=>⟨_,H,I.kept kk,?_,k⟩;cases ltP c d a b
 ·exact rfl
 ·exact rfl
theorem q_min (hc:X.calm=true) (hu:[66]):RC X (.builtin "min") minR:=by
 refine ⟨_,yq2 hc hu,λ xs vs H Q μ Q3 m r h k=>?_⟩;unfold minR at h;split at h
 ·next a b c d =>
  cases r with
  | cons r1 r2 =>
   cases r2 with
   | cons r2 r3 =>
    cases r3;cases r1 with
    | tup hq rs =>
     cases r2 with
     | tup hq2 rs2 =>
      cases rs with
      | cons x1 y1 =>
       cases y1 with
       | cons x2 y2 =>
        cases y2;cases x1;cases x2;cases rs2 with
        | cons x3 y3 =>
         cases y3 with
         | cons x4 y4 =>
          cases y4;cases x3;cases x4;rename_i p q;refine ⟨p,q,a,b,c,d,rfl,(SqT.of hq),(SqT.of hq2),k _ _ _ _ h [37] ?_ m⟩;cases ltP c d a b
          ·exact .tup hq (.cons (.int _) (.cons (.int _) .nil))
          ·exact .tup hq2 (.cons (.int _) (.cons (.int _) .nil))
 ·exact h.elim
end
end Pv
namespace Ms
open PySem.W PyProof.Rows
def run (lt:Nat->Nat->Bool) {α:Type}:KasT α->α
 | .ret a=>a
 | .ask i j k=>run lt (k (lt i j))
def Up (_:Nat->Nat->Bool) (_:Array Nat) (_:Nat):Prop:=True
abbrev at' (p:Array Nat) (i:Nat):Nat:=p.getD i 0
def Bd (N:Nat) {α:Type} (P:α->Prop):KasT α->Prop
 | .ret a=>P a
 | .ask i j k=>i < N /\ j < N /\ ∀ b,Bd N P (k b)
theorem Bd.bind {N:Nat} {α β:Type} {P:α->Prop} {R:β->Prop} {f:α->KasT β} (hf:∀ a,P a->Bd N R (f a)):∀ t:KasT α,Bd N P t->Bd N R (t.bind f)
 | .ret a,h=>hf a h
 | .ask i j k,h=>⟨h.1,h.2.1,λ b=>Bd.bind hf (k b) (h.2.2 b)⟩
theorem Bd.wp {N:Nat} {lt:Nat->Nat->Bool} {cmp:Nat->Nat->(Bool->PySem.Shared->Prop)->PySem.Shared->Prop} {s:PySem.Shared} (hc:∀ i j C,i < N->j < N->C (lt i j) s->cmp i j C s) {α:Type} {P:α->Prop} {Q:α->PySem.Shared->Prop} :
    ∀ t:KasT α,Bd N P t->Q (run lt t) s->t.kasWp cmp Q s
 | .ret _,_,q=>q
 | .ask i j k,h,q=>hc i j _ h.1 h.2.1 (Bd.wp hc (k (lt i j)) (h.2.2 _) q)
variable {p:Array Nat} {n m:Nat}
section
variable {N:Nat}
theorem uj0 (hN:1<=N) (hp:p.Perm [34]) (k:Nat):at' p k < N:=by
 show p.getD k 0 < N;rw [Array.getD_eq_getD_getElem?];cases e:p[k]? with
 | none=>exact hN
 | some x =>
  have h1:x ∈ p:=Array.mem_of_getElem? e;have h2:x ∈ List.toArray (List.range N):=hp.mem_iff.mp h1;simpa using h2
theorem zr2 (hN:1<=N) {p:Array Nat} (hp:p.Perm [34]):∀ f n,Bd N (λ _=>True) (kas_asc p f n)
 | 0,_=>trivial
 | f + 1,n=>⟨uj0 hN hp _,uj0 hN hp _,λ b=>by
  show Bd N _ (if b=true then .ret n else kas_asc p f (n + 1));split
  ·trivial
  ·exact zr2 hN hp f (n + 1)⟩
theorem vd1 (hN:1<=N):∀ f (p:Array Nat) n q,p.Perm ([34])->Bd N (λ r=>r.1.Perm [34]) (kas_desc f p n q)
 | 0,_,_,_,hp=>hp
 | f + 1,p,n,q,hp=>⟨uj0 hN hp _,uj0 hN hp _,λ b=>by
  show Bd N _ (if b=true then (if q > 0 then kas_desc f (kas_rev p (n - (q + 1)) n) (n + 1) 0 else kas_desc f p (n + 1) 0) else _);split
  ·split
   ·exact vd1 hN f _ _ _ ((mirror_perm _ _ _ _).trans hp)
   ·exact vd1 hN f _ _ _ hp
  ·refine ⟨uj0 hN hp _,uj0 hN hp _,λ d=>?_⟩;show Bd N _ (if d=true then .ret (p,n,q) else kas_desc f p (n + 1) (q + 1));split
   ·exact hp
   ·exact vd1 hN f _ _ _ hp⟩
theorem yt1 (hN:1<=N) (hp:p.Perm [34]):Bd N (λ r=>r.2.Perm [34]) (kas_tail3 n m p):=by
 have hr:(kas_rev p 0 n).Perm [34]:=(mirror_perm _ _ _ _).trans hp;unfold kas_tail3;refine Bd.bind (P:=λ _=>True) (f:=λ m=>.ret (m,kas_rev p 0 n)) (λ a _=>?_) _ (zr2 hN hr _ _);exact hr
theorem yv0 (hN:1<=N) (hp:p.Perm [34]):Bd N (λ r=>r.2.Perm [34]) (kas_descPart n m p):=by
 refine Bd.bind (λ r hr=>?_) _ (vd1 hN _ _ _ _ hp);show Bd N _ (if r.2.2 > 0 then kas_tail3 r.2.1 m (kas_rev r.1 (r.2.1 - (r.2.2 + 1)) r.2.1) else kas_tail3 r.2.1 m r.1);split
 ·exact yt1 hN ((mirror_perm _ _ _ _).trans hr)
 ·exact yt1 hN hr
theorem zf3 (hN:1<=N) (hp:p.Perm [34]):Bd N (λ r=>r.2.Perm [34]) (kas_count m p):=by
 refine Bd.bind (λ n _=>?_) _ (zr2 hN hp _ _);split
 ·exact hp
 ·split
  ·refine ⟨uj0 hN hp _,uj0 hN hp _,λ b=>?_⟩;show Bd N _ (if b=true then .ret (n,p) else kas_descPart n m (kas_rev p 0 n));split
   ·exact hp
   ·exact yv0 hN ((mirror_perm _ _ _ _).trans hp)
  ·exact yv0 hN hp
theorem wd1 (hN:1<=N) {p:Array Nat} {k:Nat} (hp:p.Perm [34]):∀ f l r,Bd N (λ _=>True) (kas_place p k f l r)
 | 0,_,_=>trivial
 | f + 1,l,r=>by
  show Bd N _ (if l ≥ r then .ret l else .ask (at' p k) (at' p ((l + r) / 2)) λ c=>if c=true then kas_place p k f l ((l + r) / 2) else kas_place p k f ((l + r) / 2 + 1) r);split
  ·trivial
  ·refine ⟨uj0 hN hp _,uj0 hN hp _,λ b=>?_⟩;show Bd N _ (if b=true then kas_place p k f l ((l + r) / 2) else kas_place p k f ((l + r) / 2 + 1) r);split
   ·exact wd1 hN hp f _ _
   ·exact wd1 hN hp f _ _
theorem zn3 (hN:1<=N):∀ f (p:Array Nat) k,p.Perm ([34])->Bd N (λ r=>r.Perm [34]) (kas_bin f p k)
 | 0,_,_,hp=>hp
 | f + 1,p,k,hp=>Bd.bind (λ l _=>zn3 hN f _ _ ((bubble_perm _ _ _).trans hp)) _ (wd1 hN hp _ _ _)
theorem bd_sort (hN:1<=N):Bd N (λ r=>r.Perm [34]) (kas_sort N):=by
 refine Bd.bind (λ r hr=>?_) _ (zf3 hN (Array.Perm.refl _));split
 ·exact zn3 hN _ _ _ hr
 ·exact hr
theorem Bd.run {lt:Nat->Nat->Bool} {α:Type} {P:α->Prop}:∀ t:KasT α,Bd N P t->P (run lt t)
 | .ret _,h=>h
 | .ask i j k,h=>Bd.run (k (lt i j)) (h.2.2 _)
theorem sort_ok {lt:Nat->Nat->Bool} (hn:1<=n):(run lt (kas_sort n)).Perm (List.toArray (List.range n)) /\ Up lt (run lt (kas_sort n)) n:=⟨(Bd.run _ (bd_sort hn) :),trivial⟩
end
end Ms
namespace Pv
open PySem PySem.Spec PySem.W PyProof.Rows L2
abbrev T3:=Int × Int × Int
def lt3 (a b:T3):Bool:=decide (a.1 < b.1) || (a.1 == b.1 && (decide (a.2.1 < b.2.1) || (a.2.1 == b.2.1 && decide (a.2.2 < b.2.2))))
def IsT3 (h:Heap) (v:Value) (t:T3):Prop:=∃ a o t1 t2 t3 n,v=.ref a /\ h.get? a=some o /\ o.cls=.type "tuple" /\ o.data=.seq #[.int t.1 t1,.int t.2.1 t2,.int t.2.2 t3] n
variable {h:Heap}
theorem IsT3.one {v:Value} {t u:T3} (i:IsT3 h v t) (k:IsT3 h v u):t=u:=by
 obtain ⟨a,o,t1,t2,t3,n,rfl,e2,_,e4⟩:=i;obtain ⟨b,q,u1,u2,u3,m,f1,f2,_,f4⟩:=k;cases f1;rw [e2] at f2;cases f2;rw [e4] at f4;obtain ⟨x,y,z⟩:=t;obtain ⟨x',y',z'⟩:=u;simp only [Data.seq.injEq,Array.mk.injEq,List.cons.injEq,Value.int.injEq] at f4;obtain ⟨⟨⟨h1,_⟩,⟨h2,_⟩,⟨h3,_⟩,_⟩,_⟩:=f4;rw [h1,h2,h3]
variable {prog:[83]} {w:World} {A:Around} {E:[9]} {s:[88]}
section
theorem t3_lt {x y:Value} {a b:T3} {Q:Bool->Shared->Prop} (hx:IsT3 s.heap x a) (hy:IsT3 s.heap y b) (h:Q (lt3 a b) s):wpAny [13] A (keyLt' (tuples' true) x y) Q E s:=by
 obtain ⟨x,ox,t1,t2,t3,n,rfl,ex,_,dx⟩:=hx;obtain ⟨y,oy,u1,u2,u3,m,rfl,ey,_,dy⟩:=hy;obtain ⟨a1,a2,a3⟩:=a;obtain ⟨b1,b2,b3⟩:=b;refine kat_lt ex dx ey dy ?_;refine kat_cons (wpAny_eqBool_int ?_);by_cases c1:a1=b1
 ·rw [show (a1 == b1)=true from beq_iff_eq.mpr c1];refine kat_yes (kat_cons (wpAny_eqBool_int ?_));by_cases c2:a2=b2
  ·rw [show (a2 == b2)=true from beq_iff_eq.mpr c2];refine kat_yes (kat_cons (wpAny_eqBool_int ?_));by_cases c3:a3=b3
   ·rw [show (a3 == b3)=true from beq_iff_eq.mpr c3];refine kat_yes (kat_nil ?_);have e:lt3 (a1,a2,a3) (b1,b2,b3)=false:=by subst c1 c2 c3; simp [lt3]
    rw [e] at h;exact h
   ·rw [show (a3 == b3)=false from by simpa using c3];have e:lt3 (a1,a2,a3) (b1,b2,b3)=decide (a3 < b3):=by subst c1 c2; simp [lt3]
    rw [e] at h;exact kat_no (kat_one _ _ (lt_int h))
  ·rw [show (a2 == b2)=false from by simpa using c2];have e:lt3 (a1,a2,a3) (b1,b2,b3)=decide (a2 < b2):=by subst c1; simp [lt3,c2]
   rw [e] at h;exact kat_no (kat_one _ _ (lt_int h))
 ·rw [show (a1 == b1)=false from by simpa using c1];have e:lt3 (a1,a2,a3) (b1,b2,b3)=decide (a1 < b1):=by simp [lt3,c1]
  rw [e] at h;exact kat_no (oneLt_int h)
end
abbrev ltI (ts:List T3):Nat->Nat->Bool:=λ i j=>lt3 (ts.getD i (0,0,0)) (ts.getD j (0,0,0))
abbrev outV (vs:[27]) (p:Array Nat):List Value:=p.toList.map λ i=>vs.getD i Value.none
theorem ya2 (vs:[27]):outV vs [105]=vs:=by
 apply List.ext_getElem
 ·simp
 ·intro i h1 h2;simp [getD_eq_getElem?_getD,getElem?_eq_getElem h2]
variable {n:Nat}
theorem no_lt {vs:Array Value} {C:Prop} (h:(seqObj "list" vs n).cls=Value.type "tuple"):C:=by
 have h':Value.type "list" = Value.type "tuple" := h;injection h' with e
 exact absurd e [8]
structure SK (prog:Program) (w:World) (vs:List Value) (lt:Nat->Nat->Bool) (κ:SortKind) (J:Heap->Prop) (U:Nat):Prop where
 kd:2<=vs.length->∀ {A:Around} {E:Value->Shared->Prop} (s:Shared) {Q:SortKind->Shared->Prop},J s.heap->Q κ s->wpAny (model prog w) A (keyKind' vs.toArray) Q E s
 sm:∀ (i j:Nat) v,vs[i]?=some v->vs[j]?=some v->∀ k,lt i k=lt j k /\ lt k i=lt k j
 cm:∀ {A:Around} (s:Shared) (i j:Nat) x y,A.units<=U->J s.heap->vs[i]?=some x->vs[j]?=some y->∀ C:Bool->Shared->Prop,C (lt i j) s->wpAny (model prog w) A (keyLt' κ x y) C (λ _ _=>False) s
variable {a:Addr} {vs:[27]} {U:Nat}
section
variable {lt:Nat->Nat->Bool} {κ:SortKind} {J:Heap->Prop} 
theorem vb4 {P:PySem.Fin->Shared->Prop} (K:SK prog w vs lt κ J U) (hU:A.units<=U) (ho:s.heap.get? a=some (seqObj "list" vs.toArray n)) (hJ:∀ h':Heap,(∀ b o,b ≠ a->s.heap.get? b=some o->h'.get? b=some o)->J h') (h64:vs.length < 64)
    (h:∀ (p:Array Nat) (h':Heap) (c:Nat),p.Perm ([105])->Ms.Up lt p vs.length->(∀ b o,b ≠ a->s.heap.get? b=some o->h'.get? b=some o) ->
     h'.get? a=some (seqObj "list" (outV vs p).toArray c)->P (.done (.ret .none)) [96]) :
    wpAny [13] A (Builtin.«list.sort» ⟨[.ref a],[]⟩) P E s:=by
 have hz:vs.length<=sizeLine:=Nat.le_of_lt (Nat.lt_trans h64 [8]);have ha:a < s.heap.objs.size:=Heap.lt_size ho;obtain ⟨e1,ho1⟩:∃ e1,(s.heap.update a (Obj.mapSeq λ _=>(#[]:Array Value))).get? a=some (seqObj "list" #[] e1):=⟨_,get?_update_seq ho λ _=>#[]⟩
 have kp:∀ b o,b ≠ a->s.heap.get? b=some o->([99].push (seqObj "list" #[] 0)).get? b=some o:=λ b o hb e =>
  Heap.get?_push_of_some _ (Heap.get?_push_of_some _ (by rw [Heap.get?_update_ne _ _ _ _ hb]; exact e))
 have ht3:=hJ _ kp;have hoN:=Heap.get?_push_of_some (seqObj "list" #[] 0) (Heap.get?_push_of_some (seqObj "tuple" vs.toArray 0) ho1);generalize hN:[99].push (seqObj "list" #[] 0)=hp3 at kp ht3 hoN
 have fin:∀ (p:Array Nat),p.Perm ([105])->Ms.Up lt p vs.length->P (.done (.ret .none)) { s with heap:=hp3.update a (Obj.mapSeq λ _=>(outV vs p).toArray) }:=λ p hp hu=>by
  refine h p _ _ hp hu (λ b o hb e=>by rw [Heap.get?_update_ne _ _ _ _ hb]; exact kp b o hb e) (get?_update_seq hoN λ _=>(outV vs p).toArray)
 have szO:∀ p:Array Nat,p.Perm ([105])->(outV vs p).toArray.size<=sizeLine + 1:=λ p hp=>by
  have:=hp.size_eq;simp at this;simp;omega
 rw [list_sort_plain];refine wpAny_bind (listItems_at ho rfl (wpAny_bind (listUpdate_at ho rfl ?_ (by simpa using hz) (Nat.zero_le _))));refine wpAny_bind (seqEpoch_at ho1 rfl (wpAny_bind (wpAny_newTuple ?_ (by simpa using hz))));refine wpAny_bind (wpAny_newList (wpAny_holding ?_) (Nat.zero_le _));show wpAny [13] A _ P E { s with heap:=[99].push (seqObj "list" #[] 0) };rw [hN];dsimp only;by_cases c:vs.toArray.size < 2
 ·rw [if_pos c,if_pos c];refine wpAny_bind [35];rw [StateT.run_pure];refine wpAny_bind [35]
  have id1:(arrOf (SortSt.mk' general' (vs.toArray.zip vs.toArray) #[] 7 none)).map (·.2)=(outV vs [105]).toArray:=by
   rw [ya2];show (vs.toArray.zip vs.toArray).map (·.2)=vs.toArray;apply Array.toList_inj.mp;simp [List.map_snd_zip]
  dsimp only;rw [id1];have pr:=Array.Perm.refl [105];refine wpAny_bind (seqEpoch_at hoN rfl (wpAny_bind (listUpdate_at hoN rfl ?_ (Nat.zero_le _) (szO _ pr))));simp only [bne_self_eq_false,Bool.false_eq_true,if_false];refine wpAny_pure (fin _ pr ?_);trivial
 ·rw [if_neg c,if_neg c];have c2:2<=vs.length:=by simp at c; omega
  refine wpAny_bind (K.kd c2 { s with heap:=hp3 } ht3 ?_);have srt:=Ms.sort_ok (lt:=lt) (n:=vs.length) [7];have vg:∀ i,i < vs.length->vs[i]?=some (vs.getD i .none):=λ i hi=>by rw [getD_eq_getElem?_getD,getElem?_eq_getElem hi]; rfl
  refine wpAny_bind (wpAny_mono (kat_run (ks:=vs) (Q:=λ st' s'=>s'={ s with heap:=hp3 } /\ ∃ p:Array Nat,arrOf st'=p.map (kas_item (vs.toArray.zip vs.toArray)) /\ failedOf st'=none /\ p=Ms.run lt (kas_sort vs.length)) (G:=λ p s'=>s'={ s with heap:=hp3 } /\ p=Ms.run lt (kas_sort vs.length)) rfl c2 h64
   (λ p st' s' _ b2 b3 b4=>⟨b4.1,p,b2,b3,b4.2⟩) ?_) ?_ λ _ _ z=>z)
  ·refine Ms.Bd.wp (N:=vs.length) (lt:=lt) (λ i j C hi hj hc=>?_) _ (Ms.bd_sort [7]) ⟨rfl,rfl⟩;exact K.cm { s with heap:=hp3 } i j _ _ hU ht3 (vg i hi) (vg j hj) C hc
  ·rintro ⟨⟨⟩,st'⟩ s' ⟨rfl,p,hp1,hp2,rfl⟩;obtain ⟨pp,pu⟩:=srt;dsimp only;rw [kat_snds rfl hp1];refine wpAny_bind (seqEpoch_at hoN rfl (wpAny_bind (listUpdate_at hoN rfl ?_ (Nat.zero_le _) (szO _ pp))));rw [hp2];simp only [bne_self_eq_false,Bool.false_eq_true,if_false];exact wpAny_pure (fin _ pp pu)
end
def Lw {α β:Type} (R:β->α->Prop):List β->List α->Prop
 | [],[]=>True
 | v :: vs,t :: ts=>R v t /\ Lw R vs ts
 | _,_=>False
theorem Lw.mono {α β:Type} {R S:β->α->Prop} (k:∀ v t,R v t->S v t):∀ {vs:List β} {ts:List α},Lw R vs ts->Lw S vs ts
 | [],[],_=>trivial
 | [],_ :: _,i=>i.elim
 | _ :: _,[],i=>i.elim
 | _ :: _,_ :: _,i=>⟨k _ _ i.1,i.2.mono k⟩
theorem Lw.len {α β:Type} {R:β->α->Prop}:∀ {vs:List β} {ts:List α},Lw R vs ts->vs.length=ts.length
 | [],[],_=>rfl
 | [],_ :: _,i=>i.elim
 | _ :: _,[],i=>i.elim
 | _ :: _,_ :: _,i=>congrArg (· + 1) i.2.len
theorem Lw.get {α:Type} {R:Value->α->Prop} {d:α}:∀ {vs:[27]} {ts:List α},Lw R vs ts->∀ i,i < vs.length->R (vs.getD i .none) (ts.getD i d)
 | [],[],_,i,hi=>absurd hi (Nat.not_lt_zero _)
 | [],_ :: _,z,_,_=>z.elim
 | _ :: _,[],z,_,_=>z.elim
 | _ :: _,_ :: _,z,0,_=>z.1
 | _ :: _,_ :: _,z,i + 1,hi=>z.2.get i (Nat.lt_of_succ_lt_succ hi)
structure TupI {α:Type} (Is:Heap->Value->α->Prop) (lt:α->α->Bool) (d:α):Prop where
 kept:∀ {h h':Heap} {v t},(∀ b o,h.get? b=some o->o.cls=.type "tuple" -> h'.get? b=some o)->Is h v t->Is h' v t
 one:∀ {h v t u},Is h v t->Is h v u->t=u
 fst:∀ {h v t},Is h v t->∃ a o i t1 r n,v=.ref a /\ h.get? a=some o /\ o.cls=.type "tuple" /\ o.data=.seq (.int i t1 :: r).toArray n
 lt':∀ {prog w A} {E:Value->Shared->Prop} {s x y a b} {Q:Bool->Shared->Prop},Is s.heap x a->Is s.heap y b->Q (lt a b) s->wpAny (model prog w) A (keyLt' (tuples' true) x y) Q E s
section
variable {α:Type} {Is:Heap->Value->α->Prop} {lt:α->α->Bool} {d:α} {ts:List α}
theorem TupI.firsts (T:TupI Is lt d) {h:Heap}:∀ {vs:[27]} {ts:List α},Lw (Is h) vs ts->∃ fs,KatTups h vs fs /\ fs.length=vs.length /\ ∀ v ∈ fs,∃ i t,v=Value.int i t
 | [],[],_=>⟨[],trivial,rfl,λ _ hv=>nomatch hv⟩
 | [],_ :: _,z=>z.elim
 | _ :: _,[],z=>z.elim
 | v :: vs,t :: ts,z=>by
  obtain ⟨fs,f1,f2,f3⟩:=T.firsts z.2;obtain ⟨a,o,i,t1,r,n,rfl,e2,e3,e4⟩:=T.fst z.1;refine ⟨.int i t1 :: fs,KatTups.cons e2 e3 e4 rfl f1,by rw [length_cons,length_cons,f2],λ x hx=>?_⟩;rcases List.mem_cons.mp hx with rfl | hx
  ·exact ⟨_,_,rfl⟩
  ·exact f3 x hx
theorem TupI.at (T:TupI Is lt d) {h:Heap} (z:Lw (Is h) vs ts) {i:Nat} {v:Value} (e:vs[i]?=some v):Is h v (ts.getD i d):=by
 have g:=z.get (d:=d) i (List.getElem?_eq_some_iff.mp e).1
 rwa [getD_eq_getElem?_getD,e] at g
theorem TupI.sk (T:TupI Is lt d) (z:Lw (Is h) vs ts):SK prog w vs (λ i j=>lt (ts.getD i d) (ts.getD j d)) (tuples' true) (λ h=>Lw (Is h) vs ts) U where
 kd:=λ h2 {A E} s {Q} z q=>by
  obtain ⟨fs,f1,f2,f3⟩:=T.firsts z;refine kat_kind f1 [7] (T:=.type "int") (λ v hv=>?_) [8] ?_
  ·obtain ⟨i,t,rfl⟩:=f3 v hv;exact Looks.of_pure rfl
  show Q _ s;rw [show (Value.type "int" != Value.type "tuple")=true by decide];exact q
 sm:=λ i j v e1 e2 k=>by
  rw [T.one (T.at z e1) (T.at z e2)];exact ⟨rfl,rfl⟩
 cm:=λ {A} s i j x y _ z e1 e2 C hc=>T.lt' (T.at z e1) (T.at z e2) hc
theorem TupI.keep (T:TupI Is lt d) {h':Heap} {us:Array Value} (ho:h.get? a=some (seqObj "list" us n)) (k:∀ b o,b ≠ a->h.get? b=some o->h'.get? b=some o) (z:Lw (Is h) vs ts):Lw (Is h') vs ts :=
 z.mono λ _ _=>T.kept λ b o e ec=>k b o (λ z=>by subst z; rw [ho] at e; cases e; exact no_lt ec) e
end
abbrev T3s (h:Heap):List Value->List T3->Prop:=Lw (IsT3 h)
theorem ti3:TupI IsT3 lt3 (0,0,0) where
 kept:=λ k ⟨a,o,t1,t2,t3,n,e1,e2,e3,e4⟩=>⟨a,o,t1,t2,t3,n,e1,k _ _ e2 e3,e3,e4⟩
 one:=IsT3.one
 fst:=λ ⟨a,o,t1,t2,t3,n,e1,e2,e3,e4⟩=>⟨a,o,_,t1,_,n,e1,e2,e3,e4⟩
 lt':=t3_lt
abbrev V3s (K:Fg) (H:Hp):List V->List T3->Prop:=Lw λ v t=>∃ a,v=.ref a /\ H a=some (.tup [.int t.1,.int t.2.1,.int t.2.2])
section
variable {X:Cx}
theorem sn1 {pins:[20]} {σ:L2.St} {H:Hp} {s:[88]} (I:[10]):∀ {vs:List V} {ts:List T3} {us:[27]},V3s X.K H vs ts->Vals vs us->T3s s.heap us ts
 | [],[],_,_,.nil=>trivial
 | [],_ :: _,_,z,_=>z.elim
 | _ :: _,[],_,z,_=>z.elim
 | v :: vs,t :: ts,_,z,.cons r rs=>by
  obtain ⟨⟨a,rfl,hq⟩,z⟩:=z;refine ⟨?_,sn1 I z rs⟩;cases r;obtain ⟨its,rv,⟨o,p1,p2,n,p3⟩,_⟩:=I.tuple (SqT.of hq);cases rv with
  | cons r1 rv =>
   cases rv with
   | cons r2 rv =>
    cases rv with
    | cons r3 rv =>
     cases rv;obtain ⟨t1,rfl⟩:=r1;obtain ⟨t2,rfl⟩:=r2;obtain ⟨t3,rfl⟩:=r3;exact ⟨a,o,t1,t2,t3,n,rfl,p1,p2,p3⟩
theorem xe1 {vs:List V} {us:[27]} (r:Vals vs us):∀ (l:List Nat),(∀ i ∈ l,i < vs.length)->Vals (l.map λ i=>vs.getD i .non) (l.map λ i=>us.getD i Value.none)
 | [],_=>.nil
 | i :: l,h=>by
  refine .cons ?_ (xe1 r l λ j hj=>h j (mem_cons_of_mem _ hj));have hi:=h i (mem_cons_self ..);obtain ⟨u,e,z⟩:=Vals.get r (i:=i) (x:=vs.getD i .non) (by rw [getD_eq_getElem?_getD,getElem?_eq_getElem hi]; rfl);dsimp only;rw [show us.getD i Value.none=u by rw [getD_eq_getElem?_getD,e]; rfl];exact z
end
def encT (t:T3):D:=.tup [.int t.1,.int t.2.1,.int t.2.2]
theorem yi3 {K:Fg} {H:Hp}:∀ {ts:List T3} {vs:List V},RelDs K H (ts.map encT) vs->V3s K H vs ts
 | [],_,.nil=>trivial
 | t :: ts,_,.cons r rs=>by
  refine ⟨?_,yi3 rs⟩;cases r with
  | tup hq r2 =>
   cases r2 with
   | cons x r2 =>
    cases r2 with
    | cons y r2 =>
     cases r2 with
     | cons z r2 =>
      cases r2;cases x;cases y;cases z;exact ⟨_,rfl,hq⟩
section
variable {α:Type} {d0:α} {enc:α->D} {lt:α->α->Bool}
theorem sw0 {K:Fg} {H:Hp} {ts:List α} {vs:List V} (r:RelDs K H (ts.map enc) vs):∀ (l:List Nat),(∀ i ∈ l,i < vs.length)->RelDs K H ((l.map λ i=>ts.getD i d0).map enc) (l.map λ i=>vs.getD i .non)
 | [],_=>.nil
 | i :: l,h=>by
  refine .cons ?_ (sw0 r l λ j hj=>h j (mem_cons_of_mem _ hj));have hi:=h i (mem_cons_self ..);have hl:=r.length;rw [length_map] at hl;obtain ⟨v,e,z⟩:=r.get (i:=i) (d:=enc (ts.getD i d0)) (by rw [getElem?_map,getD_eq_getElem?_getD,getElem?_eq_getElem [7]]; rfl);dsimp only;rw [show vs.getD i .non=v by rw [getD_eq_getElem?_getD,e]; rfl];exact z
theorem se2 {ts:List α} {q:Array Nat} (h:q.Perm (List.toArray (List.range ts.length))):(q.toList.map λ i=>ts.getD i d0).Perm ts:=by
 have h1:q.toList.Perm (List.range ts.length):=h.toList;refine (h1.map _).trans (List.Perm.of_eq ?_);apply List.ext_getElem
 ·simp
 ·intro i h1 h2;simp [getD_eq_getElem?_getD,getElem?_eq_getElem h2]
end
theorem tp1 {K:Fg} {H:Hp}:∀ {ts:List T3} {vs:List V},V3s K H vs ts->RelDs K H (ts.map encT) vs
 | [],[],_=>.nil
 | [],_ :: _,z=>z.elim
 | _ :: _,[],z=>z.elim
 | t :: ts,v :: vs,z=>by
  obtain ⟨⟨a,rfl,hq⟩,z⟩:=z;exact .cons (.tup hq (.cons (.int _) (.cons (.int _) (.cons (.int _) .nil)))) (tp1 z)
end Pv
namespace Pv
open PySem PySem.Spec PyProof.Rows L2
open PySem.AutoSeq1 (wpAny_loadPart')
variable {X:Cx} {NN:[29]} {scope:Scope} {cl:List (Str × Addr)} {js:List (Option Nat)} {elt target iter:Expr} {ifs:List Expr} {pos:Pos} {wi:TI} {i:Nat} {x:Str}
section
theorem zf4 {g:TG} {tc:TT} {te:TE} (hc:X.calm=true) (S:CompSc X NN scope cl js) (hi:PI X target iter wi)
    (hg:∀ C fp s₀ H₀ pn,PG [14] target g) (ht:∀ C fp s₀ H₀ pn,PTs [14] ifs tc) (he:∀ C fp s₀ H₀ pn,PE [14] elt te)
    (hs:∀ x,foldedSetIterable iter X.env x=pure x) {use:Option (Value->Sem Unit)} {Q':[9]} {pins:[20]} {s:[88]} {σ:L2.St} {H:Hp} {Q:VK} (I:[10]) (h:xe2 js wi g tc te σ H Q)
    (hu:∀ (p0 C:Addr) (H':Hp) (s':[88]) (m':[25]),Inv X pins σ H' s'->s'.heap.Ns C m'->H' C=none->C ≠ X.env.locals->X.s₀.heap.objs.size<=C->(∀ x c,X.env.cells.lookup x=some c->c ≠ C)->(∀ p ∈ X.pn ++ pins,p.1 ≠ C)->Q (.ref p0) H' ->
     compPost [11] X.A X.xe use Q' (.ref p0) C (.ok .next) s') :
    wpAny [11] X.A (comprehension [23] scope X.env (firstIterPos [⟨target,iter,ifs,0⟩] pos) (newList []) (firstAsync [⟨target,iter,ifs,0⟩]) (firstIter [⟨target,iter,ifs,0⟩] X.env) use) Q' X.xe s:=by
 refine wpAny_comprehension_free (use:=use) rfl hs S.clos S.kind S.names (thn (hi pins s σ H _ I h) λ xv s1 h1=>thn h1 λ itv s2 h2=>?_);obtain ⟨it,fp,tn,J,H2,rfl,I2,T,st2,f2,hW⟩:=h2;refine wpAny_newObj_type (wpAny_newFunctionEnv S.cell (by intro y hy; simp at hy) (λ h₁ hns₁ hsb₁=>?_) S.kind);dsimp only at hns₁ hsb₁ ⊢;have hD:H2 s2.heap.objs.size=none:=I2.hok.fresh [19]
 have I3:Inv X pins σ (upd H2 s2.heap.objs.size (.lst [])) { s2 with heap:=s2.heap.push [39] } :=
  I2.lnew (t':=s2.toks) (its:=[]) .nil (by rw [sizeLine_eq]; decide)
 generalize hsD:({ s2 with heap:=s2.heap.push [39] }:Shared)=sD at I3;have eh:sD.heap=s2.heap.push [39]:=by rw [<- hsD]
 have es:∀ (h:Heap) (tk:Nat),({ s2 with heap:=h,toks:=tk }:Shared)={ sD with heap:=h,toks:=tk }:=λ h tk=>by rw [<- hsD]
 have hsz:s2.heap.objs.size < sD.heap.objs.size:=by rw [eh,Heap.size_push]; exact Nat.lt_succ_self _
 rw [<- eh] at hns₁ hsb₁ ⊢;generalize hp0:s2.heap.objs.size=p0 at *;have up:∀ b u,s2.heap.get? b=some u->sD.heap.get? b=some u:=λ b u e=>by rw [eh]; exact Heap.get?_push_of_some _ e
 have k:∀ b u,sD.heap.get? b=some u->h₁.get? b=some u:=λ b u e=>hsb₁.extBut b u (Nat.ne_of_lt [102]) (Heap.get?_push_of_some _ e)
 have f3:∀ b ∈ fp,FpOk X pins (upd H2 p0 (.lst [])) b /\ b < sD.heap.objs.size:=λ b hb=>by
  obtain ⟨o,ho,_⟩:=T.obj 0 _ st2 b hb;have hlt:b < p0:=by rw [<- hp0]; exact Heap.lt_size ho
  refine ⟨⟨?_,(f2 b hb).2⟩,Nat.lt_trans hlt hsz⟩;rw [va0 (Nat.ne_of_lt hlt)]; exact (f2 b hb).1
 obtain ⟨W,⟨m0,w0⟩,turn⟩:=hW p0 hD;have I4:=zi1 (tk:=s2.toks + ([]:List (Str × Value)).length) hc S I3 f3 hns₁ k;have st4:tn 0 h₁:=T.keep 0 _ _ st2 λ b _ o e=>k b o (up b o e);rw [es];generalize hX':xc0 X NN scope cl sD.heap.objs.size fp sD (upd H2 p0 (.lst [])) (X.pn ++ pins)=X' at I4;have a1:X'.env=compEnvC scope cl sD.heap.objs.size X.env:=by rw [<- hX']
 have a2:X'.prog=X.prog:=by rw [<- hX']
 have a3:X'.w=X.w:=by rw [<- hX']
 have a4:X'.A=X.A:=by rw [<- hX']
 have a5:X'.K=X.K:=by rw [<- hX']
 have a6:X'.calm=true:=by rw [<- hX']; exact hc
 have a7:X'.xe=λ _ _=>False:=by rw [<- hX']
 have a8:X'.ex=fp:=by rw [<- hX']
 have T':Turn X'.prog X'.w X'.K target J fp it tn:=by rw [a2,a3,a5]; exact T
 have hg':PG X' target g:=by rw [<- hX']; exact hg _ _ _ _ _
 have ht':PTs X' ifs tc:=by rw [<- hX']; exact ht _ _ _ _ _
 have he':PE X' elt te:=by rw [<- hX']; exact he _ _ _ _ _
 have fin:∀ {σ':L2.St} {H':Hp} {s':[88]},Inv X' [] σ' H' s'->Q (.ref p0) H'->compPost [11] X.A X.xe use Q' (.ref p0) sD.heap.objs.size (.ok .next) s':=λ {σ' H' s'} I' q=>by
  obtain ⟨m',hn',_⟩:=I'.loc;rw [a1] at hn'
  have u:Un (frs X.stack) fp (upd H2 p0 (.lst [])) H' sD.heap s'.heap:=by
   have:=I'.base;rw [<- hX'] at this;exact this
  have hch:∀ b ∈ fp,(b ∈ X.ex \/ X.s₀.heap.objs.size<=b) /\ b ≠ X.env.locals /\ (∀ x c,X.env.cells.lookup x=some c->c ≠ b) /\ ∀ p ∈ X.pn ++ pins,p.1 ≠ b:=λ b hb=>by
   obtain ⟨_,z1,_,z3,z4,z5⟩:=(f3 b hb).1;exact ⟨z3,z1,z4,z5⟩
  have os':s'.os=sD.os:=by
   have:=I'.os;rw [<- hX'] at this;exact this
  have hok':HOk X.prog X.w H' s'.heap:=by
   have:=I'.hok;rw [<- hX'] at this;exact this
  have I5:Inv X pins σ H' s':=I3.call' os' u hok' I'.bare hch
  have hC:H' sD.heap.objs.size=none:=by
   have:=I'.free;rw [a1] at this;exact this
  refine hu p0 _ H' s' m' I5 hn' hC (Nat.ne_of_gt I3.lt) I3.sz (λ x c e=>?_) (λ p hp=>?_) q
  ·obtain ⟨v,o,ho,_⟩:=I3.cell x c e;exact Nat.ne_of_lt (Heap.lt_size ho)
  ·exact Nat.ne_of_lt (Heap.lt_size (I3.pin p hp).1)
 have fp4:∀ {H':Hp},(∀ b ∈ fp,H' b=none)->∀ b ∈ fp,FpOk X' [] H' b:=λ hn b hb=>by
  obtain ⟨_,z1,z2,z3,z4,z5⟩:=(f3 b hb).1;rw [<- hX'];refine ⟨hn b hb,Nat.ne_of_lt (f3 b hb).2,λ z=>?_,.inl hb,λ x c e=>z4 x c (S.sub x c e),λ p hp=>z5 p (by simpa using hp)⟩;rcases List.mem_cons.mp (I3.stkSub _ z) with z | z
  ·exact z1 z
  ·exact z2 z
 have loop:∀ s₃:Shared,Inv X' [] (zo0 js σ) (upd H2 p0 (.lst [])) s₃->tn 0 s₃.heap ->
     codeAny [11] X.A (.compLoop [23] 0 (.ref it) (.ref p0) [84]) (compPost [11] X.A X.xe use Q' (.ref p0) sD.heap.objs.size) s₃:=by
  intro s₃ I₃ st₃;refine codeAny_loop rfl (λ n s'=>∃ i σ' H',Inv X' [] σ' H' s' /\ tn i s'.heap /\ (∀ b ∈ fp,H' b=none) /\ W i n σ' H') (λ n s' hI=>?_) m0 ⟨0,zo0 js σ,_,I₃,st₃,λ b hb=>(f3 b hb).1.1,w0⟩;obtain ⟨i,σ3,H3,J3,st3,fr3,w3⟩:=hI;have tr:=turn i n σ3 H3 w3;show wpAny _ X.A ((compTurn [23] 0 (.ref it) (.ref p0) [84]).onRaise (λ x=>do noteFrame x [84]; theTreesLotGoes x)) _ _ s';refine wpAny_noted ?_;rw [compTurn_list,<- a1,<- a2,<- a3,<- a4];have nof:∀ {α:Type} {t:Sem α} {Q':α->Shared->Prop} {s'':[88]} {E:[9]},wpAny (model X'.prog X'.w) X'.A t Q' X'.xe s''->wpAny (model X'.prog X'.w) X'.A t Q' E s'':=λ h=>wpAny_mono h (λ _ _ q=>q) λ _ _ z=>by rw [a7] at z; exact z.elim
  rcases tr with ⟨stop,qn⟩ | ⟨go,step⟩
  ·refine wpAny_bind (wpAny_standAt (wpAny_bind (nof (thn (T'.done X' rfl rfl rfl a6 i [] s' σ3 H3 X'.xe J3 (fp4 fr3) st3 stop) λ r s4 ⟨hr,J4⟩=>?_))));subst hr;refine wpAny_pure ?_;show compPost (model X'.prog X'.w) X'.A X.xe use Q' (.ref p0) sD.heap.objs.size (.ok .next) s4;rw [a2,a3,a4];exact fin J4 qn
  ·refine wpAny_bind (wpAny_standAt (wpAny_bind (nof (thn (T'.item X' rfl rfl rfl a6 i [] s' σ3 H3 X'.xe J3 (fp4 fr3) st3 go) λ r s4 ⟨u,hr,h4⟩=>?_))));subst hr;refine wpAny_bind (nof (thn h4 λ _ s5 ⟨x,H5,I5,r5,y5,st5,fr5⟩=>?_));have I5':=I5.pinned (fp4 fr5) (T.obj _ _ st5);refine wpAny_bind (nof (thn (hg' _ s5 σ3 H5 x u _ I5' r5 (step x H5 y5)) λ _ s6 ⟨σ6,H6,I6,q6⟩=>?_));refine wpAny_bind (nof (thn (ht' _ s6 σ6 H6 _ I6 q6) λ ok s7 ⟨H7,I7,q7⟩=>?_))
   have again:∀ {s8:[88]} {σ8:L2.St} {H8:Hp},Inv X' ([] ++ xx0 fp s5.heap) σ8 H8 s8->(∃ m',m' < n /\ W (i + 1) m' σ8 H8)->∃ m,m < n /\ ∃ i σ' H',Inv X' [] σ' H' s8 /\ tn i s8.heap /\ (∀ b ∈ fp,H' b=none) /\ W i m σ' H':=λ {s8 σ8 H8} I8 ⟨m',hm,w8⟩=>by
    refine ⟨m',hm,i + 1,σ8,H8,I8.unpinned,T.keep _ _ _ st5 λ b hb o e=>(I8.pin (b,o) [65]).1,λ b hb=>?_,w8⟩;obtain ⟨o,e,d⟩:=T.obj _ _ st5 b hb;exact (I8.pin (b,o) [65]).2.1
   cases ok with
   | false=>exact wpAny_pure ⟨rfl,again I7 q7⟩
   | true =>
    refine wpAny_bind (wpAny_bind (nof (thn (he' _ s7 σ6 H7 _ I7 q7) λ xv s8 ⟨y,H8,I8,r8,ys,q8,hlen,q9⟩=>wpAny_bind (nof ?_))));refine thn (us0 (X:=X') _ s8 σ6 H8 (.ref p0) [y] (.ref p0) [xv] (λ v H9=>v=.non /\ H9=upd H8 p0 (.lst (ys ++ [y]))) I8 rfl (.cons r8 .nil) ⟨p0,ys,y,rfl,rfl,q8,hlen,rfl,rfl⟩) λ rv s9 ⟨v9,H9,I9,_,_,e9⟩=>?_;subst e9;exact wpAny_pure (wpAny_pure ⟨rfl,again I9 q9⟩)
 exact codeAny_compStart_list (loop _ I4 st4) (T.self X.A 0 _ _ _ st4 (loop _ I4 st4))
theorem wx3 {px apos:Pos} {g:TG} {tc:TT} {te:TE} (hN:X.N.Nodup) (hi':X.N[i]?=some x) (hl:X.env.scope.names.lookup x=some .local) (hc:X.calm=true) (S:CompSc X NN scope cl js) (hi:PI X target iter wi)
    (hg:∀ C fp s₀ H₀ pn,PG [14] target g) (ht:∀ C fp s₀ H₀ pn,PTs [14] ifs tc) (he:∀ C fp s₀ H₀ pn,PE [14] elt te)
    (hs:∀ x,foldedSetIterable iter X.env x=pure x) (hw:swapsWith [23] (some (.Name x px)) apos.line X.env=pure true) :
    PS X (.Assign [.Name x px] [23] apos) (tAsg (xe2 js wi g tc te) (ud4 i)):=by
 intro pins s σ H D I h;rw [exec_Assign_Name_used _ _ _ _ hw];refine wpAny_bind (wpAny_standAt (wpAny_bind ?_));show wpAny _ _ (comprehension [23] scope X.env (firstIterPos [⟨target,iter,ifs,0⟩] pos) (newList []) (firstAsync [⟨target,iter,ifs,0⟩]) (firstIter [⟨target,iter,ifs,0⟩] X.env) (some (assign (.Name x px) X.env)) >>= λ _=>pure ()) _ _ s;refine wpAny_bind (wpAny_mono (zf4 (use:=some (assign (.Name x px) X.env)) (Q':=λ _ s'=>SP X pins D .next s') hc S hi hg ht he hs I h λ p0 C H' s' m' I5 hn hC n1 n2 n3 n4 q=>?_) (λ _ s' hq=>wpAny_pure (wpAny_pure hq)) λ _ _ e=>e);show wpAny _ _ (assign (.Name x px) X.env (.ref p0)) _ _ s';refine wpAny_assign_Name (ue1 I5 hN hi' (.inl hl) (v:=.ref p0) rfl (λ s2 I6 ⟨b,sb,hb⟩=>?_) (.inr hl))
 have nb:C ≠ b:=by
  rcases hb with hb | hb
  ·rw [hb]; exact n1
  ·exact Ne.symm (n3 x b hb)
 exact ⟨m',hn.sameBut sb nb,λ h' sb'=>⟨_,H',I6.turned (t':=s2.toks) (λ b o hb e=>sb'.extBut b o hb e) hC n1 (.inr n2) n3 n4,q⟩⟩
end
section
variable {ti:TI3} {g:TG3} {tc:TT3} {te:TE3} 
theorem xv2 {px apos:Pos} (hN:X.N.Nodup) (hc:X.calm=true) (S:CompSc X NN scope cl js) (hi:RI X target iter ti) (hg:∀ C fp s₀ H₀ pn,RG [14] target g)
    (ht:∀ C fp s₀ H₀ pn,RTs [14] ifs tc) (he:∀ C fp s₀ H₀ pn,RE [14] elt te)
    (hs:∀ x,foldedSetIterable iter X.env x=pure x) (hi':X.N[i]?=some x:=by rfl) (hl:X.env.scope.names.lookup x=some .local:=by rfl)
    (hw:swapsWith [23] (some (.Name x px)) apos.line X.env=pure true:=by rfl):RS X (.Assign [.Name x px] [23] apos) (set3 i (comp3 js ti g tc te)):=by
 obtain ⟨wi,pi,ri⟩:=hi
 let gU:TG:=λ v σ H Q=>∀ (r:TG3),r=g->∃ d ρ μ Q3,RSt X.K H ρ σ /\ RelM X.K μ H /\ RelD X.K H d v /\ g d ρ μ Q3 /\ (∀ ρ' μ' σ' H',Q3 ρ' μ'->Kp H H'->RSt X.K H' ρ' σ'->RelM X.K μ' H'->Q σ' H')
 let tU:TT:=λ σ H Q=>∃ ρ μ Q3,RSt X.K H ρ σ /\ RelM X.K μ H /\ tc ρ μ Q3 /\ (∀ b μ' H',Q3 b μ'->Kp H H'->RelM X.K μ' H'->Q b H')
 let eU:TE:=λ σ H Q=>∃ ρ μ Q3,RSt X.K H ρ σ /\ RelM X.K μ H /\ te ρ μ Q3 /\ Ks X.K H Q3 Q
 have hg':∀ C fp s₀ H₀ pn,PG [14] target gU:=λ C fp s₀ H₀ pn=>by
  obtain ⟨tv,p,r⟩:=hg C fp s₀ H₀ pn;intro pins s σ H v u Q I rv h;obtain ⟨d,ρ,μ,Q3,a1,a2,a3,a4,a5⟩:=h g rfl;exact p pins s σ H v u Q I rv (r v d σ H Q ρ μ Q3 a1 a2 a3 a4 a5)
 have ht':∀ C fp s₀ H₀ pn,PTs [14] ifs tU:=λ C fp s₀ H₀ pn=>by
  obtain ⟨tv,p,r⟩:=ht C fp s₀ H₀ pn;intro pins s σ H Q I h;obtain ⟨ρ,μ,Q3,a1,a2,a3,a4⟩:=h;exact p pins s σ H Q I (r σ H Q ρ μ Q3 a1 a2 a3 a4)
 have he':∀ C fp s₀ H₀ pn,PE [14] elt eU:=λ C fp s₀ H₀ pn=>by
  obtain ⟨tv,p,r⟩:=he C fp s₀ H₀ pn;intro pins s σ H Q I h;obtain ⟨ρ,μ,Q3,a1,a2,a3,a4⟩:=h;exact p pins s σ H Q I (r σ H Q ρ μ Q3 a1 a2 a3 a4)
 have rd:RdE X.K (xe2 js wi gU tU eU) (comp3 js ti g tc te):=RdE.comp ri (λ v d σ H Q ρ μ Q3 a1 a2 a3 a4 a5 _ _=>⟨d,ρ,μ,Q3,a1,a2,a3,a4,a5⟩) [101] [101];exact ⟨_,wx3 hN hi' hl hc S pi hg' ht' he' hs hw,λ σ H D ρ μ D3 s m h k=>rd σ H _ ρ μ _ s m h λ d μ1 v H1 h1 k1 r1 m1=>k.nx _ _ _ _ h1 k1 ([90].set i r1) m1⟩
end
end Pv
namespace Pv
open PySem
abbrev Rise (xs:Array Nat):Prop:=xs.toList.Pairwise (· < ·)
variable {xs:Array Nat} {i:Nat}
theorem yn0 (h:Rise xs) {j a b:Nat} (hi:xs[i]?=some a) (hj:xs[j]?=some b) (l:i < j):a < b:=by
 have h':=List.pairwise_iff_getElem.mp h;rw [<- getElem?_toList] at hi hj;obtain ⟨hi1,hi2⟩:=List.getElem?_eq_some_iff.mp hi;obtain ⟨hj1,hj2⟩:=List.getElem?_eq_some_iff.mp hj;rw [<- hi2,<- hj2];exact h' i j hi1 hj1 l
theorem yr0 (xs:Array Nat) (j:Nat) (h:Rise xs):∀ (fuel lo hi:Nat),hi - lo<=fuel->lo<=hi->hi<=xs.size->(∀ i a,i < lo->xs[i]?=some a->a < j)->(∀ i a,hi<=i->xs[i]?=some a->j<=a) ->
    (∀ i a,xs[i]?=some a->(i < SetTable.below.go xs j fuel lo hi ↔ a < j)) /\ SetTable.below.go xs j fuel lo hi<=xs.size
 | 0,lo,hi,f,l1,l2,a1,a2=>by
  have e:lo=hi:=by omega
  subst e;unfold SetTable.below.go;refine ⟨λ i a q=>⟨λ c=>a1 i a c q,λ c=>?_⟩,l2⟩;by_cases z:i < lo
  ·exact z
  ·have:=a2 i a [7] q; omega
 | fuel + 1,lo,hi,f,l1,l2,a1,a2=>by
  unfold SetTable.below.go;split
  ·next c =>
   have m1:(lo + hi) / 2 < hi:=by omega
   have m2:lo<=(lo + hi) / 2:=by omega
   have hm:xs[(lo + hi) / 2]?=some (xs.getD ((lo + hi) / 2) j):=by
    have:(lo + hi) / 2 < xs.size:=by omega
    simp [Array.getD,this]
   dsimp only;split
   ·next c2 =>
    refine yr0 xs j h fuel _ _ [7] [7] l2 (λ i a z q=>?_) a2;by_cases y:i=(lo + hi) / 2
    ·subst y; rw [hm] at q; cases q; exact c2
    ·exact Nat.lt_trans (yn0 h q hm [7]) c2
   ·next c2 =>
    refine yr0 xs j h fuel _ _ [7] [7] [7] a1 (λ i a z q=>?_);by_cases y:i=(lo + hi) / 2
    ·subst y; rw [hm] at q; cases q; omega
    ·have:=yn0 h hm q [7]; omega
  ·next c =>
   have e:lo=hi:=by omega
   subst e;refine ⟨λ i a q=>⟨λ c=>a1 i a c q,λ c=>?_⟩,l2⟩;by_cases z:i < lo
   ·exact z
   ·have:=a2 i a [7] q; omega
theorem yj0 (h:Rise xs) (j:Nat) {a:Nat} (q:xs[i]?=some a):i < SetTable.below xs j ↔ a < j :=
 (yr0 xs j h xs.size 0 xs.size [7] [7] [19] (λ _ _ z=>absurd z (Nat.not_lt_zero _)) (λ i a z q=>by rw [getElem?_eq_none z] at q; cases q)).1 i a q
theorem zm0 (h:Rise xs) (j:Nat):SetTable.below xs j<=xs.size :=
 (yr0 xs j h xs.size 0 xs.size [7] [7] [19] (λ _ _ z=>absurd z (Nat.not_lt_zero _)) (λ i a z q=>by rw [getElem?_eq_none z] at q; cases q)).2
theorem wm0 (h:Rise xs) {j:Nat} (q:xs[i]?=some j):SetTable.below xs j=i:=by
 have h1:=yj0 h j q;have h2:=zm0 h j;by_cases c:SetTable.below xs j < i
 ·have hi:=(Array.getElem?_eq_some_iff.mp q).1;obtain ⟨a,ha⟩:∃ a,xs[SetTable.below xs j]?=some a:=⟨_,Array.getElem?_eq_getElem [7]⟩;have h3:=yj0 h j ha;have h4:=yn0 h ha q c;omega
 ·omega
theorem zg1 {j:Nat} (h:j ∈ xs.toList):∃ i:Nat,xs[i]?=some j:=by
 obtain ⟨i,hi⟩:=List.mem_iff_getElem?.mp h;exact ⟨i,by rw [<- getElem?_toList]; exact hi⟩
theorem wy0 {j:Nat} (h:xs[i]?=some j):j ∈ xs.toList:=List.mem_iff_getElem?.mpr ⟨i,by rw [getElem?_toList]; exact h⟩
theorem uk0 (h:Rise xs) (j:Nat):SetTable.has xs j=true ↔ j ∈ xs.toList:=by
 unfold SetTable.has;constructor
 ·intro z; exact wy0 (eq_of_beq z)
 ·intro z;obtain ⟨i,hi⟩:=zg1 z;rw [wm0 h hi,hi];exact beq_self_eq_true _
variable {t:SetTable}
theorem se1 (h:Rise t.place) {j:Nat}:t.slot j=.live i ↔ t.place[i]?=some j:=by
 unfold SetTable.slot;dsimp only;constructor
 ·intro z;split at z
  ·next c=>cases z; exact eq_of_beq c
  ·split at z <;> cases z
 ·intro z;rw [wm0 h z,z];simp
theorem vw0 (h:Rise t.place) (hd:Rise t.dummies) {j:Nat} (dj:j ∈ t.dummies.toList->j ∉ t.place.toList):t.slot j=.dummy ↔ j ∈ t.dummies.toList:=by
 unfold SetTable.slot;dsimp only;constructor
 ·intro z;split at z
  ·cases z
  ·split at z
   ·next c=>exact (uk0 hd j).mp c
   ·cases z
 ·intro z;rw [if_neg,if_pos ((uk0 hd j).mpr z)];intro c;exact dj z (wy0 (eq_of_beq c))
theorem ww0 (h:Rise t.place) (hd:Rise t.dummies) {j:Nat}:t.slot j=.empty ↔ j ∉ t.place.toList /\ j ∉ t.dummies.toList:=by
 unfold SetTable.slot;dsimp only;constructor
 ·intro z;split at z
  ·cases z
  ·next c =>
   split at z
   ·cases z
   ·next c2 =>
    refine ⟨λ m=>c ?_,λ m=>c2 ((uk0 hd j).mpr m)⟩;obtain ⟨i,hi⟩:=zg1 m;rw [wm0 h hi,hi];exact beq_self_eq_true _
 ·rintro ⟨z1,z2⟩;rw [if_neg (λ c=>z1 (wy0 (eq_of_beq c))),if_neg (λ c=>z2 ((uk0 hd j).mp c))]
def mkT (mask:Nat):SetTable:={ SetTable.fresh 0 0 false with mask:=mask }
def trS (mask:Nat) (h:Int):Nat->SetTable.Probe
 | 0=>(mkT mask).probeStart h
 | n + 1=>(mkT mask).advance (trS mask h n)
abbrev tr (mask:Nat) (h:Int) (n:Nat):Nat:=(trS mask h n).j
theorem wj1 (t:SetTable) (p:SetTable.Probe) (d:Option Nat):t.advance { p with dummy:=d }={ t.advance p with dummy:=d }:=by
 unfold SetTable.advance;dsimp only;split <;> rfl
def seg (mask i perturb:Nat):SetTable.Probe:={ j:=i,more:=SetTable.runEnd mask i - i,i:=i,perturb:=perturb,dummy:=none }
theorem run9 (mask i:Nat):SetTable.runEnd mask i - i<=9:=by unfold SetTable.runEnd; split <;> omega
theorem xw4 (mask i:Nat):i<=SetTable.runEnd mask i:=by unfold SetTable.runEnd; split <;> omega
theorem yw4 (mask i:Nat) (h:i<=mask):SetTable.runEnd mask i<=mask:=by unfold SetTable.runEnd; split <;> omega
theorem uz0 {mask:Nat} {h:Int} {n i p:Nat} (e:trS mask h n=seg mask i p):∀ k,k<=SetTable.runEnd mask i - i->trS mask h (n + k)={ seg mask i p with j:=i + k,more:=SetTable.runEnd mask i - i - k }
 | 0,_=>e
 | k + 1,hk=>by
  have ih:=uz0 e k [7];show (mkT mask).advance (trS mask h (n + k))=_;rw [ih];unfold SetTable.advance;dsimp only [seg];rw [if_pos [7]];congr 1
variable {mask p:Nat} {h:Int}
theorem yq0 {n:Nat} (e:trS mask h n=seg mask i p):trS mask h (n + (SetTable.runEnd mask i - i) + 1)=seg mask (SetTable.leap mask i p).1 (SetTable.leap mask i p).2:=by
 have ih:=uz0 e _ [19];show (mkT mask).advance (trS mask h (n + (SetTable.runEnd mask i - i)))=_;rw [ih];unfold SetTable.advance;dsimp only [seg];rw [if_neg [7]];rfl
def lp (mask:Nat):Nat->Nat × Nat->Nat × Nat
 | 0,x=>x
 | k + 1,x=>lp mask k (SetTable.leap mask x.1 x.2)
theorem uj3 {mask:Nat} {h:Int}:∀ (K:Nat) {n i p:Nat},trS mask h n=seg mask i p->∃ m,n<=m /\ m<=n + 10 * K /\ trS mask h m=seg mask (lp mask K (i,p)).1 (lp mask K (i,p)).2
 | 0,n,i,p,e=>⟨n,Nat.le_refl _,Nat.le_refl _,e⟩
 | K + 1,n,i,p,e=>by
  obtain ⟨m,h1,h2,h3⟩:=uj3 K (yq0 e);have:=run9 mask i;exact ⟨m,by omega,by omega,h3⟩
theorem yl3 (mask:Nat):∀ (a b:Nat) (x:Nat × Nat),lp mask (a + b) x=lp mask b (lp mask a x)
 | 0,b,x=>by rw [Nat.zero_add]; rfl
 | a + 1,b,x=>by rw [show a + 1 + b=(a + b) + 1 by omega]; exact yl3 mask a b _
theorem xl3 (mask:Nat):∀ (k:Nat) (x:Nat × Nat),x.2 < 32 ^ k->(lp mask k x).2=0
 | 0,x,h=>by simp at h; exact h
 | k + 1,x,h=>xl3 mask k _ (by show x.2 / 32 < 32 ^ k; rw [Nat.pow_succ] at h; omega)
def f0 (mask i:Nat):Nat:=(i * 5 + 1) % (mask + 1)
def fN (mask:Nat):Nat->Nat->Nat
 | 0,i=>i
 | k + 1,i=>fN mask k (f0 mask i)
theorem zk2 (mask:Nat):∀ (k i:Nat),lp mask k (i,0)=(fN mask k i,0)
 | 0,i=>rfl
 | k + 1,i=>by
  show lp mask k (SetTable.leap mask i 0)=_;have:SetTable.leap mask i 0=(f0 mask i,0):=by unfold SetTable.leap f0; simp
  rw [this,zk2 mask k];rfl
theorem vh1 (mask:Nat):∀ (a b i:Nat),fN mask (a + b) i=fN mask b (fN mask a i)
 | 0,b,i=>by rw [Nat.zero_add]; rfl
 | a + 1,b,i=>by rw [show a + 1 + b=(a + b) + 1 by omega]; exact vh1 mask a b _
def okM:List Nat:=[7,15,31,63,127,255,511,1023,2047,4095]
def gs:Nat->Nat
 | 0=>0
 | r + 1=>5 * gs r + 1
theorem sm2:∀ r,5 ^ r=4 * gs r + 1
 | 0=>rfl
 | r + 1=>by rw [Nat.pow_succ,sm2 r]; show _=4 * (5 * gs r + 1) + 1; omega
theorem xn2:∀ a b,gs (a + b)=gs a * 5 ^ b + gs b
 | a,0=>by simp [gs]
 | a,b + 1=>by
  show 5 * gs (a + b) + 1=_;rw [xn2 a b,Nat.pow_succ];show _=gs a * (5 ^ b * 5) + (5 * gs b + 1);rw [Nat.mul_add,<- Nat.mul_assoc,Nat.mul_comm 5 (gs a),Nat.mul_assoc (gs a) 5,Nat.mul_comm 5 (5 ^ b)];omega
theorem tm2:∀ k,∃ o,gs (2 ^ k)=2 ^ k * (2 * o + 1)
 | 0=>⟨0,rfl⟩
 | k + 1=>by
  obtain ⟨o,e⟩:=tm2 k;refine ⟨o + (2 * o + 1) * gs (2 ^ k),?_⟩
  have h:gs (2 ^ (k + 1))=gs (2 ^ k) * (4 * gs (2 ^ k) + 2):=by
   rw [show 2 ^ (k + 1)=2 ^ k + 2 ^ k by rw [Nat.pow_succ]; omega,xn2,sm2]
   grind
  rw [h,Nat.pow_succ,e];generalize 2 ^ k=P
  grind
variable {x e:Nat}
theorem xb4 {P:Nat} (hP:0 < P) (h:x % P=e % P):x % (P * 2)=e % (P * 2) \/ (x + P) % (P * 2)=e % (P * 2):=by
 rw [Nat.mod_mul,Nat.mod_mul,Nat.mod_mul,h,Nat.add_mod_right,h,Nat.add_div_right _ hP];rcases Nat.mod_two_eq_zero_or_one (x / P) with a | a <;> rcases Nat.mod_two_eq_zero_or_one (e / P) with b | b
 ·left; rw [a,b]
 ·right; rw [b,show (x / P + 1) % 2=1 by omega]
 ·right; rw [b,show (x / P + 1) % 2=0 by omega]
 ·left; rw [a,b]
theorem xs1:∀ k e,∃ r,r < 2 ^ k /\ gs r % 2 ^ k=e % 2 ^ k
 | 0,e=>⟨0,by decide,by simp [Nat.mod_one]⟩
 | k + 1,e=>by
  obtain ⟨r,hr,h⟩:=xs1 k e;have hP:0 < 2 ^ k:=Nat.two_pow_pos k;rw [Nat.pow_succ];rcases xb4 hP h with q | q
  ·exact ⟨r,by omega,q⟩
  ·refine ⟨2 ^ k + r,by omega,?_⟩;obtain ⟨o,eo⟩:=tm2 k;rw [xn2,sm2,eo,<- q];generalize 2 ^ k=P at *;have:P * (2 * o + 1) * (4 * gs r + 1) + gs r=(gs r + P) + P * 2 * (o + (2 * o + 1) * (2 * gs r)):=by grind
   rw [this,Nat.add_mul_mod_self_left]
theorem td4 (mask:Nat):∀ r,fN mask r 0=gs r % (mask + 1)
 | 0=>by show 0=0 % (mask + 1); rw [Nat.zero_mod]
 | r + 1=>by
  rw [vh1 mask r 1 0,td4 mask r];show f0 mask (gs r % (mask + 1))=(5 * gs r + 1) % (mask + 1);unfold f0;rw [Nat.add_mod (gs r % (mask + 1) * 5),Nat.mul_mod,Nat.mod_mod,<- Nat.mul_mod,<- Nat.add_mod,Nat.mul_comm]
theorem za4:∀ m ∈ okM,∃ k,m + 1=2 ^ k:=by
 intro m hm;simp only [okM,mem_cons,not_mem_nil,or_false] at hm;rcases hm with rfl | rfl | rfl | rfl | rfl | rfl | rfl | rfl | rfl | rfl
 ·exact ⟨3,rfl⟩
 ·exact ⟨4,rfl⟩
 ·exact ⟨5,rfl⟩
 ·exact ⟨6,rfl⟩
 ·exact ⟨7,rfl⟩
 ·exact ⟨8,rfl⟩
 ·exact ⟨9,rfl⟩
 ·exact ⟨10,rfl⟩
 ·exact ⟨11,rfl⟩
 ·exact ⟨12,rfl⟩
theorem cover0 (hm:mask ∈ okM) (hi:i<=mask) (he:e<=mask):∃ r,r<=mask /\ fN mask r i=e:=by
 obtain ⟨k,hk⟩:=za4 mask hm
 have h2:fN mask (mask + 1) 0=0:=by
  obtain ⟨o,eo⟩:=tm2 k;rw [td4,hk,eo,Nat.mul_mod_right]
 have g:∀ x,x<=mask->∃ r,r<=mask /\ fN mask r 0=x:=λ x hx=>by
  obtain ⟨r,hr,h⟩:=xs1 k x;refine ⟨r,by omega,?_⟩;rw [td4,hk,h,Nat.mod_eq_of_lt [7]]
 obtain ⟨a,ha,ea⟩:=g i hi;obtain ⟨b,hb,eb⟩:=g e he;by_cases c:a<=b
 ·refine ⟨b - a,by omega,?_⟩;have:=vh1 mask a (b - a) 0;rw [show a + (b - a)=b by omega,eb,ea] at this;exact this.symm
 ·refine ⟨mask + 1 - a + b,by omega,?_⟩;have h3:=vh1 mask a (mask + 1 - a) 0;rw [show a + (mask + 1 - a)=mask + 1 by omega,h2,ea] at h3;rw [vh1,<- h3,eb]
theorem lp_in {mask:Nat}:∀ (k:Nat) (x:Nat × Nat),x.1<=mask->(lp mask k x).1<=mask
 | 0,x,h=>h
 | k + 1,x,_=>lp_in k _ (by show (x.1 * 5 + 1 + x.2 / 32) % (mask + 1)<=mask; have:=Nat.mod_lt (x.1 * 5 + 1 + x.2 / 32) (show mask + 1 > 0 by omega); omega)
theorem tq1 (hm:mask ∈ okM) (hi:i<=mask) (hp:p < 2 ^ 64) (he:e<=mask):∃ K,K<=13 + mask /\ (lp mask K (i,p)).1=e:=by
 have h1:=xl3 mask 13 (i,p) (Nat.lt_of_lt_of_le hp [8]);have h2:=lp_in 13 (i,p) hi;obtain ⟨r,hr,er⟩:=cover0 hm h2 he;refine ⟨13 + r,by omega,?_⟩;rw [yl3,show lp mask 13 (i,p)=((lp mask 13 (i,p)).1,0) from Prod.ext rfl h1,zk2,er]
theorem yr2 (h:Int):SetTable.bits h < 2 ^ 64:=by
 unfold SetTable.bits;have:=Int.emod_lt_of_pos h (show (0:Int) < 2 ^ 64 by decide);have:=Int.emod_nonneg h (show (2 ^ 64:Int) ≠ 0 by decide);omega
theorem te1 (mask:Nat) (h:Int):trS mask h 0=seg mask (SetTable.bits h % (mask + 1)) (SetTable.bits h):=rfl
theorem xk4 (h:Int) (n:Nat):∃ n0 i p k,n=n0 + k /\ trS mask h n0=seg mask i p /\ i<=mask /\ p < 2 ^ 64 /\ k<=SetTable.runEnd mask i - i:=by
 induction n with
 | zero=>exact ⟨0,_,_,0,rfl,te1 mask h,by have:=Nat.mod_lt (SetTable.bits h) (show mask + 1 > 0 by omega); omega,yr2 h,Nat.zero_le _⟩
 | succ n ih =>
  obtain ⟨n0,i,p,k,e1,e2,e3,e4,e5⟩:=ih;by_cases c:k + 1<=SetTable.runEnd mask i - i
  ·exact ⟨n0,i,p,k + 1,by omega,e2,e3,e4,c⟩
  ·refine ⟨n0 + (SetTable.runEnd mask i - i) + 1,_,_,0,by omega,yq0 e2,?_,?_,Nat.zero_le _⟩
   ·show (i * 5 + 1 + p / 32) % (mask + 1)<=mask; have:=Nat.mod_lt (i * 5 + 1 + p / 32) (show mask + 1 > 0 by omega); omega
   ·show p / 32 < 2 ^ 64; omega
theorem vo3 (h:Int) (n:Nat):tr mask h n<=mask:=by
 obtain ⟨n0,i,p,k,e1,e2,e3,e4,e5⟩:=xk4 (mask:=mask) h n;subst e1;show (trS mask h (n0 + k)).j<=mask;rw [uz0 e2 k e5];show i + k<=mask;have:=yw4 mask i e3;omega
theorem yo1 (hm:mask ∈ okM) (h:Int) (n:Nat) (he:e<=mask):∃ m,n<=m /\ m < n + 10 * SetTable.turns mask /\ tr mask h m=e:=by
 obtain ⟨n0,i,p,k,e1,e2,e3,e4,e5⟩:=xk4 (mask:=mask) h n;have e6:=yq0 e2;have l1:(SetTable.leap mask i p).1<=mask:=by show (i * 5 + 1 + p / 32) % (mask + 1)<=mask; have:=Nat.mod_lt (i * 5 + 1 + p / 32) (show mask + 1 > 0 by omega); omega
 obtain ⟨K,hK,eK⟩:=tq1 hm l1 (show (SetTable.leap mask i p).2 < 2 ^ 64 by show p / 32 < 2 ^ 64; omega) he;obtain ⟨m,h1,h2,h3⟩:=uj3 K e6;have:=run9 mask i;refine ⟨m,by omega,by unfold SetTable.turns; omega,?_⟩;show (trS mask h m).j=e;rw [h3];exact eK
def Occ (t:SetTable) (j:Nat):Prop:=j ∈ t.place.toList \/ j ∈ t.dummies.toList
structure TOk (t:SetTable) (hs:List Int):Prop where
 ris:Rise t.place
 rid:Rise t.dummies
 dj:∀ j,j ∈ t.dummies.toList->j ∉ t.place.toList
 inP:∀ j,j ∈ t.place.toList->j<=t.mask
 inD:∀ j,j ∈ t.dummies.toList->j<=t.mask
 msk:t.mask ∈ okM
 sz:t.place.size=hs.length
 reach:∀ (i j:Nat) (h:Int),t.place[i]?=some j->hs[i]?=some h->∃ m,tr t.mask h m=j /\ ∀ l,l < m->Occ t (tr t.mask h l)
variable {hs:List Int}
theorem TOk.occ (k:TOk t hs) (j:Nat):Occ t j ↔ t.slot j ≠ .empty:=by
 rw [Ne,ww0 k.ris k.rid];unfold Occ;constructor
 ·rintro (z | z) ⟨a,b⟩
  ·exact a z
  ·exact b z
 ·intro z;by_cases c:j ∈ t.place.toList
  ·exact .inl c
  ·by_cases d:j ∈ t.dummies.toList
   ·exact .inr d
   ·exact absurd ⟨c,d⟩ z
theorem wk3:∀ (M:Nat) (L:List Nat),(∀ e,e < M->e ∈ L)->M<=L.length
 | 0,_,_=>Nat.zero_le _
 | M + 1,L,h=>by
  have h1:=h M (Nat.lt_succ_self _);have h2:=wk3 M (L.erase M) λ e he=>(List.mem_erase_of_ne (Nat.ne_of_lt he)).mpr (h e (Nat.lt_succ_of_lt he));rw [List.length_erase_of_mem h1] at h2;have:=List.length_pos_of_mem h1;omega
theorem TOk.hole (k:TOk t hs) (r:t.fill<=t.mask):∃ e,e<=t.mask /\ t.slot e=.empty:=by
 refine Classical.byContradiction λ c=>?_
 have:=wk3 (t.mask + 1) (t.place.toList ++ t.dummies.toList) λ e he=>by
  have h1:Occ t e:=(k.occ e).mpr λ z=>c ⟨e,by omega,z⟩;exact List.mem_append.mpr h1
 rw [length_append] at this;simp only [length_toList] at this;unfold SetTable.fill at r;omega
def Sk (t:SetTable) (hashAt:Nat->Int) (h:Int) (n m:Nat):Prop:=∀ l,n<=l->l < m->t.slot (tr t.mask h l) ≠ .empty /\ ∀ i,t.slot (tr t.mask h l)=.live i->hashAt i ≠ h
def DumOk (t:SetTable) (h:Int) (d:Option Nat) (n:Nat):Prop:=∀ x,d=some x->∃ l,l < n /\ tr t.mask h l=x /\ t.slot x=.dummy
theorem DumOk.up {d:Option Nat} {n m:Nat} (k:DumOk t h d n) (l:n<=m):DumOk t h d m:=λ x e=>by
 obtain ⟨a,b,c⟩:=k x e;exact ⟨a,by omega,c⟩
theorem Sk.cons {t:SetTable} {hashAt:Nat->Int} {h:Int} {n m:Nat} (a:t.slot (tr t.mask h n) ≠ .empty) (b:∀ i,t.slot (tr t.mask h n)=.live i->hashAt i ≠ h) (k:Sk t hashAt h (n + 1) m):Sk t hashAt h n m:=λ l h1 h2=>by
 by_cases c:l=n
 ·subst c; exact ⟨a,b⟩
 ·exact k l [7] h2
theorem wm1 (t:SetTable) (hashAt:Nat->Int) (h:Int):∀ (fuel n:Nat) (d:Option Nat),DumOk t h d n->(∃ m,n<=m /\ m < n + fuel /\ t.slot (tr t.mask h m)=.empty) ->
    (∃ m d',SetTable.probe.go t hashAt h fuel { trS t.mask h n with dummy:=d }=some (.empty (tr t.mask h m) d') /\ n<=m /\ t.slot (tr t.mask h m)=.empty /\ Sk t hashAt h n m /\ DumOk t h d' m) ∨
    (∃ m i d',SetTable.probe.go t hashAt h fuel { trS t.mask h n with dummy:=d }=some (.candidate (tr t.mask h m) i { trS t.mask h (m + 1) with dummy:=d' }) /\ n<=m /\ t.slot (tr t.mask h m)=.live i /\ hashAt i=h /\ Sk t hashAt h n m /\ DumOk t h d' m)
 | 0,n,d,k,c=>by obtain ⟨m,a,b,_⟩:=c; omega
 | fuel + 1,n,d,k,c=>by
  have nx:t.slot (tr t.mask h n) ≠ .empty->∃ m,n + 1<=m /\ m < n + 1 + fuel /\ t.slot (tr t.mask h m)=.empty:=λ z=>by
   obtain ⟨m,a,b,e⟩:=c;refine ⟨m,?_,by omega,e⟩;by_cases y:m=n
   ·subst y; exact absurd e z
   ·omega
  unfold SetTable.probe.go;dsimp only;cases hs:t.slot (tr t.mask h n) with
  | empty=>exact .inl ⟨n,d,rfl,Nat.le_refl _,hs,λ l a b=>by omega,k⟩
  | dummy =>
   dsimp only;have e1:t.advance { trS t.mask h n with dummy:=some (tr t.mask h n) }={ trS t.mask h (n + 1) with dummy:=some (tr t.mask h n) }:=wj1 t (trS t.mask h n) _;rw [e1];have k':DumOk t h (some (tr t.mask h n)) (n + 1):=λ x e=>by cases e; exact ⟨n,Nat.lt_succ_self _,rfl,hs⟩
   have e2:t.slot (tr t.mask h n) ≠ .empty:=by rw [hs]; intro z; cases z
   have e3:∀ i,t.slot (tr t.mask h n)=.live i->hashAt i ≠ h:=λ i z=>by rw [hs] at z; cases z
   rcases wm1 t hashAt h fuel (n + 1) _ k' (nx e2) with ⟨m,d',a1,a2,a3,a4,a5⟩ | ⟨m,i,d',a1,a2,a3,a4,a5,a6⟩
   ·exact .inl ⟨m,d',a1,by omega,a3,a4.cons e2 e3,a5⟩
   ·exact .inr ⟨m,i,d',a1,by omega,a3,a4,a5.cons e2 e3,a6⟩
  | live i =>
   dsimp only;have e1:t.advance { trS t.mask h n with dummy:=d }={ trS t.mask h (n + 1) with dummy:=d }:=wj1 t (trS t.mask h n) _;rw [e1];have e2:t.slot (tr t.mask h n) ≠ .empty:=by rw [hs]; intro z; cases z
   by_cases c2:hashAt i=h
   ·rw [if_pos (by simpa using c2)];exact .inr ⟨n,i,d,rfl,Nat.le_refl _,hs,c2,λ l a b=>by omega,k⟩
   ·rw [if_neg (by simpa using c2)];have e3:∀ i,t.slot (tr t.mask h n)=.live i->hashAt i ≠ h:=λ i' z=>by rw [hs] at z; cases z; exact c2
    rcases wm1 t hashAt h fuel (n + 1) _ (k.up (Nat.le_succ _)) (nx e2) with ⟨m,d',a1,a2,a3,a4,a5⟩ | ⟨m,i,d',a1,a2,a3,a4,a5,a6⟩
    ·exact .inl ⟨m,d',a1,by omega,a3,a4.cons e2 e3,a5⟩
    ·exact .inr ⟨m,i,d',a1,by omega,a3,a4,a5.cons e2 e3,a6⟩
theorem TOk.probe {t:SetTable} {hs:List Int} (k:TOk t hs) (r:t.fill<=t.mask) (hashAt:Nat->Int) (h:Int) (n:Nat) (d:Option Nat) (kd:DumOk t h d n) :
    (∃ m d',t.probe hashAt h { trS t.mask h n with dummy:=d }=some (.empty (tr t.mask h m) d') /\ n<=m /\ t.slot (tr t.mask h m)=.empty /\ Sk t hashAt h n m /\ DumOk t h d' m) ∨
    (∃ m i d',t.probe hashAt h { trS t.mask h n with dummy:=d }=some (.candidate (tr t.mask h m) i { trS t.mask h (m + 1) with dummy:=d' }) /\ n<=m /\ t.slot (tr t.mask h m)=.live i /\ hashAt i=h /\ Sk t hashAt h n m /\ DumOk t h d' m):=by
 obtain ⟨e,he,ee⟩:=k.hole r;obtain ⟨m,h1,h2,h3⟩:=yo1 k.msk h n he;exact wm1 t hashAt h _ n d kd ⟨m,h1,h2,by rw [h3]; exact ee⟩
theorem wx0 {α:Type} {xs:List α} {x:α} (hp:p<=xs.length) (h:i < p):(xs.take p ++ x :: xs.drop p)[i]?=xs[i]?:=by
 rw [List.getElem?_append_left (by rw [length_take]; omega),List.getElem?_take_of_lt h]
theorem ux0 {α:Type} {xs:List α} {x:α} (hp:p<=xs.length):(xs.take p ++ x :: xs.drop p)[p]?=some x:=by
 rw [List.getElem?_append_right (by rw [length_take]; omega),length_take,show p - min p xs.length=0 by omega];rfl
theorem vx0 {α:Type} {xs:List α} {x:α} (hp:p<=xs.length) (h:p<=i):(xs.take p ++ x :: xs.drop p)[i + 1]?=xs[i]?:=by
 rw [List.getElem?_append_right (by rw [length_take]; omega),length_take,show i + 1 - min p xs.length=(i - p) + 1 by omega,List.getElem?_cons_succ,getElem?_drop];congr 1;omega
def insL {α:Type} (xs:List α) (p:Nat) (x:α):List α:=xs.take p ++ x :: xs.drop p
theorem sq0 {α:Type} (xs:List α) (p:Nat) (x y:α):y ∈ insL xs p x ↔ y=x \/ y ∈ xs:=by
 have e:xs=xs.take p ++ xs.drop p:=(List.take_append_drop p xs).symm;unfold insL;rw [mem_append,mem_cons];constructor
 ·rintro (z | z | z)
  ·exact .inr (List.mem_of_mem_take z)
  ·exact .inl z
  ·exact .inr (List.mem_of_mem_drop z)
 ·rintro (z | z)
  ·exact .inr (.inl z)
  ·rw [e] at z;rcases List.mem_append.mp z with z | z
   ·exact .inl z
   ·exact .inr (.inr z)
theorem th0 {α:Type} (xs:List α) (p:Nat) (x:α):(insL xs p x).length=xs.length + 1:=by
 unfold insL;rw [length_append,length_cons,length_take,length_drop];omega
theorem ur1 {α β:Type} (f:α->β) (xs:List α) (p:Nat) (x:α):(insL xs p x).map f=insL (xs.map f) p (f x):=by
 unfold insL;rw [map_append,map_cons,List.map_take,List.map_drop]
theorem vv2 (h:Rise xs) {j:Nat} (hn:j ∉ xs.toList):(insL xs.toList (SetTable.below xs j) j).Pairwise (· < ·):=by
 have b:∀ {i a:Nat},xs[i]?=some a->(i < SetTable.below xs j ↔ a < j):=λ q=>yj0 h j q;have hb:=zm0 h j;have e:xs.toList=xs.toList.take (SetTable.below xs j) ++ xs.toList.drop (SetTable.below xs j):=(List.take_append_drop _ _).symm;have h':=h;unfold Rise at h';rw [e] at h';obtain ⟨h1,h2,h3⟩:=List.pairwise_append.mp h';unfold insL;refine List.pairwise_append.mpr ⟨h1,List.pairwise_cons.mpr ⟨λ x hx=>?_,h2⟩,λ x hx y hy=>?_⟩
 ·obtain ⟨i,hi⟩:=List.mem_iff_getElem?.mp hx;rw [getElem?_drop,getElem?_toList] at hi;have:=b hi;have ne:x ≠ j:=λ z=>hn (by subst z; exact wy0 hi);omega
 ·have hxl:x < j:=by
    obtain ⟨i,hi⟩:=List.mem_iff_getElem?.mp hx
    have hlt:i < SetTable.below xs j:=by
     have:=(List.getElem?_eq_some_iff.mp hi).1;rw [length_take] at this;omega
    rw [List.getElem?_take_of_lt hlt,getElem?_toList] at hi;exact (b hi).mp hlt
  rcases List.mem_cons.mp hy with rfl | hy
  ·exact hxl
  ·exact h3 x hx y hy
theorem xe4 (h:Rise xs) {j:Nat} (hp:xs[p]?=some j) (x:Nat):x ∈ (SetTable.eraseAt xs p).toList ↔ x ∈ xs.toList /\ x ≠ j:=by
 have hpl:=(Array.getElem?_eq_some_iff.mp hp).1
 have e:(SetTable.eraseAt xs p).toList=xs.toList.take p ++ xs.toList.drop (p + 1):=by
  simp [SetTable.eraseAt,List.extract_eq_take_drop,take_of_length_le]
 rw [e,mem_append];constructor
 ·rintro (z | z)
  ·obtain ⟨i,hi⟩:=List.mem_iff_getElem?.mp z
   have hlt:i < p:=by
    have:=(List.getElem?_eq_some_iff.mp hi).1;rw [length_take] at this;omega
   rw [List.getElem?_take_of_lt hlt,getElem?_toList] at hi;exact ⟨wy0 hi,Nat.ne_of_lt (yn0 h hi hp hlt)⟩
  ·obtain ⟨i,hi⟩:=List.mem_iff_getElem?.mp z;rw [getElem?_drop,getElem?_toList] at hi;exact ⟨wy0 hi,Nat.ne_of_gt (yn0 h hp hi [7])⟩
 ·rintro ⟨z,ne⟩;obtain ⟨i,hi⟩:=zg1 z;have hil:=(Array.getElem?_eq_some_iff.mp hi).1;by_cases c:i < p
  ·exact .inl (List.mem_iff_getElem?.mpr ⟨i,by rw [List.getElem?_take_of_lt c,getElem?_toList]; exact hi⟩)
  ·have:i ≠ p:=λ y=>by subst y; rw [hp] at hi; cases hi; exact ne rfl
   exact .inr (List.mem_iff_getElem?.mpr ⟨i - (p + 1),by rw [getElem?_drop,show p + 1 + (i - (p + 1))=i by omega,getElem?_toList]; exact hi⟩)
theorem yc1 (xs:Array Nat) (p:Nat):(SetTable.eraseAt xs p).toList=xs.toList.take p ++ xs.toList.drop (p + 1):=by
 simp [SetTable.eraseAt,List.extract_eq_take_drop,take_of_length_le]
theorem uv2 (h:Rise xs) (p:Nat):Rise (SetTable.eraseAt xs p):=by
 unfold Rise;rw [yc1];have e:xs.toList=xs.toList.take p ++ xs.toList.drop p:=(List.take_append_drop p xs.toList).symm;refine List.Pairwise.sublist ?_ h
 conv=>rhs; rw [e]
 refine List.Sublist.append (List.Sublist.refl _) ?_;rw [<- List.drop_drop];exact List.drop_sublist _ _
theorem yk0 (k:Rise t.dummies) (j x:Nat):x ∈ (t.put j).1.dummies.toList ↔ x ∈ t.dummies.toList /\ x ≠ j:=by
 show x ∈ (if SetTable.has t.dummies j then SetTable.eraseAt t.dummies (SetTable.below t.dummies j) else t.dummies).toList ↔ _;by_cases c:SetTable.has t.dummies j=true
 ·rw [if_pos c];obtain ⟨i,hi⟩:=zg1 ((uk0 k j).mp c);rw [wm0 k hi];exact xe4 k hi x
 ·rw [if_neg c];exact ⟨λ z=>⟨z,λ y=>by subst y; exact c ((uk0 k x).mpr z)⟩,λ z=>z.1⟩
theorem se0 (t:SetTable) (j:Nat):(t.put j).1.place.toList=insL t.place.toList (SetTable.below t.place j) j:=SetTable.toList_insertAt _ _ _
theorem TOk.put {t:SetTable} {hs:List Int} (k:TOk t hs) {x:Nat} {h:Int} (hx:x ∉ t.place.toList) (hr:∃ m,tr t.mask h m=x /\ ∀ l,l < m->Occ t (tr t.mask h l)) :
    TOk (t.put x).1 (insL hs (SetTable.below t.place x) h):=by
 have hb:=zm0 k.ris x;have sz:=k.sz
 have oc:∀ j,Occ t j->Occ (t.put x).1 j:=λ j o=>by
  unfold Occ;rw [se0,sq0,yk0 k.rid];by_cases c:j=x
  ·exact .inl (.inl c)
  ·exact o.elim (λ z=>.inl (.inr z)) λ z=>.inr ⟨z,c⟩
 have hxm:x<=t.mask:=by obtain ⟨m,e,_⟩:=hr; rw [<- e]; exact vo3 h m
 refine ⟨?_,?_,λ j a b=>?_,λ j a=>?_,λ j a=>?_,k.msk,?_,λ i j h' a b=>?_⟩
 ·unfold Rise; rw [se0]; exact vv2 k.ris hx
 ·show Rise [80];split
  ·exact uv2 k.rid _
  ·exact k.rid
 ·rw [yk0 k.rid] at a;rw [se0,sq0] at b;rcases b with rfl | b
  ·exact a.2 rfl
  ·exact k.dj j a.1 b
 ·rw [se0,sq0] at a;rcases a with rfl | a
  ·exact hxm
  ·exact k.inP j a
 ·rw [yk0 k.rid] at a;exact k.inD j a.1
 ·rw [<- length_toList,se0,th0,th0,length_toList,sz]
 ·have lp:SetTable.below t.place x<=t.place.toList.length:=by rw [length_toList]; exact hb
  have lh:SetTable.below t.place x<=hs.length:=by rw [<- sz]; exact hb
  rw [<- getElem?_toList,se0] at a;show ∃ m,tr t.mask h' m=j /\ ∀ l,l < m->Occ (t.put x).1 (tr t.mask h' l);unfold insL at a b;by_cases c:i < SetTable.below t.place x
  ·rw [wx0 lp c,getElem?_toList] at a;rw [wx0 lh c] at b;obtain ⟨m,e,o⟩:=k.reach i j h' a b;exact ⟨m,e,λ l hl=>oc _ (o l hl)⟩
  ·by_cases c2:i=SetTable.below t.place x
   ·subst c2;rw [ux0 lp] at a;rw [ux0 lh] at b;cases a;cases b;obtain ⟨m,e,o⟩:=hr;exact ⟨m,e,λ l hl=>oc _ (o l hl)⟩
   ·obtain ⟨i',rfl⟩:∃ i',i=i' + 1:=⟨i - 1,by omega⟩;rw [vx0 lp [7],getElem?_toList] at a;rw [vx0 lh [7]] at b;obtain ⟨m,e,o⟩:=k.reach i' j h' a b;exact ⟨m,e,λ l hl=>oc _ (o l hl)⟩
theorem vw2 (k:TOk t hs) :(t.put x).1.fill<=t.fill + 1:=by
 unfold SetTable.fill;have h1:(t.put x).1.place.size=t.place.size + 1:=by rw [<- length_toList,se0,th0,length_toList]
 have h2:(t.put x).1.dummies.size<=t.dummies.size:=by
  show [80].size<=_;split
  ·rw [<- length_toList,yc1,length_append,length_take,length_drop,length_toList]; omega
  ·exact Nat.le_refl _
 omega
theorem tz1 (k:TOk t hs) (hd:t.slot x=.dummy):(t.put x).1.fill<=t.fill:=by
 unfold SetTable.fill;have h1:(t.put x).1.place.size=t.place.size + 1:=by rw [<- length_toList,se0,th0,length_toList]
 have m:=(vw0 k.ris k.rid (k.dj x)).mp hd;obtain ⟨i,hi⟩:=zg1 m;have hil:=(Array.getElem?_eq_some_iff.mp hi).1
 have h2:(t.put x).1.dummies.size + 1<=t.dummies.size:=by
  show [80].size + 1<=_;rw [if_pos ((uk0 k.rid x).mpr m),wm0 k.rid hi,<- length_toList,yc1,length_append,length_take,length_drop,length_toList];omega
 omega
theorem zh1 (mask:Nat) (h:Int) (owner:Array (Option Nat)):∀ (fuel n i p:Nat),trS mask h n=seg mask i p->(∃ K,K < fuel /\ owner.getD (lp mask K (i,p)).1 (some 0)=none) ->
    ∃ m,SetTable.layClean.free mask owner fuel i p=some (tr mask h m) /\ n<=m /\ owner.getD (tr mask h m) (some 0)=none /\ ∀ l,n<=l->l < m->owner.getD (tr mask h l) (some 0) ≠ none
 | 0,n,i,p,e,c=>by obtain ⟨K,a,_⟩:=c; omega
 | fuel + 1,n,i,p,e,c=>by
  have trk:∀ k,k<=SetTable.runEnd mask i - i->tr mask h (n + k)=i + k:=λ k hk=>by
   show (trS mask h (n + k)).j=_;rw [uz0 e k hk]
  have rl:=xw4 mask i;unfold SetTable.layClean.free;cases hf:(List.range (SetTable.runEnd mask i + 1 - i)).find? (λ k=>(owner.getD (i + k) (some 0)).isNone) with
  | some k =>
   dsimp only;obtain ⟨h1,h2,h3⟩:=List.find?_range_eq_some.mp hf;have h2':k < SetTable.runEnd mask i + 1 - i:=List.mem_range.mp h2;refine ⟨n + k,by rw [trk k [7]],by omega,by rw [trk k [7]]; simpa using h1,λ l a b=>?_⟩;obtain ⟨l',rfl⟩:∃ l',l=n + l':=⟨l - n,by omega⟩;rw [trk l' [7]];have:=h3 l' [7];intro z;rw [z] at this;simp at this
  | none =>
   dsimp only;have h1:=List.find?_range_eq_none.mp hf
   have h1':∀ k,k<=SetTable.runEnd mask i - i->owner.getD (i + k) (some 0) ≠ none:=λ k hk z=>by
    have:=h1 k [7];rw [z] at this;simp at this
   have c':∃ K,K < fuel /\ owner.getD (lp mask K (SetTable.leap mask i p)).1 (some 0)=none:=by
    obtain ⟨K,a,b⟩:=c;cases K with
    | zero=>exact absurd b (h1' 0 (Nat.zero_le _))
    | succ K=>exact ⟨K,by omega,b⟩
   obtain ⟨m,a1,a2,a3,a4⟩:=zh1 mask h owner fuel _ _ _ (yq0 e) c';refine ⟨m,a1,by omega,a3,λ l b1 b2=>?_⟩;by_cases z:l<=n + (SetTable.runEnd mask i - i)
   ·obtain ⟨l',rfl⟩:∃ l',l=n + l':=⟨l - n,by omega⟩;rw [trk l' [7]];exact h1' l' [7]
   ·exact a4 l [7] b2
theorem tl3 {α β:Type} {f:α->Option β}:∀ {L:List α},(∀ j ∈ L,f j ≠ none)->(L.filterMap f).length=L.length
 | [],_=>rfl
 | j :: L,h=>by
  have h1:=h j (mem_cons_self ..);obtain ⟨b,hb⟩:∃ b,f j=some b:=by cases hq:f j with | none=>exact absurd hq h1 | some b=>exact ⟨b,rfl⟩
  rw [List.filterMap_cons_some hb,length_cons,length_cons,tl3 λ x hx=>h x (mem_cons_of_mem _ hx)]
theorem tb1 {α β:Type} {f g:α->Option β}:∀ {L:List α},(∀ j ∈ L,f j=g j)->L.filterMap f=L.filterMap g
 | [],_=>rfl
 | j :: L,h=>by
  rw [filterMap_cons,filterMap_cons,h j (mem_cons_self ..),tb1 λ x hx=>h x (mem_cons_of_mem _ hx)]
theorem ul3 {f g:Nat->Option Nat} {x k:Nat} (e1:f x=none) (e2:g x=some k) (e3:∀ y,y ≠ x->g y=f y):∀ {L:List Nat},L.Nodup->x ∈ L->(L.filterMap g).Perm (k :: L.filterMap f)
 | [],_,h=>by cases h
 | y :: L,nd,h=>by
  obtain ⟨n1,n2⟩:=List.nodup_cons.mp nd;by_cases c:y=x
  ·subst c;rw [List.filterMap_cons_some e2,List.filterMap_cons_none e1];refine List.Perm.cons _ (List.Perm.of_eq ?_);exact tb1 λ j hj=>e3 j λ z=>n1 (z ▸ hj)
  ·have ih:=ul3 e1 e2 e3 n2 (by rcases List.mem_cons.mp h with rfl | h; exact absurd rfl c; exact h);have e:=e3 y c;cases hf:f y with
   | none=>rw [List.filterMap_cons_none (by rw [e,hf]),List.filterMap_cons_none hf]; exact ih
   | some b =>
    rw [List.filterMap_cons_some (by rw [e,hf]),List.filterMap_cons_some hf];exact (List.Perm.cons _ ih).trans (List.Perm.swap _ _ _)
structure OwnOk (mask:Nat) (hs:List Int) (owner:Array (Option Nat)):Prop where
 sz:owner.size=mask + 1
 perm:((List.range (mask + 1)).filterMap λ j=>owner.getD j none).Perm (List.range hs.length)
 reach:∀ j k,owner.getD j none=some k->∃ h,hs[k]?=some h /\ ∃ m,tr mask h m=j /\ ∀ l,l < m->owner.getD (tr mask h l) none ≠ none
variable {owner:Array (Option Nat)}
theorem ub1 {j:Nat} (h:j < owner.size) (a b:Option Nat):owner.getD j a=owner.getD j b:=by simp [Array.getD,h]
theorem OwnOk.step (hm:mask ∈ okM) (k:OwnOk mask hs owner) (hl:hs.length<=mask) (h:Int) :
    ∃ x,SetTable.layClean.free mask owner (SetTable.turns mask) (SetTable.bits h % (mask + 1)) (SetTable.bits h)=some x /\ OwnOk mask (hs ++ [h]) (owner.setIfInBounds x (some hs.length)):=by
 have sz:=k.sz
 obtain ⟨e,he,ee⟩:∃ e,e<=mask /\ owner.getD e none=none:=by
  refine Classical.byContradiction λ c=>?_;have h1:=tl3 (f:=λ j=>owner.getD j none) (L:=List.range (mask + 1)) λ j hj z=>c ⟨j,by have:=List.mem_range.mp hj; omega,z⟩;rw [k.perm.length_eq,length_range,length_range] at h1;omega
 have hi:SetTable.bits h % (mask + 1)<=mask:=by have:=Nat.mod_lt (SetTable.bits h) (show mask + 1 > 0 by omega); omega
 obtain ⟨K,hK,eK⟩:=tq1 hm hi (yr2 h) he;obtain ⟨m,a1,a2,a3,a4⟩:=zh1 mask h owner (SetTable.turns mask) 0 _ _ (te1 mask h) ⟨K,by unfold SetTable.turns; omega,by rw [eK,ub1 [7] _ none]; exact ee⟩;have ml:∀ l,tr mask h l < owner.size:=λ l=>by have:=vo3 (mask:=mask) h l; omega
 have a3':owner.getD (tr mask h m) none=none:=by rw [ub1 (ml m) _ (some 0)]; exact a3
 have gx:(owner.setIfInBounds (tr mask h m) (some hs.length)).getD (tr mask h m) none=some hs.length:=by
  have:=ml m;simp [Array.getD,this]
 have gy:∀ y,y ≠ tr mask h m->(owner.setIfInBounds (tr mask h m) (some hs.length)).getD y none=owner.getD y none:=λ y hy=>by
  by_cases c:y < owner.size
  ·simp [Array.getD,c,Array.getElem_setIfInBounds,Ne.symm hy]
  ·simp [Array.getD,c]
 have mono:∀ y,owner.getD y none ≠ none->(owner.setIfInBounds (tr mask h m) (some hs.length)).getD y none ≠ none:=λ y hy=>by
  by_cases c:y=tr mask h m
  ·subst c; rw [gx]; intro z; cases z
  ·rw [gy y c]; exact hy
 refine ⟨tr mask h m,a1,by rw [Array.size_setIfInBounds]; exact sz,?_,λ j q e=>?_⟩
 ·refine (ul3 a3' gx gy List.nodup_range (List.mem_range.mpr (by have:=ml m; omega))).trans ?_;rw [length_append,List.length_singleton];exact ((List.Perm.cons _ k.perm).trans (List.perm_append_singleton _ _).symm).trans (List.Perm.of_eq List.range_succ.symm)
 ·by_cases c:j=tr mask h m
  ·subst c;rw [gx] at e;cases e;refine ⟨h,by simp,m,rfl,λ l hl=>mono _ ?_⟩;have:=a4 l (Nat.zero_le _) hl;rw [ub1 (ml l) _ none] at this;exact this
  ·rw [gy j c] at e;obtain ⟨h',b1,m',b2,b3⟩:=k.reach j q e;refine ⟨h',?_,m',b2,λ l hl=>mono _ (b3 l hl)⟩;rw [List.getElem?_append_left (List.getElem?_eq_some_iff.mp b1).1];exact b1
theorem wn2 {mask:Nat} (hm:mask ∈ okM):∀ (rest done:List Int) (owner:Array (Option Nat)),OwnOk mask done owner->done.length + rest.length<=mask + 1 ->
    ∃ owner',List.foldl (λ acc h=>do
     let (owner,k) <- acc
     let j <- SetTable.layClean.free mask owner (SetTable.turns mask) (SetTable.bits h % (mask + 1)) (SetTable.bits h)
     pure (owner.setIfInBounds j (some k),k + 1)) (some (owner,done.length)) rest=some (owner',done.length + rest.length) /\ OwnOk mask (done ++ rest) owner'
 | [],done,owner,k,_=>⟨owner,rfl,by rw [append_nil]; exact k⟩
 | h :: rest,done,owner,k,hl=>by
  rw [length_cons] at hl;obtain ⟨x,e,k'⟩:=k.step hm [7] h;obtain ⟨o',e',k''⟩:=wn2 hm rest (done ++ [h]) _ k' (by rw [length_append,List.length_singleton]; omega);refine ⟨o',?_,by rw [append_assoc] at k''; exact k''⟩;rw [length_append,List.length_singleton] at e';rw [List.foldl_cons,length_cons,show done.length + (rest.length + 1)=done.length + 1 + rest.length by omega,<- e'];simp only [bind,Option.bind,e,pure]
theorem own0 (mask:Nat):OwnOk mask [] (Array.replicate (mask + 1) none):=by
 have g:∀ j,(Array.replicate (mask + 1) (none:Option Nat)).getD j none=none:=λ j=>by
  by_cases c:j < mask + 1 <;> simp [Array.getD,c]
 refine ⟨by simp,?_,λ j k e=>by rw [g] at e; cases e⟩;rw [List.filterMap_eq_nil_iff.mpr λ j _=>g j];exact List.Perm.refl _
theorem tl1 (hm:mask ∈ okM) (hs:Array Int) (hl:hs.size<=mask + 1):∃ owner,SetTable.layClean mask hs=some owner /\ OwnOk mask hs.toList owner:=by
 obtain ⟨o,e,k⟩:=wn2 hm hs.toList [] _ (own0 mask) (by simpa using hl);refine ⟨o,?_,by simpa using k⟩;unfold SetTable.layClean;rw [<- Array.foldl_toList];rw [length_nil] at e;rw [e];rfl
theorem yc4 (hm:mask ∈ okM) (hs:Array Int) (hl:hs.size<=mask + 1) (fi mo:Nat) (le pl:Bool) :
    ∃ t' order,SetTable.laid mask fi mo le pl hs=some (t',order) /\ t'.mask=mask /\ t'.dummies = #[] /\ t'.led=le /\ t'.plain=pl /\ t'.finger=fi /\ t'.moves=mo /\ order.toList.Perm (List.range hs.size) /\ TOk t' (order.toList.map λ k=>hs.getD k 0):=by
 obtain ⟨o,e,k⟩:=tl1 hm hs hl;unfold SetTable.laid;rw [e];refine ⟨_,_,rfl,rfl,rfl,rfl,rfl,rfl,rfl,?_,?_⟩
 ·have:(((List.range (mask + 1)).filterMap λ j=>(o.getD j none).map (j,·)).map (·.2))=(List.range (mask + 1)).filterMap λ j=>o.getD j none:=by
    rw [List.map_filterMap];refine tb1 λ j _=>?_;cases o.getD j none <;> rfl
  simp only [List.toList_toArray];rw [this];simpa using k.perm
 ·generalize hlv:((List.range (mask + 1)).filterMap λ j=>(o.getD j none).map (j,·))=live
  have lget:∀ x,x ∈ live->x.1<=mask /\ o.getD x.1 none=some x.2:=λ x hx=>by
   rw [<- hlv] at hx;obtain ⟨j,hj,ej⟩:=List.mem_filterMap.mp hx;cases hq:o.getD j none with
   | none=>rw [hq] at ej; cases ej
   | some b=>rw [hq] at ej; cases ej; exact ⟨by have:=List.mem_range.mp hj; show j<=mask; omega,hq⟩
  have lin:∀ j q,j<=mask->o.getD j none=some q->j ∈ live.map (·.1):=λ j q hj eq=>by
   rw [<- hlv];exact List.mem_map.mpr ⟨(j,q),List.mem_filterMap.mpr ⟨j,List.mem_range.mpr [7],by rw [eq]; rfl⟩,rfl⟩
  have pw:(live.map (·.1)).Pairwise (· < ·):=by
   rw [<- hlv,List.map_filterMap,List.pairwise_filterMap];refine List.pairwise_lt_range.imp_of_mem ?_
   ·intro a b ha hb hab x hx y hy;cases hq:o.getD a none with
    | none=>rw [hq] at hx; cases hx
    | some u =>
     cases hq2:o.getD b none with
     | none=>rw [hq2] at hy; cases hy
     | some v=>rw [hq] at hx; rw [hq2] at hy; cases hx; cases hy; exact hab
  refine ⟨by simpa [Rise] using pw,List.Pairwise.nil,λ j z=>by simp at z,λ j z=>?_,λ j z=>by simp at z,hm,by simp,λ i j h a b=>?_⟩
  ·have z':j ∈ live.map (·.1):=by simpa using z
   obtain ⟨x,hx,rfl⟩:=List.mem_map.mp z';exact (lget x hx).1
  ·have a':(live.map (·.1))[i]?=some j:=by simpa using a
   have b':((live.map (·.2)).map λ k=>hs.getD k 0)[i]?=some h:=by simpa using b
   rw [getElem?_map] at a' b';rw [getElem?_map] at b';cases hx:live[i]? with
   | none=>rw [hx] at a'; cases a'
   | some x =>
    rw [hx] at a' b';have a2:x.1=j:=by simpa using a'
    have b2:hs.getD x.2 0=h:=by simpa using b'
    obtain ⟨g1,g2⟩:=lget x (List.mem_of_getElem? hx);obtain ⟨h',c1,m,c2,c3⟩:=k.reach _ _ g2
    have hh:h'=h:=by
     rw [<- b2];rw [getElem?_toList] at c1;obtain ⟨hl1,hl2⟩:=Array.getElem?_eq_some_iff.mp c1;simp [Array.getD,hl1,hl2]
    subst hh;refine ⟨m,by rw [c2,a2],λ l hl=>.inl ?_⟩;have c4:=c3 l hl;cases hq:o.getD (tr mask h' l) none with
    | none=>exact absurd hq c4
    | some q=>simpa using lin _ q (vo3 h' l) hq
theorem yf1:∀ n,n < 512->SetTable.sizeAbove (n * 4) - 1 ∈ okM /\ n * 5 < (SetTable.sizeAbove (n * 4) - 1) * 3 /\ SetTable.sizeAbove (n * 4)<=2048:=by
 have:((List.range 512).all λ n=>decide (SetTable.sizeAbove (n * 4) - 1 ∈ okM /\ n * 5 < (SetTable.sizeAbove (n * 4) - 1) * 3 /\ SetTable.sizeAbove (n * 4)<=2048))=true:=by decide +kernel
 intro n hn;exact of_decide_eq_true (List.all_eq_true.mp this n (List.mem_range.mpr hn))
end Pv
namespace Pv
open PySem PySem.Spec PySem.W PyProof.Rows L2
class TKy (α:Type) where
 kI:α->List Int
 inj:∀ {a b:α},kI a=kI b->a=b
 dd:α
instance tky3:TKy T3 where
 kI:=λ t=>[t.1,t.2.1,t.2.2]
 inj:=λ {a b} h=>by
  injection h with h1 h2
  injection h2 with h2 h3
  injection h3 with h3
  exact Prod.ext h1 (Prod.ext h2 h3)
 dd:=(0,0,0)
variable {prog:[83]} {w:World} {A:Around} {E:[9]} {s:[88]} {b a:Addr} {Q:Bool->Shared->Prop} {h h':Heap}
section
variable {α:Type} [TKy α] 
abbrev TK (prog:[83]) (w:World) (h:Heap) (t:α) (a:Addr):Prop:=IsTupleKey (intKind prog w) h (TKy.kI t) a
def hT (prog:[83]) (w:World) (t:α):Int:=tupleKeyHash (intKind prog w) (TKy.kI t)
theorem yd4 {k:α} {Q:Int->Shared->Prop} (hu:A.units < cLine) (i:TK prog w s.heap k b) (h:∀ tk,Q (hT prog w k) { s with toks:=tk }):wpAny [13] A (pyHash (.ref b)) Q E s:=wpAny_pyHash_tuple hu i (h _)
theorem IsT3.key {t:T3} (i:IsT3 h (.ref a) t):TK prog w h t a:=by
 obtain ⟨a',o,t1,t2,t3,n,e1,e2,e3,e4⟩:=i;cases e1;exact ⟨o,_,n,e2,e3,e4,.cons (intKind_is ..) (.cons (intKind_is ..) (.cons (intKind_is ..) .nil))⟩
theorem vr1 {k:Int} {v:Value} (z:(intKind prog w).is k v=true):∃ tk,v=.int k tk:=by
 cases v <;> simp [intKind,Value.isInt] at z;exact ⟨_,by rw [z]⟩
theorem TK.t3 {h:Heap} {a:Addr} {t:T3} (i:TK prog w h t a):IsT3 h (.ref a) t:=by
 obtain ⟨o,items,n,e1,e2,e3,e4⟩:=i;obtain ⟨it⟩:=items;cases e4 with
 | cons a1 e4 =>
  cases e4 with
  | cons a2 e4 =>
   cases e4 with
   | cons a3 e4 =>
    cases e4;obtain ⟨t1,rfl⟩:=vr1 a1;obtain ⟨t2,rfl⟩:=vr1 a2;obtain ⟨t3,rfl⟩:=vr1 a3;exact ⟨a,o,t1,t2,t3,n,rfl,e1,e2,e3⟩
theorem TK.kept {t:α} (k:∀ o,h.get? a=some o->o.cls=.type "tuple" -> h'.get? a=some o) (i:TK prog w h t a):TK prog w h' t a:=by
 obtain ⟨o,items,n,e1,e2,e3⟩:=i;exact ⟨o,items,n,k o e1 e2,e2,e3⟩
theorem zq0 (h:Q true s):wpAny [13] A (isSame (.ref a) (.ref a)) Q E s:=by
 unfold isSame;dsimp only;rw [if_pos (beq_self_eq_true a)];exact wpAny_pure h
theorem TK.items {h:Heap} {a:Addr} {t:α} (i:TK prog w h t a):∃ o its n,h.get? a=some o /\ o.cls=.type "tuple" /\ o.data=.seq its n /\ ∀ v ∈ its.toList,∃ i t,v=Value.int i t:=by
 obtain ⟨o,items,n,e1,e2,e3,e4⟩:=i;refine ⟨o,items,n,e1,e2,e3,?_⟩;generalize items.toList=l at e4;generalize TKy.kI t=ks at e4
 induction e4 with
 | nil=>exact λ v h=>nomatch h
 | cons a _ ih =>
  intro v hv;rcases List.mem_cons.mp hv with e | hv
  ·subst e; obtain ⟨tk,e⟩:=vr1 a; exact ⟨_,tk,e⟩
  ·exact ih v hv
theorem um3 {t:α} (i:TK prog w s.heap t a) (h:Q false s):wpAny [13] A (ofAClassStatement 8 (.ref a)) Q E s:=by
 have ty:=i.typeIs;obtain ⟨o,its,n,e1,e2,e3,e4⟩:=i.items;unfold ofAClassStatement;refine wpAny_bind (wpAny_typeOf ty ?_);dsimp only;rw [if_pos [8]];refine wpAny_bind [35];rw [if_neg [8]];refine wpAny_bind (wpAny_seqItems e1 e3 ?_);dsimp only;refine wpAny_bind ?_;rw [<- Array.forIn_toList];refine wpAny_forIn_list _ (λ rest r s'=>r.1=none /\ s'=s /\ ∀ v ∈ rest,carriedByValue v=true) _ ?_ ?_ _ _ ⟨rfl,rfl,λ v hv=>by obtain ⟨i,t,rfl⟩:=e4 v hv; rfl⟩
 ·rintro v rest r s' ⟨hr,rfl,hall⟩;have hv:=hall v mem_cons_self
  have hq:ofAClassStatement 7 v=pure false:=by
   cases v with
   | ref a=>simp [carriedByValue] at hv
   | _=>first | rfl | simp [ofAClassStatement] | (unfold ofAClassStatement; rfl)
  rw [hq];refine wpAny_bind [35];simp only [Bool.false_eq_true,if_false];exact wpAny_pure ⟨rfl,rfl,λ u hu'=>hall u (mem_cons_of_mem _ hu')⟩
 ·rintro ⟨r1,r2⟩ s' ⟨hr,rfl,_⟩;simp only at hr;subst hr;exact wpAny_pure h
theorem yt3 {k:α} {stored:[27]} (i:TK prog w s.heap k b) (hs:∀ v ∈ stored,∃ (t:α) (a:Addr),v=.ref a /\ TK prog w s.heap t a) (h:Q false s) :
    wpAny [13] A (searchCouldBeSeen (.ref b) stored) Q E s:=by
 unfold searchCouldBeSeen;refine wpAny_bind ?_;refine wpAny_forIn_list _ (λ rest r s'=>r.1=none /\ s'=s /\ ∀ v ∈ rest,∃ (t:α) (a:Addr),v=.ref a /\ TK prog w s.heap t a) _ ?_ ?_ _ _ ⟨rfl,rfl,hs⟩
 ·rintro v rest r s' ⟨hr,rfl,hall⟩;obtain ⟨t,a,rfl,hv⟩:=hall v mem_cons_self;have tl:=λ u hu'=>hall u (mem_cons_of_mem _ hu');dsimp only;split
  ·exact wpAny_pure ⟨rfl,rfl,tl⟩
  ·refine wpAny_bind (wpAny_eqIsQuiet_tuple i ?_);simp only [Bool.not_true,Bool.false_eq_true,if_false];refine wpAny_bind (wpAny_eqIsQuiet_tuple hv ?_);simp only [Bool.not_true,Bool.false_eq_true,if_false];refine wpAny_bind (um3 i ?_);simp only [Bool.false_eq_true,if_false];refine wpAny_bind (um3 hv ?_);simp only [Bool.false_eq_true,if_false];exact wpAny_pure ⟨rfl,rfl,tl⟩
 ·rintro ⟨r1,r2⟩ s' ⟨hr,rfl,_⟩;simp only at hr;subst hr;exact wpAny_pure h
theorem xf3 {t:α} (i:TK prog w s.heap t a) (h:Q true s):wpAny [13] A (hashByValue 8 (.ref a)) Q E s:=by
 have ty:=i.typeIs;obtain ⟨o,its,n,e1,e2,e3,e4⟩:=i.items;unfold hashByValue;refine wpAny_bind (wpAny_specialOf ty F.slot_tuple_hash.lookup ?_);show wpAny _ _ (seqItems? (.ref a) >>= _) _ _ s;refine wpAny_bind (wpAny_seqItems e1 e3 ?_);refine wpAny_bind ?_;show wpAny _ _ (forIn its _ _) _ _ s;rw [<- Array.forIn_toList];refine wpAny_forIn_list _ (λ rest r s'=>r.1=none /\ s'=s /\ ∀ v ∈ rest,∃ i t,v=Value.int i t) _ ?_ ?_ _ _ ⟨rfl,rfl,e4⟩
 ·rintro v rest r s' ⟨hr,rfl,hall⟩;obtain ⟨j,tk,rfl⟩:=hall v mem_cons_self;have hq:hashByValue 7 (.int j tk)=pure true:=by unfold hashByValue; rfl
  rw [hq];refine wpAny_bind [35];simp only [Bool.not_true,Bool.false_eq_true,if_false];exact wpAny_pure ⟨rfl,rfl,λ u hu'=>hall u (mem_cons_of_mem _ hu')⟩
 ·rintro ⟨r1,r2⟩ s' ⟨hr,rfl,_⟩;simp only at hr;subst hr;exact wpAny_pure h
end
def bT (prog:[83]) (w:World):Bool:=[13].w.params.followText "set-order"
abbrev ent {α:Type} (hf:α->Int) (x:α × Addr):Int × Value:=(hf x.1,.ref x.2)
structure SetIs {α:Type} [TKy α] (prog:Program) (w:World) (hf:α->Int) (h:Heap) (a:Addr) (o:Obj) (es:Array (Int × Value)) (ep:Nat) (t:SetTable) (xs:List (α × Addr)):Prop where
 ho:h.get? a=some o
 ex:o.ExactSet
 hd:o.data=.set es ep t
 el:es.toList=xs.map (ent hf)
 ks:∀ x ∈ xs,TK prog w h x.1 x.2
 nd:(xs.map (·.1)).Nodup
 ok:TOk t (xs.map λ x=>hf x.1)
 rm:t.fill<=t.mask
 pl:t.plain=true
 le:t.led = !bT prog w
variable {o:Obj} {es:Array (Int × Value)} {ep n:Nat} {d:Option Nat} {adding:Bool}
section
variable {α:Type} [TKy α] {t:SetTable} {xs:List (α × Addr)} {hf:α->Int}
theorem SetIs.at (S:SetIs prog w hf h a o es ep t xs) (i:Nat):es[i]?=(xs[i]?).map (ent hf):=by rw [<- getElem?_toList,S.el,getElem?_map]
theorem SetIs.size {h:Heap} (S:SetIs prog w hf h a o es ep t xs):es.size=xs.length:=by rw [<- length_toList,S.el,length_map]
theorem SetIs.fits {h:Heap} (S:SetIs prog w hf h a o es ep t xs):t.fits es.size=true:=by
 have h1:=S.ok.sz;have h2:=S.size;have h3:=S.rm;rw [length_map] at h1;simp [SetTable.fits,h1,h2,h3]
theorem SetIs.odd (S:SetIs prog w hf h a o es ep t xs):t.gaveWay=false:=by
 have:∀ m ∈ okM,(m % 2 == 0)=false:=by decide
 exact this _ S.ok.msk
theorem xg1 {f:Nat->Int} {h:Int} {hs:List Int} {r:Option SetTable.Met} (k:TOk t hs) (rm:t.fill<=t.mask) (kd:DumOk t h d n) (e:t.probe f h { trS t.mask h n with dummy:=d }=r) :
    (∃ m d',r=some (.empty (tr t.mask h m) d') /\ n<=m /\ t.slot (tr t.mask h m)=.empty /\ Sk t f h n m /\ DumOk t h d' m) ∨
    (∃ m i d',r=some (.candidate (tr t.mask h m) i { trS t.mask h (m + 1) with dummy:=d' }) /\ n<=m /\ t.slot (tr t.mask h m)=.live i /\ f i=h /\ Sk t f h n m /\ DumOk t h d' m):=by
 subst e;exact k.probe rm f h n d kd
def Hist (hf:α->Int) (t:SetTable) (xs:List (α × Addr)) (k:α) (n:Nat):Prop:=∀ l,l < n->t.slot (tr t.mask (hf k) l) ≠ .empty /\ ∀ i,t.slot (tr t.mask (hf k) l)=.live i->∀ x,xs[i]?=some x->x.1 ≠ k
theorem zk1 {k:α} {Q:SetFound->Shared->Prop} (hu:A.units < cLine) (S:SetIs prog w hf s.heap a o es ep t xs) (hk:TK prog w s.heap k b)
    (found:∀ i b',xs[i]?=some (k,b')->Q (.there (if adding then none else some i)) s)
    (free:[36])
    {fuel:Nat} {stand:Option SetTable.Probe} (kd:DumOk t (hf k) d n) (hist:Hist hf t xs k n) (st:stand.getD (t.probeStart (hf k))={ trS t.mask (hf k) n with dummy:=d })
    (ih:∀ (n':Nat) (d':Option Nat) (stand':Option SetTable.Probe),n < n'->DumOk t (hf k) d' n'->Hist hf t xs k n'->stand'.getD (t.probeStart (hf k))={ trS t.mask (hf k) n' with dummy:=d' } ->
     wpAny [13] A (setSearchFrom a (.ref b) (hf k) adding fuel stand') Q E s) :
    wpAny [13] A (setSearchFrom a (.ref b) (hf k) adding (fuel + 1) stand) Q E s:=by
 have hist':∀ {f:Nat->Int} {m:Nat},(∀ i,f i=((es[i]?).map (·.1)).getD 0)->Sk t f (hf k) n m->∀ l,l < m->t.slot (tr t.mask (hf k) l) ≠ .empty /\ ∀ i,t.slot (tr t.mask (hf k) l)=.live i->∀ x,xs[i]?=some x->x.1 ≠ k:=λ {f m} hf sk l hl=>by
  by_cases c:l < n
  ·exact hist l c
  ·obtain ⟨b1,b2⟩:=sk l [7] hl;refine ⟨b1,λ i e x hx z=>b2 i e ?_⟩;rw [hf,S.at,hx,Option.map_some,Option.map_some,Option.getD_some,<- z]
 unfold setSearchFrom;refine wpAny_bind [49];dsimp only;rw [S.odd,st];simp only [Bool.false_eq_true,if_false];split
 ·next met heq =>
  rcases xg1 S.ok S.rm kd heq with ⟨m,d',e,a1,a2,a3,a4⟩ | ⟨m,i,d',e,a1,a2,a3,a4,a5⟩
  ·cases e;have H:=hist' (λ _=>rfl) a3
   have nk:k ∉ xs.map (·.1):=λ z=>by
    obtain ⟨x,hx,ek⟩:=List.mem_map.mp z;obtain ⟨i,hi⟩:=List.mem_iff_getElem?.mp hx;have hlt:i < t.place.size:=by rw [S.ok.sz,length_map]; exact (List.getElem?_eq_some_iff.mp hi).1
    have hp:t.place[i]?=some t.place[i]:=Array.getElem?_eq_getElem hlt;obtain ⟨m',q1,q2⟩:=S.ok.reach i _ (hf k) hp (by rw [getElem?_map,hi]; show some (hf x.1)=_; rw [ek]);have hl:=(se1 S.ok.ris).mpr hp;rw [<- q1] at hl;by_cases c:m' < m
    ·exact (H m' c).2 i hl x hi ek
    ·by_cases c2:m=m'
     ·subst c2; rw [a2] at hl; cases hl
     ·exact (S.ok.occ _).mp (q2 m [7]) a2
   have oc:∀ l,l < m->Occ t (tr t.mask (hf k) l):=λ l hl=>(S.ok.occ _).mpr (H l hl).1;cases d' with
   | none=>exact wpAny_pure (free _ false nk ((ww0 S.ok.ris S.ok.rid).mp a2).1 ⟨m,rfl,oc⟩ (λ z=>by cases z))
   | some x =>
    obtain ⟨l,b1,b2,b3⟩:=a4 x rfl;dsimp only;rw [b3];simp only [bne_self_eq_false,Bool.and_false,Bool.false_eq_true,if_false];refine wpAny_pure (free x true nk (S.ok.dj x ((vw0 S.ok.ris S.ok.rid (S.ok.dj x)).mp b3)) ⟨l,b2,λ l' hl=>oc l' [7]⟩ (λ _=>b3))
  ·cases e;have H:=hist' (λ _=>rfl) a4;have hp:=(se1 S.ok.ris).mp a2;have hlt:i < xs.length:=by have:=(Array.getElem?_eq_some_iff.mp hp).1; rw [S.ok.sz,length_map] at this; exact this
   obtain ⟨x,hx⟩:∃ x,xs[i]?=some x:=⟨_,getElem?_eq_getElem hlt⟩;have he:es[i]?=some (ent hf x):=by rw [S.at,hx]; rfl
   have hkx:=S.ks x (List.mem_of_getElem? hx);have sm:t.sameMemory t.moves t.mask=some true:=by unfold SetTable.sameMemory; simp
   have sto:∀ v ∈ List.map (λ x=>x.snd) (Array.filter (λ x=>x.fst == hf k) es).toList,∃ (t:α) (a:Addr),v=.ref a /\ TK prog w s.heap t a:=λ v hv=>by
    obtain ⟨y,hy,rfl⟩:=List.mem_map.mp hv
    have hy':y ∈ es.toList:=by
     rw [Array.toList_filter] at hy;exact (List.mem_filter.mp hy).1
    rw [S.el] at hy';obtain ⟨z,hz,rfl⟩:=List.mem_map.mp hy';exact ⟨z.1,z.2,rfl,S.ks z hz⟩
   dsimp only;split
   ·refine wpAny_bind (yt3 hk sto ?_);simp only [Bool.false_eq_true,if_false];rw [he];dsimp only;refine wpAny_bind (wpAny_holding (wpAny_eqBool_tuple hu hkx hk ?_));refine wpAny_bind [49];dsimp only;by_cases c:x.1=k
    ·rw [decide_eq_true (congrArg TKy.kI c)];have fd:=found i x.2 (by rw [hx,<- c]);cases adding
     ·rw [sm];simp only [Bool.false_and,Bool.false_eq_true,if_false,if_true];rw [a2];dsimp only;rw [he];dsimp only;refine wpAny_bind (zq0 (wpAny_bind [35]));exact wpAny_pure fd
     ·exact wpAny_pure fd
    ·rw [decide_eq_false (λ z=>c (TKy.inj z)),sm];simp only [Bool.and_false,Bool.false_eq_true,if_false,if_true];rw [a2];dsimp only;rw [he];dsimp only;refine wpAny_bind (zq0 (wpAny_bind [35]));refine ih (m + 1) d' _ [7] (a5.up (Nat.le_succ _)) (λ l hl=>?_) rfl;by_cases c2:l < m
     ·exact H l c2
     ·have:l=m:=by omega
      subst this;refine ⟨(by rw [a2]; intro z; cases z),λ i' z y hy=>?_⟩;rw [a2] at z;cases z;rw [hx] at hy;cases hy;exact c
   ·rw [he];dsimp only;refine wpAny_bind (wpAny_holding (wpAny_eqBool_tuple hu hkx hk ?_));refine wpAny_bind [49];dsimp only;by_cases c:x.1=k
    ·rw [decide_eq_true (congrArg TKy.kI c)];have fd:=found i x.2 (by rw [hx,<- c]);cases adding
     ·rw [sm];simp only [Bool.false_and,Bool.false_eq_true,if_false,if_true];rw [a2];dsimp only;rw [he];dsimp only;refine wpAny_bind (zq0 (wpAny_bind [35]));exact wpAny_pure fd
     ·exact wpAny_pure fd
    ·rw [decide_eq_false (λ z=>c (TKy.inj z)),sm];simp only [Bool.and_false,Bool.false_eq_true,if_false,if_true];rw [a2];dsimp only;rw [he];dsimp only;refine wpAny_bind (zq0 (wpAny_bind [35]));refine ih (m + 1) d' _ [7] (a5.up (Nat.le_succ _)) (λ l hl=>?_) rfl;by_cases c2:l < m
     ·exact H l c2
     ·have:l=m:=by omega
      subst this;refine ⟨(by rw [a2]; intro z; cases z),λ i' z y hy=>?_⟩;rw [a2] at z;cases z;rw [hx] at hy;cases hy;exact c
 ·next hne =>
  rcases xg1 S.ok S.rm kd rfl with ⟨m,d',e,a1,a2,a3,a4⟩ | ⟨m,i,d',e,a1,a2,a3,a4,a5⟩
  ·exact (hne _ e).elim
  ·exact (hne _ e).elim
theorem vf2 {k:α} {Q:SetFound->Shared->Prop} (hu:A.units < cLine) (S:SetIs prog w hf s.heap a o es ep t xs) (hk:TK prog w s.heap k b)
    (found:∀ i b',xs[i]?=some (k,b')->Q (.there (if adding then none else some i)) s)
    (free:[36])
    (N:Nat) (hN:t.slot (tr t.mask (hf k) N)=.empty) (r:Nat):∀ (fuel n:Nat) (d:Option Nat) (stand:Option SetTable.Probe),N < n + r->r<=fuel->DumOk t (hf k) d n->Hist hf t xs k n ->
    stand.getD (t.probeStart (hf k))={ trS t.mask (hf k) n with dummy:=d } ->
    wpAny [13] A (setSearchFrom a (.ref b) (hf k) adding fuel stand) Q E s:=by
 induction r with
 | zero =>
  intro fuel n d stand h1 h2 kd hist st;exact absurd hN (hist N [7]).1
 | succ r ih =>
  intro fuel n d stand h1 h2 kd hist st;cases fuel with
  | zero=>omega
  | succ fuel=>exact zk1 hu S hk found free kd hist st λ n' d' stand' a1 a2 a3 a4=>ih fuel n' d' stand' [7] [7] a2 a3 a4
end
section
variable {α:Type} [TKy α] {t:SetTable} {xs:List (α × Addr)} {hf:α->Int}
theorem ta1:∀ m ∈ okM,7<=m /\ m<=4095:=by decide
theorem zf1 {k:α} {Q:SetFound->Shared->Prop} (hu:A.units < cLine) (S:SetIs prog w hf s.heap a o es ep t xs) (hk:TK prog w s.heap k b)
    (found:∀ i b',xs[i]?=some (k,b')->Q (.there (if adding then none else some i)) s)
    (free:[36]) :
    wpAny [13] A (setSearch a (.ref b) (hf k) adding) Q E s:=by
 obtain ⟨e,he,ee⟩:=S.ok.hole S.rm;obtain ⟨N,_,h2,h3⟩:=yo1 S.ok.msk (hf k) 0 he;have hm:=ta1 _ S.ok.msk;unfold SetTable.turns at h2;unfold setSearch;refine vf2 hu S hk found free N (by rw [h3]; exact ee) (N + 1) _ 0 none none [7] [7] (λ x z=>by cases z) (λ l hl=>absurd hl (Nat.not_lt_zero _)) ?_;rfl
theorem zt3 (b:Addr) (es:Array (Int × Value)):byScan (.ref b) es=false:=by simp [byScan,Value.scannable]
theorem SetIs.store (S:SetIs prog w hf h a o es ep t xs) {xs':List (α × Addr)} {es':Array (Int × Value)} {t':SetTable} (el:es'.toList=xs'.map (ent hf)) (ks:∀ x ∈ xs',TK prog w h x.1 x.2) (nd:(xs'.map (·.1)).Nodup)
    (ok:TOk t' (xs'.map λ x=>hf x.1)) (rm:t'.fill<=t'.mask) (pl:t'.plain=true) (le:t'.led = !bT prog w) :
    SetIs prog w hf (h.update a (Obj.putSet es' t')) a { o with data:=.set es' (ep + 1) t' } es' (ep + 1) t' xs':=by
 have hg:(h.update a (Obj.putSet es' t')).get? a=some { o with data:=.set es' (ep + 1) t' }:=by
  have:=Heap.get?_update_self (Obj.putSet es' t') S.ho (by rw [putSet_of es' t' S.hd]; rfl);rw [putSet_of es' t' S.hd] at this; exact this
 refine ⟨hg,S.ex,rfl,el,λ x hx=>(ks x hx).kept λ o' e1 e2=>?_,nd,ok,rm,pl,le⟩;rw [Heap.get?_update_ne _ _ _ _ (λ z=>?_)]
 ·exact e1
 ·rw [z,S.ho] at e1;cases e1;rw [S.ex.1] at e2;injection e2 with e
  exact absurd e [8]
theorem wp_eq {α β:Type} {m m':Sem α} {g:α->Sem β} {Q:β->Shared->Prop} (e:m=m') (h:wpAny [13] A (m' >>= g) Q E s):wpAny [13] A (m >>= g) Q E s:=by rw [e]; exact h
theorem laid_g {α:Type} {fe:α->Int × Value} {xs:List α} (d:α) {mk fi mo:Nat} {le pl:Bool} (m1:mk ∈ okM) (hl:xs.length<=mk + 1) (eel:es.toList=xs.map (fe)) :
    ∃ t' order,∃ xs':List α,SetTable.laid mk fi mo le pl (es.map (·.1))=some (t',order) /\ (order.filterMap λ k=>es[k]?).toList=xs'.map (fe) /\ xs'.Perm xs /\ (order.filterMap λ k=>es[k]?).size=es.size /\ TOk t' (xs'.map λ x=>(fe x).1) /\ t'.mask=mk /\ t'.dummies = #[] /\ t'.led=le /\ t'.plain=pl /\ order.toList.Perm (List.range xs.length):=by
 have sz:es.size=xs.length:=by rw [<- length_toList,eel,length_map]
 have hat:∀ i:Nat,es[i]?=(xs[i]?).map (fe):=λ i=>by rw [<- getElem?_toList,eel,getElem?_map]
 obtain ⟨t',order,e1,e2,e3,e4,e5,e6,e7,e8,e9⟩:=yc4 m1 (es.map (·.1)) (by rw [size_map,sz]; omega) fi mo le pl;rw [size_map,sz] at e8;have olt:∀ k ∈ order.toList,k < xs.length:=λ k hk=>List.mem_range.mp (e8.mem_iff.mp hk)
 have fm:∀ (l:List Nat),(∀ k ∈ l,k < xs.length)->l.filterMap (λ k=>es[k]?)=(l.map λ k=>xs.getD k d).map (fe):=λ l=>by
  induction l with
  | nil=>intro _; rfl
  | cons k l ih =>
   intro hl;have hk:=hl k (mem_cons_self ..);rw [List.filterMap_cons_some (b:=fe (xs.getD k d)),ih λ j hj=>hl j (mem_cons_of_mem _ hj),map_cons,map_cons];rw [hat,getD_eq_getElem?_getD,getElem?_eq_getElem hk];simp only [Option.map_some,Option.getD_some]
 have fm':(order.filterMap λ k=>es[k]?).toList=(order.toList.map λ k=>xs.getD k d).map (fe):=by rw [Array.toList_filterMap]; exact fm _ olt
 have pm:(order.toList.map λ k=>xs.getD k d).Perm xs:=by
  refine (e8.map _).trans (List.Perm.of_eq ?_);apply List.ext_getElem
  ·simp
  ·intro i h1 h2;simp [getD_eq_getElem?_getD,getElem?_eq_getElem h2]
 have hz:(order.filterMap λ k=>es[k]?).size=es.size:=by rw [<- length_toList,fm',length_map,pm.length_eq,sz]
 have hok:TOk t' ((order.toList.map λ k=>xs.getD k d).map λ x=>(fe x).1):=by
  have:(order.toList.map λ k=>(es.map (·.1)).getD k 0)=(order.toList.map λ k=>xs.getD k d).map λ x=>(fe x).1:=by
   rw [map_map];refine map_congr_left λ k hk=>?_;have hl:=olt k hk;have hl2:k < es.size:=by omega
   have q:es[k]?=some (fe (xs.getD k d)):=by
    rw [hat,getD_eq_getElem?_getD,getElem?_eq_getElem hl];simp only [Option.map_some,Option.getD_some]
   rw [Array.getElem?_eq_getElem hl2] at q;injection q with q
   simp only [Array.getD,size_map,hl2,dite_true,Array.getInternal_eq_getElem,Array.getElem_map,q,Function.comp]
  rw [<- this];exact e9
 exact ⟨t',order,_,e1,fm',pm,hz,hok,e2,e3,e4,e5,e8⟩
theorem ug2 {Q:Unit->Shared->Prop} {wd:Nat} (S:SetIs prog w hf s.heap a o es ep t xs) (m1:SetTable.sizeAbove wd - 1 ∈ okM) (m2:xs.length * 5 < (SetTable.sizeAbove wd - 1) * 3) (m3:SetTable.sizeAbove wd<=2048)
    (h:∀ h' o' es' ep' t' xs',Heap.SameBut a s.heap h'->SetIs prog w hf h' a o' es' ep' t' xs'->xs'.Perm xs->t'.fill * 5 < t'.mask * 3->t'.mask=SetTable.sizeAbove wd - 1->t'.dummies = #[]->Q () [96]) :
    wpAny [13] A (setRelay a wd) Q E s:=by
 have sz:=S.size;have mm:=ta1 _ m1;have sl:SetTable.sizeAbove wd<=sizeLine:=by rw [sizeLine_eq]; omega
 obtain ⟨t',order,xs',e1,fm',pm,hz,hok,e2,e3,e4,e5,_⟩:=laid_g (fe:=ent hf) (TKy.dd,0) (fi:=t.finger) (mo:=t.movedTo (SetTable.sizeAbove wd - 1)) (le:=t.led) (pl:=t.plain) m1 [7] S.el;have el:t.relaid (es.map (·.1)) wd=some (t',order):=e1
 have rm:t'.fill * 5 < t'.mask * 3:=by
  have h1:=hok.sz;rw [length_map,pm.length_eq] at h1;unfold SetTable.fill;rw [h1,e3,e2];simpa using m2
 have hm:=ta1 _ hok.msk;unfold setRelay;refine wpAny_bind [49];dsimp only;rw [if_neg [7],el];refine wp_eq (m':=if ((order.filterMap λ k=>es[k]?).size != es.size)=true then (unsupported "internal:set-table-lost-an-element" >>= λ (_:PUnit)=>pure ((order.filterMap λ k=>es[k]?),t')) else pure ((order.filterMap λ k=>es[k]?),t')) rfl ?_;rw [hz];simp only [bne_self_eq_false,Bool.false_eq_true,if_false];refine wpAny_bind (wpAny_pure (wpAny_storeSet_of S.ho S.hd ?_ (by rw [hz,sz,sizeLine_eq]; omega)));exact h _ _ _ _ _ _ (Heap.SameBut.update _ a _) (S.store fm' (λ x hx=>S.ks x (pm.mem_iff.mp hx)) ((pm.map _).nodup_iff.mpr S.nd) hok (show t'.fill<=t'.mask by omega) (by rw [e5]; exact S.pl) (by rw [e4]; exact S.le)) pm rm e2 e3
theorem tv2 {Q:Unit->Shared->Prop} (S:SetIs prog w hf s.heap a o es ep t xs) (hn:xs.length < 512) (en:n=xs.length)
    (h:∀ h' o' es' ep' t' xs',Heap.SameBut a s.heap h'->SetIs prog w hf h' a o' es' ep' t' xs'->xs'.Perm xs->t'.fill * 5 < t'.mask * 3->Q () [96]) :
    wpAny [13] A (setRelay a (n * 4)) Q E s:=by
 subst en;obtain ⟨m1,m2,m3⟩:=yf1 _ hn;exact ug2 S m1 m2 m3 λ h' o' es' ep' t' xs' q1 q2 q3 q4 _ _=>h h' o' es' ep' t' xs' q1 q2 q3 q4
def SetG {α:Type} [TKy α] (prog:[83]) (w:World) (hf:α->Int) (h:Heap) (a:Addr) (xs:List (α × Addr)):Prop:=∃ o es ep t,SetIs prog w hf h a o es ep t xs /\ t.fill * 5 < t.mask * 3
theorem add_t3 {k:α} (hu:A.units < cLine) (S:SetG prog w hf s.heap a xs) (hk:TK prog w s.heap k b) (hn:xs.length + 1 < 512)
    (old:k ∈ xs.map (·.1)->Q false s)
    (new:k ∉ xs.map (·.1)->∀ h' xs',Heap.SameBut a s.heap h'->SetG prog w hf h' a xs'->xs'.Perm ((k,b) :: xs)->Q true [96]):wpAny [13] A (setAddHashed a (.ref b) (hf k)) Q E s:=by
 obtain ⟨o,es,ep,t,S,rm5⟩:=S;have hm:=ta1 _ S.ok.msk;have sz:=S.size;unfold setAddHashed setAddHashedIn;refine wpAny_holding (wpAny_bind [49]);dsimp only;rw [zt3];simp only [Bool.false_eq_true,if_false];refine wpAny_bind (zf1 hu S hk (λ i b' e=>?_) λ sl wd nk ns rc wdd=>?_)
 ·exact wpAny_pure (old (List.mem_map.mpr ⟨_,List.mem_of_getElem? e,rfl⟩))
 ·dsimp only;refine wpAny_bind [49];dsimp only;have ok':=S.ok.put ns rc;have f1:=vw2 S.ok (x:=sl);have pl':(t.put sl).1.plain=true:=S.pl;have mk':(t.put sl).1.mask=t.mask:=rfl;rw [pl'];simp only [if_true];refine wpAny_bind (xf3 hk ?_);simp only [if_true]
  have el':(SetTable.insertAt es (t.put sl).2 (hf k,Value.ref b)).toList=(insL xs (SetTable.below t.place sl) (k,b)).map (ent hf):=by
   rw [SetTable.toList_insertAt,ur1,S.el];rfl
  have pm:(insL xs (SetTable.below t.place sl) (k,b)).Perm ((k,b) :: xs):=by
   unfold insL;exact List.perm_middle.trans (List.Perm.cons _ (List.Perm.of_eq (List.take_append_drop _ _)))
  have sz':(SetTable.insertAt es (t.put sl).2 (hf k,Value.ref b)).size=xs.length + 1:=by rw [<- length_toList,el',length_map,th0]
  have S':=S.store el' (λ x hx=>by
   rcases (sq0 _ _ _ _).mp hx with rfl | hx
   ·exact hk
   ·exact S.ks x hx) ((pm.map _).nodup_iff.mpr (List.nodup_cons.mpr ⟨nk,S.nd⟩)) (by rw [ur1]; exact ok') (by rw [mk']; omega) pl' S.le
  refine wpAny_bind (wpAny_storeSet_of S.ho S.hd ?_ (by rw [sz',sizeLine_eq]; omega));have sb:=Heap.SameBut.update s.heap a (Obj.putSet (SetTable.insertAt es (t.put sl).2 (hf k,Value.ref b)) (t.put sl).1);split
  ·next c =>
   have gr:SetTable.grown (es.size + 1)=(xs.length + 1) * 4:=by unfold SetTable.grown; rw [if_neg [7],sz]
   rw [gr];refine wpAny_bind (tv2 S' (by rw [th0]; omega) (by rw [th0]) λ h' o' es' ep' t' xs' q1 q2 q3 q4=>wpAny_pure ?_);exact new nk h' xs' (sb.trans q1) ⟨_,_,_,_,q2,q4⟩ (q3.trans pm)
  ·next c =>
   refine wpAny_pure (new nk _ _ sb ⟨_,_,_,_,S',?_⟩ pm);cases wd with
   | true =>
    have f2:=tz1 S.ok (wdd rfl);rw [mk'];omega
   | false =>
    simp only [Bool.not_false,Bool.true_and,SetTable.tooFull,decide_eq_true_eq] at c;omega
end
def Got {α:Type} (P:Nat->Value->Prop) (ks:Nat->α) (i:Nat) (xs:List (α × Addr)):Prop:=(∀ x ∈ xs,∃ j,j < i /\ P j (.ref x.2) /\ ks j=x.1) /\ ∀ j,j < i->ks j ∈ xs.map (·.1)
def KpH (h h':Heap):Prop:=∀ b o,h.get? b=some o->h'.get? b=some o
variable {P:Nat->Value->Prop} {i:Nat} {J:Nat->Heap->Prop}
section
variable {α:Type} [TKy α] {R:Result->Shared->Prop} {hf:α->Int}
theorem SetG.nd {h:Heap} {a:Addr} {xs:List (α × Addr)} (S:SetG prog w hf h a xs):(xs.map (·.1)).Nodup:=by
 obtain ⟨o,es,ep,t,S,_⟩:=S;exact S.nd
theorem SetG.keep {xs:List (α × Addr)} (S:SetG prog w hf h a xs) (k1:∀ o,h.get? a=some o->h'.get? a=some o) (k2:∀ x ∈ xs,TK prog w h' x.1 x.2):SetG prog w hf h' a xs:=by
 obtain ⟨o,es,ep,t,S,q⟩:=S;exact ⟨o,es,ep,t,⟨k1 o S.ho,S.ex,S.hd,S.el,k2,S.nd,S.ok,S.rm,S.pl,S.le⟩,q⟩
theorem Got.len {ks:Nat->α} {N:Nat} {xs:List (α × Addr)} (g:Got P ks i xs) (hi:i<=n) (nd:(xs.map (·.1)).Nodup) (B:∀ l:List α,l.Nodup->(∀ x ∈ l,∃ j,j < n /\ ks j=x)->l.length < N):xs.length < N:=by
 have:=B _ nd λ x hx=>by
  obtain ⟨y,hy,rfl⟩:=List.mem_map.mp hx;obtain ⟨j,h1,_,h2⟩:=g.1 y hy;exact ⟨j,by omega,h2⟩
 rwa [length_map] at this
theorem upd_g {I S:Addr} {fp wr:List Addr} {St:Nat->Heap->Prop} {h0:Heap} (W:Walks prog w A.in1 I fp wr n P St) (hS:S ∉ fp)
    (low:∀ b ∈ S :: wr,h0.objs.size<=b) (kj:∀ i h h',i<=n->J i h->KpH h0 h'->(∀ o,h.get? S=some o->h'.get? S=some o)->J i h')
    (ad:∀ i v (s:[88]) (Q:Bool->Shared->Prop) (E:[9]),i < n->P i v->KpH h0 s.heap->J i s.heap->(∀ b h' tk,Heap.SameBut S s.heap h'->J (i + 1) h'->Q b [21])->wpAny [13] A.in1 (setAdd S v) Q E s) :
    ∀ (k i:Nat) (s:[88]),n - i=k->i<=n->St i s.heap->KpH h0 s.heap->J i s.heap->(∀ h' tk,KpH h0 h'->J n h'->R (.ok (.ret .none)) [21]) ->
     codeAny [13] A (.builtin "set.update.loop" ⟨[.ref S,.ref I],[]⟩) R s:=by
 have nw:S ∉ wr:=λ h=>hS (W.sub _ h)
 have nl:∀ {b:Addr} {o:Obj},h0.get? b=some o->b ∉ wr /\ b ≠ S:=λ {b o} e =>
  ⟨λ z=>absurd [102] (Nat.not_lt.mpr (low b (mem_cons_of_mem _ z))),λ z=>absurd [102] (Nat.not_lt.mpr (low b (by rw [z]; exact mem_cons_self ..)))⟩
 intro k
 induction k with
 | zero =>
  intro i s hk hi st kp sg q;have:i=n:=by omega
  subst this;refine codeAny_builtin F.entry_set_update_loop ?_;rw [Around.under_plainId F.plain_set_update_loop _];show wpAny _ A.in1 (pyNext (.ref I) >>= _) _ _ s;refine wpAny_bind (W.done s _ _ st λ h1 tk km=>?_);show wpAny _ A.in1 (ret Value.none) _ _ _;have kp1:KpH h0 h1:=λ b o e=>km b o (nl e).1 (kp b o e);exact wpAny_pure (q h1 tk kp1 (kj _ _ _ hi sg kp1 λ o e=>km S o nw e))
 | succ k ih =>
  intro i s hk hi st kp sg q;have lt:i < n:=by omega
  refine codeAny_builtin F.entry_set_update_loop ?_;rw [Around.under_plainId F.plain_set_update_loop _];show wpAny _ A.in1 (pyNext (.ref I) >>= _) _ _ s;refine wpAny_bind (W.item i s _ _ lt st λ v h1 tk hP st1 km=>?_);have kp1:KpH h0 h1:=λ b o e=>km b o (nl e).1 (kp b o e);show wpAny _ A.in1 (holding [v] (setAdd S v) >>= _) _ _ _;refine wpAny_bind (wpAny_holding (ad i v { s with heap:=h1,toks:=tk } _ _ lt hP kp1 (kj _ _ _ hi sg kp1 λ o e=>km S o nw e) λ b h2 tk2 sb sg2=>?_));have kp2:KpH h0 h2:=λ b o e=>by rw [sb.2 b (nl e).2]; exact kp1 b o e
  refine wpAny_pure ⟨plainId_quiet F.plain_set_update_loop _,ih (i + 1) { s with heap:=h2,toks:=tk2 } [7] lt (W.frame _ h1 _ st1 λ b hb o e=>?_) kp2 sg2 λ h' tk' a b=>q h' tk' a b⟩;rw [sb.2 b (λ z=>hS (by rw [<- z]; exact hb))]; exact e
def nset (b:Bool):Obj:={ cls:=.type "set",dict:=none,data:=.set #[] 0 (.fresh 0 0 b) }
theorem ss3 (v:Value) {Q1:[9]} (h:Q1 [70] { s with heap:=s.heap.push (nset (!bT prog w)) }):codeAny [13] A (.call (.builtin "set.__new__") ⟨[.type "set",v],[]⟩) (wants Q1 E) s:=by
 refine codeAny_of_tree ?_;show wpAny _ A.in1 (do checkBuiltinCall "set.__new__" ⟨[.type "set",v],[]⟩; again (.builtin "set.__new__" ⟨[.type "set",v],[]⟩)) _ _ s;refine wpAny_bind (wpAny_of_eq (F.newCall_set_1 v) (wpAny_pure ⟨plainId_quiet F.plain_set_new _,codeAny_builtin F.entry_set_new ?_⟩));rw [Around.under_plainId F.plain_set_new _]; unfold Builtin.«set.__new__» Builtin.Frozenset.newClass;have ss:=sub_set_self;obtain ⟨hp,g,d,tk,os⟩:=s;dsimp only; wp_walk;refine wpAny_askSetting [35]; dsimp only; simp only [newObj];refine wpAny_bind (wpAny_alloc [35]); exact wpAny_pure h
theorem set0 (e:h.get? a=some (nset (!bT prog w))):SetG prog w hf h a []:=by
 refine ⟨_,#[],0,.fresh 0 0 (!bT prog w),⟨e,?_,rfl,rfl,(λ x hx=>nomatch hx),List.nodup_nil,?_,(show 0<=7 by decide),rfl,rfl⟩,(show 0 * 5 < 7 * 3 by decide)⟩
 ·exact ⟨rfl,rfl,rfl⟩
 ·refine ⟨by simp [Rise,SetTable.fresh],by simp [Rise,SetTable.fresh],(λ j h=>by simp [SetTable.fresh] at h),(λ j h=>by simp [SetTable.fresh] at h),(λ j h=>by simp [SetTable.fresh] at h),(show 7 ∈ okM by decide),rfl,(λ i j h z=>by simp [SetTable.fresh] at z)⟩
theorem set_g {l:Addr} {items:Array Value} {Q:[9]} (hh:A.handled=none) (hl:s.heap.IsList l items)
    (kj:∀ i h h',i<=items.size->J i h->KpH s.heap h'->(∀ o,h.get? s.heap.objs.size=some o->h'.get? s.heap.objs.size=some o)->J i h')
    (ad:∀ i v (s':[88]) (Q:Bool->Shared->Prop) (E:[9]),i < items.size->items[i]?=some v->KpH s.heap s'.heap->J i s'.heap->(∀ b h' tk,Heap.SameBut s.heap.objs.size s'.heap h'->J (i + 1) h'->Q b { s' with heap:=h',toks:=tk })->wpAny [13] A.in1.in1.in1 (setAdd s.heap.objs.size v) Q E s')
    (j0:∀ h:Heap,h.get? s.heap.objs.size=some (nset (!bT prog w))->J 0 h)
    (h:∀ (h':Heap) (tk:Nat),KpH s.heap h'->J items.size h'->Q [70] [21]) :
    wpAny [13] A (call (.type "set") [.ref l]) Q E s:=by
 obtain ⟨c,tl,emro⟩:=F.called_set.mro;have e0:=F.called_set.made;have e1:=F.called_set.sub;refine wpAny_call (codeAny_of_tree ?_); show wpAny _ _ (callAny (.type "set") _) _ _ _;refine wpAny_pure ⟨Code.quiet_builtin _ [55],codeAny_builtin F.entry_type_call ?_⟩; rw [Around.under_plain (weight_type_call_type "set" [.ref l] []) rfl];have e2:=F.called_set.notType;have e3:=F.called_set.canCreate;have e4:=F.typeCall_set_1 (.ref l)
 repeat (any_goals (first | assumption | wp_step))
 refine codeAny_mono (ss3 (.ref l) (E:=E) (Q1:=λ obj s1=>obj=.ref s.heap.objs.size /\ s1={ s with heap:=s.heap.push (nset (!bT prog w)) }) ⟨rfl,rfl⟩) λ r s1 hr=>?_;cases r with
 | error e=>exact hr
 | ok fl =>
  cases fl with
  | ret obj =>
   obtain ⟨rfl,rfl⟩:=hr;have gS:(s.heap.push (nset (!bT prog w))).get? s.heap.objs.size=some (nset (!bT prog w)):=Heap.get?_push_size _ rfl;have tS:Shared.TypeIs { s with heap:=s.heap.push (nset (!bT prog w)) } [70] "set" := ⟨_,gS,rfl⟩;have e5:=F.called_set.init.lookup;have e6:=F.called_set.init.bind [70]
   repeat (any_goals (first | assumption | wp_step))
   refine codeAny_mono (codeAny_call_builtin (R:=wants (λ r s2=>r=.none /\ ∃ h' tk,s2=[21] /\ KpH s.heap h' /\ J items.size h') E) F.called_set.init.plain F.entry_set_init (check_set_init_1 tS ?_)) λ r2 s2 hr2=>?_
   ·obtain ⟨ol,gl,cl,nl,dl⟩:=hl;obtain ⟨ocls,odict,odata,oslots⟩:=ol;simp only at cl dl;subst cl; subst dl;have gl':(s.heap.push (nset (!bT prog w))).get? l=some { cls:=.type "list",dict:=odict,data:=.seq items nl,slots:=oslots }:=Heap.get?_push_of_some _ gl;have f1:=F.sub_list_set;have f2:=F.sub_list_frozenset;have f3:(Value.type "list" == Value.type "dict")=false:=by decide
    have il:(s.heap.push (nset (!bT prog w))).IsList l items:=⟨_,gl',rfl,nl,rfl⟩;unfold Builtin.«set.__init__» noKeywords Builtin.Frozenset.updateFrom;generalize hPI:pyIter=PI
    wp_walk
    subst hPI; refine wpAny_pyIter_list il ?_; refine wpAny_bind (wpAny_runValue ?_);have ls:l < s.heap.objs.size:=Heap.lt_size gl;have z1:(s.heap.push (nset (!bT prog w))).objs.size=s.heap.objs.size + 1:=Heap.size_push ..;have ni:l ≠ (s.heap.push (nset (!bT prog w))).objs.size:=by rw [z1]; exact Nat.ne_of_lt (Nat.lt_succ_of_lt ls)
    refine upd_g (A:=A.in1.in1) (h0:=s.heap) (J:=J) (Walks.list (show A.in1.in1.in1.handled=none by simp [hh]) _ l ni items) (S:=s.heap.objs.size) ?_ ?_ kj (λ i v s' Q E lt e=>ad i v s' Q E lt e) (items.size - 0) 0 _ [7] (Nat.zero_le _) ?_ ?_ ?_ ?_
    ·rw [z1];intro z;rcases List.mem_cons.mp z with z | z
     ·exact Nat.ne_of_lt (Nat.lt_succ_self _) z
     ·rcases List.mem_cons.mp z with z | z
      ·exact Nat.ne_of_gt ls z
      ·cases z
    ·intro b hb;rcases List.mem_cons.mp hb with rfl | hb
     ·exact Nat.le_refl _
     ·rcases List.mem_cons.mp hb with rfl | hb
      ·rw [z1]; exact Nat.le_succ _
      ·cases hb
    ·exact ⟨[57],il.push _⟩
    ·exact λ b o e=>Heap.get?_push_of_some _ (Heap.get?_push_of_some _ e)
    ·exact j0 _ (Heap.get?_push_of_some _ gS)
    ·intro h' tk kp sg;show wpAny _ _ _ _ _ _;refine wpAny_pure ?_;show wpAny _ _ (ret Value.none) _ _ _;exact wpAny_pure ⟨rfl,h',tk,rfl,kp,sg⟩
   ·cases r2 with
    | error e=>exact hr2
    | ok fl2 =>
     cases fl2 with
     | ret r =>
      obtain ⟨rfl,h',tk,rfl,kp,sg⟩:=hr2
      repeat (any_goals (first | assumption | wp_step))
      exact h _ _ kp sg
     | _=>exact hr2.elim
  | _=>exact hr.elim
theorem vz0 {l:Addr} {items:Array Value} {ks:Nat->α} {Q:[9]} (hh:A.handled=none) (hu:A.units + 16 < cLine) (hl:s.heap.IsList l items)
    (hi:∀ i v,i < items.size->items[i]?=some v->∃ b,v=.ref b /\ TK prog w s.heap (ks i) b) (B:∀ l:List α,l.Nodup->(∀ x ∈ l,∃ j,j < items.size /\ ks j=x)->l.length < 511)
    (h:∀ (h':Heap) (tk:Nat) xs,KpH s.heap h'->SetG prog w (hT prog w) h' s.heap.objs.size xs->Got (λ i v=>items[i]?=some v) ks items.size xs->Q [70] [21]) :
    wpAny [13] A (call (.type "set") [.ref l]) Q E s:=by
 have tkk:∀ {i:Nat} {xs:List (α × Addr)} {h:Heap},i<=items.size->Got (λ i v=>items[i]?=some v) ks i xs->KpH s.heap h->∀ x ∈ xs,TK prog w h x.1 x.2:=λ {i xs h} hn g k x hx=>by
  obtain ⟨j,a1,a2,a3⟩:=g.1 x hx;obtain ⟨b,e,t⟩:=hi j _ [7] a2;cases e;rw [<- a3];exact t.kept λ o e _=>k _ o e
 refine set_g (J:=λ i h=>∃ xs,SetG prog w (hT prog w) h s.heap.objs.size xs /\ Got (λ i v=>items[i]?=some v) ks i xs) hh hl (λ i h h' hn ⟨xs,sg,g⟩ kp ks'=>⟨xs,sg.keep ks' (tkk hn g kp),g⟩) (λ i v s' Q E lt hP kp ⟨xs,sg,g⟩ q=>?_) (λ h e=>⟨[],set0 e,(λ x hx=>nomatch hx),λ j hj=>absurd hj (Nat.not_lt_zero _)⟩) λ h' tk kp ⟨xs,sg,g⟩=>h h' tk xs kp sg g;obtain ⟨b,rfl,tb0⟩:=hi i v lt hP;have tb:TK prog w s'.heap (ks i) b:=tb0.kept λ o e _=>kp b o e;have ln:=g.len (Nat.le_of_lt lt) sg.nd B;have ua:A.in1.in1.in1.units < cLine:=by show A.units + 1 + 1 + 1 < cLine; omega
 unfold setAdd;refine wpAny_holding (wpAny_bind (yd4 ua tb λ tk2=>?_));refine add_t3 (hf:=hT prog w) (s:={ s' with toks:=tk2 }) ua sg tb [7] (λ old=>?_) (λ new h2 xs2 sb sg2 pm=>?_)
 ·refine q _ s'.heap tk2 (Heap.SameBut.refl _ _) ⟨xs,sg,λ x hx=>?_,λ j hj=>?_⟩
  ·obtain ⟨j,a1,a2⟩:=g.1 x hx;exact ⟨j,by omega,a2⟩
  ·by_cases c:j < i
   ·exact g.2 j c
   ·rw [show j=i by omega]; exact old
 ·refine q _ h2 tk2 sb ⟨xs2,sg2,λ x hx=>?_,λ j hj=>?_⟩
  ·rcases List.mem_cons.mp (pm.mem_iff.mp hx) with rfl | hx
   ·exact ⟨i,by omega,hP,rfl⟩
   ·obtain ⟨j,a1,a2⟩:=g.1 x hx;exact ⟨j,by omega,a2⟩
  ·refine (pm.map (·.1)).mem_iff.mpr ?_;by_cases c:j < i
   ·exact mem_cons_of_mem _ (g.2 j c)
   ·rw [show j=i by omega]; exact mem_cons_self ..
end
theorem wx2 {α β:Type} {f:α->β} {l m:List β} (p:l.Perm m):∀ xs:List α,m=xs.map f->∃ ys:List α,ys.Perm xs /\ l=ys.map f:=by
 induction p with
 | nil=>intro xs e; cases xs with
  | nil=>exact ⟨[],.nil,rfl⟩
  | cons _ _=>cases e
 | cons a _ ih =>
  intro xs e;cases xs with
  | nil=>cases e
  | cons x xs =>
   rw [map_cons] at e;injection e with e1 e2
   obtain ⟨ys,p,q⟩:=ih xs e2;exact ⟨x :: ys,p.cons x,by rw [map_cons,e1,q]⟩
 | swap a b l =>
  intro xs e
  match xs,e with
  | x :: y :: xs,e =>
   simp only [map_cons,List.cons.injEq] at e;obtain ⟨e1,e2,e3⟩:=e;exact ⟨y :: x :: xs,.swap x y xs,by rw [map_cons,map_cons,e1,e2,e3]⟩
 | trans _ _ i1 i2 =>
  intro xs e;obtain ⟨ys,p,q⟩:=i2 xs e;obtain ⟨zs,p',q'⟩:=i1 ys q;exact ⟨zs,p'.trans p,q'⟩
theorem ws1 {α:Type}:∀ {l:List α} {i:Nat} (h:i < l.length),(l[i] :: l.eraseIdx i).Perm l
 | x :: l,0,_=>List.Perm.refl _
 | x :: l,i + 1,h=>(List.Perm.swap _ _ _).trans ((ws1 (l:=l) (i:=i) (by simpa using h)).cons x)
theorem yi2 {α:Type} (next:Nat->Nat):∀ (fuel k:Nat) (left:List α) (out:Array α),left.length<=fuel->(pickOrder.go next fuel k left out).toList.Perm (out.toList ++ left)
 | 0,k,left,out,h=>by
  have:left=[]:=List.length_eq_zero_iff.mp [7];subst this;unfold pickOrder.go;rw [append_nil]
 | fuel + 1,k,left,out,h=>by
  unfold pickOrder.go;by_cases c:left=[]
  ·subst c;simp
  ·have lt:next k % left.length < left.length:=Nat.mod_lt _ (List.length_pos_iff.mpr c)
   rw [getElem?_eq_getElem lt];dsimp only;refine (yi2 next fuel (k + 1) _ _ (by rw [List.length_eraseIdx_of_lt lt]; omega)).trans ?_;rw [Array.toList_push,append_assoc];refine List.Perm.append_left _ ?_;exact ws1 lt
theorem xi2 {α:Type} (next:Nat->Nat) (xs:Array α):(pickOrder next xs).toList.Perm xs.toList:=by
 have:=yi2 next xs.size 0 xs.toList #[] [18]
 simpa [pickOrder] using this
theorem below0 {xs:Array Nat} (h:Rise xs):SetTable.below xs 0=0:=by
 by_cases c:SetTable.below xs 0=0
 ·exact c
 ·have hl:=zm0 h 0;have hz:0 < xs.size:=by omega
  have q:xs[0]?=some xs[0]:=Array.getElem?_eq_getElem hz;have:=(yj0 h 0 q).mp [7];omega
theorem belowS {xs:Array Nat} (h:Rise xs) {j:Nat} (q:xs[i]?=some j):SetTable.below xs (j + 1)=i + 1:=by
 have h1:=(yj0 h (j + 1) q).mpr [7];have hl:=zm0 h (j + 1);by_cases c:i + 1 < SetTable.below xs (j + 1)
 ·have hz:i + 1 < xs.size:=by omega
  have q2:xs[i + 1]?=some xs[i + 1]:=Array.getElem?_eq_getElem hz;have a:=(yj0 h (j + 1) q2).mp c;have b:=yn0 h q q2 [7];omega
 ·omega
theorem yj2:Manifest.owners.lookup (String.ofList "set_iterator".toList.reverse.reverse)=some Manifest.sig_set_iterator:=by kernel_rfl
theorem slot_sit:Slot "set_iterator" "__next__" "set_iterator.__next__" := by
 refine .of (owner := "set_iterator") (n := "__next__") ?_ ?_ ?_ ?_ ?_ ?_
 ·rw [typeLookup_type,builtinLookup_eq_fast]; kernel_rfl
 ·decide +kernel
 ·decide +kernel
 ·decide +kernel
 ·first | exact .inl [55] | exact .inr [55]
 ·rw [isSubtype_type]; kernel_rfl
theorem wp1:Slot "set_iterator" "__iter__" "set_iterator.__iter__" := by
 refine .of (owner := "set_iterator") (n := "__iter__") ?_ ?_ ?_ ?_ ?_ ?_
 ·rw [typeLookup_type,builtinLookup_eq_fast]; kernel_rfl
 ·decide +kernel
 ·decide +kernel
 ·decide +kernel
 ·first | exact .inl [55] | exact .inr [55]
 ·rw [isSubtype_type]; kernel_rfl
theorem uh1:entryFor table "set_iterator.__next__" = some Builtin.«set_iterator.__next__» := by exact entryFor_of_tree (by kernel_rfl)
theorem tn2:entryFor table "set_iterator.__iter__" = some Builtin.«dict_keyiterator.__iter__» := by refine entryFor_alias (id' := "dict_keyiterator.__iter__") (by kernel_rfl) ?_ [55] (by kernel_rfl); first | rfl | decide +kernel | (unfold String.splitOn; simp +decide [String.splitOnAux])
theorem zt1 (a:Value):argsOk "set_iterator.__next__" ⟨[a],[]⟩:=by
 unfold argsOk;rw [signature?_of (id := "set_iterator.__next__") (n := "__next__".toList.reverse) (o := "set_iterator".toList.reverse) (by kernel_rfl) yj2]
 kernel_rfl
theorem wf3 (a:Value):argsOk "set_iterator.__iter__" ⟨[a],[]⟩:=by
 unfold argsOk;rw [signature?_of (id := "set_iterator.__iter__") (n := "__iter__".toList.reverse) (o := "set_iterator".toList.reverse) (by kernel_rfl) yj2]
 kernel_rfl
theorem tb2:entryFor table "set.__iter__" = some Builtin.«frozenset.__iter__» := by exact entryFor_alias (id' := "frozenset.__iter__") (by kernel_rfl) rfl [55] (by kernel_rfl)
def SIt (h:Heap) (it a:Addr) (sl i n ep:Nat):Prop:=∃ o,h.get? it=some o /\ o.cls=.type "set_iterator" /\ o.data=.fields #[rawInt sl,rawInt i,.ref a,rawInt n,rawInt ep]
variable {it:Addr} {sl:Nat}
theorem SIt.keep (x:SIt h it a sl i n ep) (k:∀ o,h.get? it=some o->h'.get? it=some o):SIt h' it a sl i n ep:=by
 obtain ⟨o,e1,e2⟩:=x;exact ⟨o,k o e1,e2⟩
theorem SIt.ty (x:SIt s.heap it a sl i n ep):s.TypeIs (.ref it) "set_iterator" := by
 obtain ⟨o,e1,e2,_⟩:=x;exact ⟨o,e1,e2⟩
theorem un2 {vs:Array Value} {c:Value} (e1:h.get? it=some o) (e2:o.cls=c) (e3:o.data=.fields vs) (j:Nat) (x:Value) :
    ∃ o',(h.update it (Obj.mapFields (·.setIfInBounds j x))).get? it=some o' /\ o'.cls=c /\ o'.data=.fields (vs.setIfInBounds j x) :=
 ⟨_,Heap.get?_update_self _ e1 (Obj.isFreed_of_fields (Obj.data_mapFields e3 _)),(Obj.cls_mapFields ..).trans e2,Obj.data_mapFields e3 _⟩
structure SObj (prog:Program) (w:World) (h:Heap) (a:Addr) (o:Obj) (es:Array (Int × Value)) (ep:Nat) (t:SetTable):Prop where
 ho:h.get? a=some o
 ex:o.ExactSet
 hd:o.data=.set es ep t
 fits:t.fits es.size=true
 ris:Rise t.place
 sz:t.place.size=es.size
 pl:t.plain=true
 le:t.led = !bT prog w
theorem SObj.keep {t:SetTable} (S:SObj prog w h a o es ep t) (k:∀ o,h.get? a=some o->h'.get? a=some o):SObj prog w h' a o es ep t :=
 ⟨k o S.ho,S.ex,S.hd,S.fits,S.ris,S.sz,S.pl,S.le⟩
theorem SetIs.obj {hf:T3->Int} {t:SetTable} {xs:List (T3 × Addr)} (S:SetIs prog w hf h a o es ep t xs):SObj prog w h a o es ep t :=
 ⟨S.ho,S.ex,S.hd,S.fits,S.ok.ris,by have h1:=S.ok.sz; have h2:=S.size; rw [length_map] at h1; omega,S.pl,S.le⟩
section
variable {t:SetTable}
theorem xu2 {Q:[9]} (S:SObj prog w s.heap a o es ep t)
    (q:Q [70] { s with heap:=s.heap.push { cls:=.type "set_iterator",data:=.fields #[rawInt (0:Nat),rawInt (0:Nat),.ref a,rawInt es.size,rawInt ep] } }):wpAny [13] A (pyIter (.ref a)) Q E s:=by
 have ty:s.TypeIs (.ref a) "set" := ⟨o,S.ho,S.ex.1⟩;refine wpAny_pyIter_slot ty F.slot_set_iter (wpAny_call_entry F.slot_set_iter ty tb2 ?_ (F.args_set_iter_1 _));unfold Builtin.«frozenset.__iter__» Builtin.Frozenset.slot0 slotArgs;simp only [List.isEmpty_nil,Bool.not_true,Bool.false_eq_true,↓reduceIte,bind_assoc,length_nil,bne_self_eq_false];unfold Builtin.Frozenset.addrOf Builtin.Frozenset.sizeOf;refine wpAny_bind [35]
 try dsimp only
 refine wpAny_bind [35];refine wpAny_bind (wpAny_bind (wpAny_setEntries_of S.ho S.hd S.fits [35]))
 have dr:wpAny [13] A.in1 (setDrawn a) (λ b s'=>b=false /\ s'=s) E s:=by
  unfold setDrawn setsByText;refine wpAny_bind [49];dsimp only;refine wpAny_bind (wpAny_bind (wpAny_askSetting (wpAny_pure (wpAny_pure ⟨?_,rfl⟩))));show (!_ && (!t.plain && _))=false;rw [S.pl];simp
 refine wpAny_bind (wpAny_mono dr (λ b s' h=>?_) λ _ _ h=>h);obtain ⟨rfl,rfl⟩:=h;simp only [Bool.false_eq_true,if_false];refine wpAny_bind [35];refine wpAny_bind (wpAny_setEpoch_of S.ho S.hd S.fits ?_);refine wpAny_bind (wpAny_newObj_type (wpAny_pure ⟨_,rfl, "set_iterator",_,⟨_,Heap.get?_push_size _ rfl,rfl⟩,slot_sit.lookup,q⟩))
def ordS (prog:[83]) (w:World) (a:Addr) (ep:Nat) (es:Array (Int × Value)):Array (Int × Value):=if bT prog w=true then pickOrder ([13].w.params.setOrder a ep) es else es
theorem yq1:(ordS prog w a ep es).toList.Perm es.toList:=by
 unfold ordS;split
 ·exact xi2 _ _
 ·exact List.Perm.refl _
theorem za1:(ordS prog w a ep es).size=es.size:=by
 have:=(yq1 (prog:=prog) (w:=w) (a:=a) (ep:=ep) (es:=es)).length_eq;simpa using this
theorem tw0 {Q:Option (Value × Nat)->Shared->Prop} (S:SObj prog w s.heap a o es ep t) (hb:bT prog w=false->SetTable.below t.place sl=i)
    (some':∀ e nx,(ordS prog w a ep es)[i]?=some e->(bT prog w=false->SetTable.below t.place nx=i + 1)->Q (some (e.2,nx)) s) (none':(ordS prog w a ep es)[i]?=none->Q none s) :
    wpAny [13] A (setNext a sl i ep) Q E s:=by
 unfold setNext setsByText;refine wpAny_bind [49];dsimp only;refine wpAny_bind (wpAny_bind (wpAny_askSetting [35]));unfold ordS at some' none';by_cases c:bT prog w=true
 ·rw [if_pos (show [13].w.params.followText "set-order" = true from c)];rw [if_pos c] at some' none';rw [if_neg [18]];refine wpAny_bind ?_;unfold setWalk setsByText;refine wpAny_bind [49];dsimp only;refine wpAny_bind (wpAny_bind (wpAny_askSetting [35]));rw [if_pos (show [13].w.params.followText "set-order" = true from c)];refine wpAny_bind (wpAny_askSetting (wpAny_pure [35]));show Q (Option.map _ (pickOrder ([13].w.params.setOrder a ep) es)[i]?) s;cases e:(pickOrder ([13].w.params.setOrder a ep) es)[i]? with
  | none=>exact none' e
  | some v=>exact some' v sl e (λ z=>by rw [c] at z; cases z)
 ·have cf:bT prog w=false:=by simpa using c
  rw [if_neg (show ¬ [13].w.params.followText "set-order" = true from c)];rw [if_neg c] at some' none';split
  ·next dr =>
   have:(!t.plain && decide (es.size > 1))=true:=dr;rw [S.pl] at this;cases this
  ·refine wpAny_bind ?_;show wpAny _ _ (ite (_=true) _ (pure PUnit.unit)) _ _ _;rw [if_neg (by rw [S.le,cf]; simp)];refine wpAny_pure [35];rw [hb cf];cases e:es[i]? with
   | none=>exact none' e
   | some v =>
    have hlt:i < t.place.size:=by
     have h1:=S.sz;have:=(Array.getElem?_eq_some_iff.mp e).1;omega
    have q:t.place[i]?=some t.place[i]:=Array.getElem?_eq_getElem hlt;rw [q];exact some' v _ e (λ _=>belowS S.ris q)
theorem tt2 {Q:Option Value->Shared->Prop} (S:SObj prog w s.heap a o es ep t) (hi:SIt s.heap it a sl i es.size ep) (hb:bT prog w=false->SetTable.below t.place sl=i) (lt:i < es.size)
    (q:∀ h' e nx,(ordS prog w a ep es)[i]?=some e->SIt h' it a nx (i + 1) es.size ep->(bT prog w=false->SetTable.below t.place nx=i + 1)->Heap.SameBut it s.heap h'->Q (some e.2) [96]):wpAny [13] A (pyNext (.ref it)) Q E s:=by
 obtain ⟨oi,a1,a2,a3⟩:=id hi;have ty:=hi.ty;unfold pyNext;refine wpAny_bind (wpAny_attempt (wpAny_callSpecial?_slot (name:=Str.ofString "__next__") ty slot_sit (wpAny_call_entry slot_sit ty uh1 ?a (zt1 _))))
 case a =>
  unfold Builtin.«set_iterator.__next__»;refine wpAny_bind (m:=slotArgs "__next__" 0 _) [35];refine wpAny_bind (wpAny_fieldsOf a1 a3 ?_);show wpAny _ _ (setEntries a >>= _) _ _ s;refine wpAny_bind (wpAny_setEntries_of S.ho S.hd S.fits ?_);rw [if_neg [18]];show wpAny _ _ (setNext a sl i ep >>= _) _ _ s;refine wpAny_bind (tw0 S hb (λ e nx e1 e2=>?_) λ e=>?_)
  ·show wpAny _ _ (setField (.ref it) 0 (rawInt nx) >>= _) _ _ s;refine wpAny_bind (wpAny_setField a1 a3 [18] ?_);obtain ⟨o1,b1,b2,b3⟩:=un2 a1 a2 a3 0 (rawInt nx);show wpAny _ _ (setField (.ref it) 1 (rawInt ((i:Int) + 1)) >>= _) _ _ _;refine wpAny_bind (wpAny_setField b1 b3 [18] ?_);obtain ⟨o2,c1,c2,c3⟩:=un2 b1 b2 b3 1 (rawInt ((i:Int) + 1));show wpAny _ _ (ret e.2) _ _ _;exact wpAny_pure ⟨_,rfl,wpAny_pure (q _ e nx e1 ⟨o2,c1,c2,c3⟩ e2 ((Heap.SameBut.update ..).trans (Heap.SameBut.update ..)))⟩
  ·rw [Array.getElem?_eq_getElem (by rw [za1]; exact lt)] at e;cases e
theorem zs3 {Q:Option Value->Shared->Prop} (hh:A.handled=none) (S:SObj prog w s.heap a o es ep t) (hi:SIt s.heap it a sl es.size es.size ep) (hb:bT prog w=false->SetTable.below t.place sl=es.size)
    (q:∀ h',Heap.ExtBut it s.heap h'->Q none [96]):wpAny [13] A (pyNext (.ref it)) Q E s:=by
 obtain ⟨oi,a1,a2,a3⟩:=id hi;have ty:=hi.ty;unfold pyNext;refine wpAny_bind (wpAny_attempt (wpAny_callSpecial?_slot (name:=Str.ofString "__next__") ty slot_sit (wpAny_call_entry slot_sit ty uh1 ?a (zt1 _))))
 case a =>
  unfold Builtin.«set_iterator.__next__»;refine wpAny_bind (m:=slotArgs "__next__" 0 _) [35];refine wpAny_bind (wpAny_fieldsOf a1 a3 ?_);show wpAny _ _ (setEntries a >>= _) _ _ s;refine wpAny_bind (wpAny_setEntries_of S.ho S.hd S.fits ?_);rw [if_neg [18]];show wpAny _ _ (setNext a sl es.size ep >>= _) _ _ s;refine wpAny_bind (tw0 S hb (λ e nx e1 e2=>?_) λ e=>?_)
  ·rw [getElem?_eq_none (by rw [za1]; exact Nat.le_refl _)] at e1;cases e1
  ·show wpAny _ _ (setField (.ref it) 2 .none >>= _) _ _ s; refine wpAny_bind (wpAny_setField a1 a3 [18] ?_);show wpAny _ _ (newExc (.type "StopIteration") [] >>= _) _ _ _; refine wpAny_bind ?_; simp only [newExc,newTuple];refine wpAny_bind (wpAny_newObj_type (wpAny_bind (m:=firstArgMember _ _) (wpAny_of_eq (a:=Value.none) (by first | rfl | (simp only [firstArgMember]; rfl)) (wpAny_newObj_type ?_ (by size_fits)))) (by size_fits));simp only [raiseNew]; refine wpAny_bind (wpAny_handled ?_); rw [show A.in1.handled=none from hh];refine wpAny_bind (wpAny_pure (wpAny_throw ?_)); refine wpAny_bind (wpAny_isInstance (T := "StopIteration") (b:=true) ⟨_,Heap.get?_push_size _ rfl,rfl⟩ isSubtype_stop ?_);exact wpAny_pure (q _ (((Heap.SameBut.update ..).extBut.push _).push _))
theorem ut2 {Q:[9]} (hi:SIt s.heap it a sl i n ep) (h:Q (.ref it) s):wpAny [13] A (pyIter (.ref it)) Q E s:=by
 have ty:=hi.ty;refine wpAny_pyIter_slot ty wp1 (wpAny_call_entry wp1 ty tn2 ?_ (wf3 _));show wpAny _ _ (ret (.ref it)) _ _ s;exact wpAny_pure ⟨_,rfl, "set_iterator",_,ty,slot_sit.lookup,h⟩
theorem vb3 (ty:s.TypeIs (.ref a) "set") (h:Q false s):wpAny [13] A (Builtin.List.listLengthHint (.ref a)) Q E s:=by
 unfold Builtin.List.listLengthHint;refine wpAny_bind (wpAny_specialOf ty PySem.F.slot_set_len.lookup ?_); generalize hid:("set.__len__" : String)=id0; wp_delta;rw [show splitId id0=some ("set", "__len__") from by subst hid; decide +kernel]; subst hid;refine wpAny_bind (wpAny_isInstance (T := "set") (b:=true) ty (by rw [isSubtype_type]; kernel_rfl) ?_);refine wpAny_ite_split (λ c=>absurd c [8]) (λ _=>?_); refine wpAny_ite_split (λ _=>?_) (λ c=>absurd [55] c);exact wpAny_bind (wpAny_typeOf ty (wpAny_pure h))
theorem wf2 (hh:A.handled=none) (I a:Addr) (ne:a ≠ I):Walks prog w A I [I,a] [I] es.size (λ i v=>∃ e,(ordS prog w a ep es)[i]?=some e /\ v=e.2)
    (λ i h=>∃ sl,SIt h I a sl i es.size ep /\ (bT prog w=false->SetTable.below t.place sl=i) /\ SObj prog w h a o es ep t) where
 sub:=λ b hb=>by simp at hb; simp [hb]
 frame:=λ _ _ _ z hk=>by
  obtain ⟨sl,z1,z2,z3⟩:=z;exact ⟨sl,z1.keep λ o e=>hk I [18] o e,z2,z3.keep λ o e=>hk a [18] o e⟩
 item:=λ i s Q E hi z q=>by
  obtain ⟨sl,z1,z2,z3⟩:=z;refine tt2 z3 z1 z2 hi λ h' e nx a1 a2 a3 a4=>?_;exact q _ h' s.toks ⟨e,a1,rfl⟩ ⟨nx,a2,a3,z3.keep λ o e=>a4.extBut a o ne e⟩ λ b o hb e=>a4.extBut b o (λ y=>hb (by simp [y])) e
 done:=λ s Q E z q=>by
  obtain ⟨sl,z1,z2,z3⟩:=z;exact zs3 hh z3 z1 z2 λ h' k=>q h' s.toks λ b o hb e=>k b o (λ y=>hb (by simp [y])) e
 self:=λ _ _ _ _ z q=>by
  obtain ⟨sl,z1,_⟩:=z;exact ut2 z1 q
theorem ts3:KdlSrc prog w "set" a a es.size (λ i v=>∃ e,(ordS prog w a ep es)[i]?=some e /\ v=e.2) (λ h=>SObj prog w h a o es ep t) where
 type:=λ _ x=>⟨o,x.ho,x.ex.1⟩
 there:=λ _ x=>⟨Heap.lt_size x.ho,Heap.lt_size x.ho⟩
 keep:=λ _ _ x k=>x.keep λ o e=>k a (.inl rfl) o e
 notList:=by decide
 notTuple:=by decide
 hint:=λ _ _ _ _ x q=>vb3 ⟨o,x.ho,x.ex.1⟩ q
 iter:=λ _ s hh x=>by
  have hl:=Heap.lt_size x.ho;exact ⟨_,_,(λ _ _ q=>xu2 x q),wf2 hh _ a (Nat.ne_of_lt hl),⟨0,[57],(λ _=>below0 x.ris),x.keep λ o e=>Heap.get?_push_of_some _ e⟩⟩
theorem ul2 {acc:Array Value} (h:ItemsOf (λ i v=>∃ e,(ordS prog w a ep es)[i]?=some e /\ v=e.2) acc es.size):acc.toList=(ordS prog w a ep es).toList.map (·.2):=by
 obtain ⟨h1,h2⟩:=h;have h3:=za1 (prog:=prog) (w:=w) (a:=a) (ep:=ep) (es:=es);apply List.ext_getElem?;intro i;rw [getElem?_map,getElem?_toList,getElem?_toList];by_cases c:i < es.size
 ·obtain ⟨e,e1,e2⟩:=h2 i (acc[i]'(by omega)) [18];rw [e1,Array.getElem?_eq_getElem [7],e2];rfl
 ·rw [getElem?_eq_none [7],getElem?_eq_none [7]];rfl
theorem ui3:∀ {h:Heap} {ys:List (T3 × Addr)},(∀ x ∈ ys,TK prog w h x.1 x.2)->T3s h (ys.map λ x=>Value.ref x.2) (ys.map (·.1))
 | _,[],_=>trivial
 | _,x :: ys,k=>⟨(k x (mem_cons_self ..)).t3,ui3 λ y hy=>k y (mem_cons_of_mem _ hy)⟩
theorem tt1 {xs:List (T3 × Addr)} {hf:T3->Int} {Q:[9]} (hh:A.handled=none) (S:SetG prog w hf s.heap a xs) (h64:xs.length < 64)
    (h:∀ (ys:List (T3 × Addr)) (p:Array Nat) (h1 h':Heap) (c tk:Nat),ys.Perm xs->p.Perm (List.toArray (List.range ys.length))->Ms.Up (ltI (ys.map (·.1))) p ys.length->(∀ b o,s.heap.get? b=some o->h1.get? b=some o)->(∀ b o,h1.get? b=some o->h'.get? b=some o) ->
     h'.get? h1.objs.size=some (seqObj "list" (outV (ys.map λ x=>Value.ref x.2) p).toArray c)->Q (.ref h1.objs.size) [21]) :
    wpAny [13] A (call (.builtin "sorted") [.ref a]) Q E s:=by
 obtain ⟨o,es,ep,t,S,_⟩:=S;have zs:=S.size;have hz:es.size<=sizeLine:=by rw [sizeLine_eq]; omega
 obtain ⟨ys,py,ey⟩:=wx2 (f:=ent hf) (yq1 (prog:=prog) (w:=w) (a:=a) (ep:=ep) (es:=es)) xs S.el;refine Calls.call_function_entry kind_sorted plain_sorted entry_sorted (args_sorted1 _) ?_;unfold Builtin.«sorted»;refine wpAny_bind (m:=checkCount "sorted" 1 1 _) (wpAny_pure (wpAny_bind (kdu_collect (ts3 (o:=o) (t:=t)) hh S.obj hz λ h1 tk acc k1 ia=>?_)));rw [ul2 ia,ey,map_map,show ((λ x:Int × Value=>x.2) ∘ ent hf)=(λ x:T3 × Addr=>Value.ref x.2) from rfl];have l0:=py.length_eq;have l1:(ys.map λ x=>Value.ref x.2).length=ys.length:=length_map _;refine wpAny_bind (wpAny_newList ?_ (by rw [l1,l0,<- zs]; exact hz));have k2:∀ b o,s.heap.get? b=some o->(h1.push [81]).get? b=some o:=λ b o q=>Heap.get?_push_of_some _ (k1 b o q);have zo:(h1.push [81]).get? h1.objs.size=some [81]:=Heap.get?_push_size _ rfl;have tt:=Lw.mono (λ _ _=>ti3.kept λ b o e _=>k2 b o e) (ui3 (prog:=prog) (w:=w) (h:=s.heap) (ys:=ys) λ x hx=>S.ks x (py.mem_iff.mp hx));show wpAny _ _ _ _ _ { s with heap:=h1.push [81],toks:=tk };refine wpAny_bind (wpAny_holding (wpAny_call_entry slot_list_sort ⟨_,zo,rfl⟩ entry_list_sort (vb4 (s:={ s with heap:=h1.push [81],toks:=tk }) (ti3.sk tt) [19] zo (λ h' g=>ti3.keep zo g tt) (by rw [l1,l0]; omega) λ p h' c a1 a2 a3 a4=>⟨_,rfl,?_⟩) (args_list_sort _)));rw [l1] at a1 a2;exact wpAny_pure ⟨_,rfl,h ys p h1 h' c tk py a1 a2 k1 (λ b o q=>a3 b o (Nat.ne_of_lt (Heap.lt_size q)) (Heap.get?_push_of_some _ q)) a4⟩
end
abbrev vT (t:T3):List V:=[.int t.1,.int t.2.1,.int t.2.2]
def SB (ts:List T3):Prop:=∀ l:List T3,l.Nodup->(∀ x ∈ l,x ∈ ts)->l.length < 63
abbrev TSt:=L2.St->Hp->(List (T3 × Addr)->Hp->Prop)->Prop
def SE (X:Cx) (pins:[20]) (σ:L2.St) (R:List (T3 × Addr)->Hp->Prop) (u:Value) (s':[88]):Prop :=
 ∃ a xs H',u=.ref a /\ Inv X pins σ H' s' /\ FpOk X pins H' a /\ SetG X.prog X.w (hT X.prog X.w) s'.heap a xs /\ (∀ x ∈ xs,H' x.2=some (.tup (vT x.1))) /\ xs.length < 63 /\ R xs H'
def PSt (X:Cx) (e:Expr) (t:TSt):Prop :=
 ∀ (pins:[20]) (s:[88]) (σ:L2.St) (H:Hp) (R:List (T3 × Addr)->Hp->Prop),Inv X pins σ H s->t σ H R->wpAny [11] X.A (eval e X.env) (SE X pins σ R) X.xe s
theorem si3 {prog:[83]} {w:World} {h:Heap}:∀ {us:[27]} {ts:List T3} {i:Nat} {v:Value},T3s h us ts->us[i]?=some v->i < ts.length /\ ∃ b,v=.ref b /\ TK prog w h (ts.getD i (0,0,0)) b
 | [],[],i,v,_,e=>by simp at e
 | [],_ :: _,_,_,z,_=>z.elim
 | _ :: _,[],_,_,z,_=>z.elim
 | u :: us,t :: ts,0,v,z,e=>by
  simp only [List.getElem?_cons_zero,Option.some.injEq] at e;subst e;obtain ⟨a,o,t1,t2,t3,n,rfl,e2⟩:=id z.1;exact ⟨by simp,a,rfl,(show TK prog w h t a from IsT3.key z.1)⟩
 | u :: us,t :: ts,i + 1,v,z,e=>by
  simp only [List.getElem?_cons_succ] at e;obtain ⟨h1,b,h2,h3⟩:=si3 (prog:=prog) (w:=w) z.2 e;exact ⟨by simp only [length_cons]; omega,b,h2,h3⟩
theorem zi3 {K:Fg} {H:Hp}:∀ {vs:List V} {ts:List T3} {us:[27]} {i:Nat} {b:Addr},V3s K H vs ts->Vals vs us->us[i]?=some (.ref b)->H b=some (.tup (vT (ts.getD i (0,0,0))))
 | [],[],_,i,b,_,.nil,e=>by simp at e
 | [],_ :: _,_,_,_,z,_,_=>z.elim
 | _ :: _,[],_,_,_,z,_,_=>z.elim
 | v :: vs,t :: ts,_,0,b,z,.cons r rs,e=>by
  simp only [List.getElem?_cons_zero,Option.some.injEq] at e;subst e;obtain ⟨⟨a,rfl,hq⟩,_⟩:=z;cases r;exact hq
 | v :: vs,t :: ts,_,i + 1,b,z,.cons r rs,e=>by
  simp only [List.getElem?_cons_succ] at e;exact (show H b=some (.tup (vT (ts.getD i (0,0,0)))) from zi3 (K:=K) z.2 rs e)
variable {X:Cx} {e:Expr}
section
variable {p p2 pos pos2:Pos}
def tSetE (K:Fg) (ta:TA):TSt:=λ σ H R=>ta σ H λ xs H1=>∃ p vs ts,xs=[.ref p] /\ SqL K H1 p vs /\ V3s K H1 vs ts /\ SB ts ∧
 ∀ ys:List (T3 × Addr),(ys.map (·.1)).Nodup->(∀ t,t ∈ ys.map (·.1) ↔ t ∈ ts)->(∀ y ∈ ys,H1 y.2=some (.tup (vT y.1)))->R ys H1
theorem zd4 {items:[27]} {ts:List T3} {ys:List (T3 × Addr)} {Pr:Nat->Value->Prop} (hl:items.length=ts.length) (g:Got Pr (λ i=>ts.getD i (0,0,0)) items.length ys) (t:T3):t ∈ ys.map (·.1) ↔ t ∈ ts:=by
 constructor
 ·intro h;obtain ⟨y,hy,rfl⟩:=List.mem_map.mp h;obtain ⟨j,h1,_,h2⟩:=g.1 y hy;have h2:ts.getD j (0,0,0)=y.1:=h2;rw [<- h2,getD_eq_getElem?_getD,getElem?_eq_getElem [7]];exact getElem_mem _
 ·intro h;obtain ⟨j,hj,e⟩:=List.getElem_of_mem h;have:ts.getD j (0,0,0) ∈ _:=g.2 j [7]
  rwa [getD_eq_getElem?_getD,getElem?_eq_getElem hj,Option.getD_some,e] at this
theorem th2 {ta:TA} (hc:X.calm=true) (hu:[66]) (hg:Gl X "set") (hm:X.mg "set" = none) (ha:PA X [e] ta) (hs:starEach [e] X.env=[[26]]:=by rfl) :
    PSt X (.Call (.Name "set" p) [e] [] pos) (tSetE X.K ta):=by
 intro pins s σ H R I h;refine Call_ (ul0 I hg hm bz_set (PyProof.Rows.callWith_type1 (thn (ha pos pins s σ H _ I h) λ us s1 ⟨vs,H1,I1,r1,q1⟩=>?_) hs rfl));obtain ⟨a,ws,ts,e1,hq,h3,hB,k⟩:=q1;subst e1;cases r1 with
 | cons r rr =>
  cases rr;cases r
  have key:∀ {its:[27]},Vals ws its->(∀ l:List T3,l.Nodup->(∀ x ∈ l,∃ j,j < its.toArray.size /\ ts.getD j (0,0,0)=x)->l.length < 511) ∧
      (∀ i v,i < its.toArray.size->its.toArray[i]?=some v->∃ b,v=.ref b /\ TK X.prog X.w s1.heap (ts.getD i (0,0,0)) b) ∧
      ∀ (h':Heap) (tk:Nat) xs,KpH s1.heap h'->SetG X.prog X.w (hT X.prog X.w) h' s1.heap.objs.size xs->Got (λ i v=>its.toArray[i]?=some v) (λ i=>ts.getD i (0,0,0)) its.toArray.size xs->SE X pins σ R (.ref s1.heap.objs.size) { s1 with heap:=h',toks:=tk }:=λ {its} rv=>by
   have l1:=h3.len;have l2:=rv.length;have l3:its.toArray.size=its.length:=size_toArray
   have B:∀ l:List T3,l.Nodup->(∀ x ∈ l,∃ j,j < its.toArray.size /\ ts.getD j (0,0,0)=x)->l.length < 63:=λ l nd hl=>hB l nd λ x hx=>by
    obtain ⟨j,h1,h2⟩:=hl x hx;rw [<- h2,getD_eq_getElem?_getD,getElem?_eq_getElem [7]];exact getElem_mem _
   refine ⟨λ l nd hl=>Nat.lt_trans (B l nd hl) [8],λ i v lt e=>(si3 (sn1 I1 h3 rv) (by simpa using e)).2,λ h' tk xs kp sg g=>?_⟩;have sq:∀ x ∈ xs,H1 x.2=some (.tup (vT x.1)):=λ x hx=>?_
   ·exact ⟨_,xs,H1,rfl,I1.kept kp,I1.fpOk [19] (I1.hok.fresh [19]),sg,sq,g.len [19] sg.nd B,k xs sg.nd (zd4 (items:=its) [7] (by rw [<- l3]; exact g)) sq⟩
   obtain ⟨j,_,h2,h3'⟩:=g.1 x hx;have h3':ts.getD j (0,0,0)=x.1:=h3';have:=zi3 h3 rv (i:=j) (b:=x.2) (by simpa using h2)
   rwa [h3'] at this
  obtain ⟨its,rv,pl,hz⟩:=I1.list hq;obtain ⟨k1,k2,k3⟩:=key rv;exact vz0 (I1.ok.hd hc) [7] pl.isList k2 k1 k3
def tSrtS (K:Fg) (ts:TSt):TE:=λ σ H Q=>ts σ H λ xs H1=>∀ (ys:List (T3 × Addr)),ys.Perm xs->∀ q:Array Nat,q.Perm (List.toArray (List.range ys.length))->Ms.Up (ltI (ys.map (·.1))) q ys.length->V3s K H1 (ys.map λ x=>V.ref x.2) (ys.map (·.1)) ->
 ∀ r,H1 r=none->Q (.ref r) (upd H1 r (.lst (q.toList.map λ i=>(ys.map λ x=>V.ref x.2).getD i .non)))
theorem xi3 {K:Fg} {H:Hp}:∀ {ys:List (T3 × Addr)},(∀ x ∈ ys,H x.2=some (.tup (vT x.1)))->V3s K H (ys.map λ x=>V.ref x.2) (ys.map (·.1))
 | [],_=>trivial
 | y :: ys,h=>⟨⟨_,rfl,h y (mem_cons_self ..)⟩,xi3 (K:=K) λ x hx=>h x (mem_cons_of_mem _ hx)⟩
theorem tc2:∀ (ys:List (T3 × Addr)),Vals (ys.map λ x=>V.ref x.2) (ys.map λ x=>Value.ref x.2)
 | []=>.nil
 | y :: ys=>.cons rfl (tc2 ys)
theorem wy3 {ts:TSt} (hc:X.calm=true) (hg:Gl X "sorted") (hm:X.mg "sorted" = none) (hp:PSt X e ts) (hs:starEach [e] X.env=[[26]]:=by rfl):PE X (.Call (.Name "sorted" p) [e] [] pos) (tSrtS X.K ts):=by
 intro pins s σ H Q I h;refine Call_ (ul0 I hg hm sq2 (PyProof.Rows.callWith_builtin1 ?_ hs rfl));rw [hs];show wpAny _ _ (spliced ([26] :: backTo pos (starEach [] X.env))) _ _ s;refine Calls.spliced_cons ?_;refine thn (hp pins s σ H _ I h) λ u s1 q=>?_;obtain ⟨a,xs,H1,rfl,I1,fp,sg,sq,ln,k⟩:=q;refine Calls.spliced_nil ?_;refine tt1 (I1.ok.hd hc) sg [7] λ ys q h1 h' c tk py a1 a2 a3 a4 a5=>?_;have I2:Inv X pins σ H1 { s1 with heap:=h1,toks:=tk }:=I1.kept a3;have sz:q.toList.length=ys.length:=by have:=a1.size_eq; simpa using this
 have l0:=py.length_eq
 have lt':∀ i ∈ q.toList,i < (ys.map λ x=>V.ref x.2).length:=λ i hi=>by
  have e:i ∈ List.toArray (List.range ys.length):=a1.mem_iff.mp (by simpa using hi);rw [length_map];simpa using e
 refine ⟨.ref _,_,I2.laid (t':=tk) a4 [19] (show ObjOk X.prog X.w _ h' _ (.lst (q.toList.map λ i=>(ys.map λ x=>V.ref x.2).getD i .non)) from ⟨by rw [length_map,sz,sizeLine_eq]; omega,_,c,xe1 (tc2 ys) _ lt',a5⟩),rfl,?_⟩;exact k ys py q a1 a2 (xi3 λ x hx=>sq x (py.mem_iff.mp hx)) _ (I2.hok.fresh [19])
end
abbrev TSt3:=St3->Mu->(List T3->Mu->Prop)->Prop
def RdSt (K:Fg) (tv:TSt) (t:TSt3):Prop:=∀ σ H R ρ μ R3,RSt K H ρ σ->RelM K μ H->t ρ μ R3->(∀ xs μ' H',R3 (xs.map (·.1)) μ'->(xs.map (·.1)).Nodup->(∀ x ∈ xs,H' x.2=some (.tup (vT x.1)))->Kp H H'->RelM K μ' H'->R xs H')->tv σ H R
def REs (X:Cx) (e:Expr) (t:TSt3):Prop:=∃ tv,PSt X e tv /\ RdSt X.K tv t
def uq3 (t:TA3):TSt3:=λ ρ μ R=>t ρ μ λ ds μ1=>∃ ts,(match ds with
 | [.ref p]=>μ1 p=some (.lst (ts.map encT))
 | _=>False) /\ SB ts /\ ∀ ks:List T3,ks.Nodup->(∀ x,x ∈ ks ↔ x ∈ ts)->R ks μ1
def tq3 (t:TSt3):TE3:=λ ρ μ Q=>t ρ μ λ ks μ1=>∀ us:List T3,us.Perm ks->∀ r,μ1 r=none->Q (.ref r) (updM μ1 r (.lst (us.map encT)))
section
variable {p p2 pos pos2:Pos} {t:TE3}
theorem xu3 (he:RE X e t) (hm:X.mg "set" = none) (hu:[66]) (hc:X.calm=true:=by rfl) (hg:Gl X "set" := by rfl) (hs:starEach [e] X.env=[[26]]:=by rfl):REs X (.Call (.Name "set" p) [e] [] pos) (uq3 (cons3 t nil3)):=by
 obtain ⟨va,pa,ra⟩:=vn0 he sf1 hs;refine ⟨_,th2 hc hu hg hm pa hs,λ σ H R ρ μ R3 s m h k=>ra σ H _ ρ μ _ s m h λ ds μ1 vs H1 h1 k1 r1 m1=>?_⟩;obtain ⟨ts,hd,hB,q⟩:=h1;cases r1 with
 | nil=>exact hd.elim
 | cons r1 r2 =>
  cases r2 with
  | cons _ _=>cases r1 <;> exact hd.elim
  | nil =>
   cases r1 with
   | ref a =>
    obtain ⟨us,hv,rv⟩:=m1 a _ hd;exact ⟨a,us,ts,rfl,SqL.of hv,yi3 rv,hB,λ ys nd al sq=>k ys μ1 H1 (q _ nd al) nd sq k1 m1⟩
   | _=>exact hd.elim
theorem xv3 {ts:TSt3} (he:REs X e ts) (hm:X.mg "sorted" = none) (hc:X.calm=true:=by rfl) (hg:Gl X "sorted" := by rfl) (hs:starEach [e] X.env=[[26]]:=by rfl):RE X (.Call (.Name "sorted" p) [e] [] pos) (tq3 ts):=by
 obtain ⟨va,pa,ra⟩:=he;refine ⟨_,wy3 hc hg hm pa hs,λ σ H Q ρ μ Q3 s m h k=>ra σ H _ ρ μ _ s m h λ xs μ1 H1 h1 nd1 sq1 k1 m1=>?_⟩;intro ys py q a1 a2 v3 r hr;have l1:(ys.map (·.1)).length=ys.length:=length_map _;rw [<- l1] at a1 a2
 have lt':∀ i ∈ q.toList,i < (ys.map λ x=>V.ref x.2).length:=λ i hi=>by
  have e:i ∈ List.toArray (List.range (ys.map (·.1)).length):=a1.mem_iff.mp (by simpa using hi);rw [length_map] at e ⊢;simpa using e
 exact k _ _ _ _ (h1 _ ((se2 (d0:=((0,0,0):T3)) a1).trans (py.map _)) r (m1.free hr)) (k1.trans (Kp.new hr)) (.ref r) (m1.newL hr (sw0 (tp1 v3) _ lt'))
end
end Pv
namespace Pv
open PySem PySem.Spec PyProof.Rows L2
variable {X:Cx}
section
theorem RC.or {f:Value} {R1 R2:C3} (h1:RC X f R1) (h2:RC X f R2):RC X f (λ ds μ Q=>R1 ds μ Q \/ R2 ds μ Q):=by
 obtain ⟨c1,p1,r1⟩:=h1;obtain ⟨c2,p2,r2⟩:=h2
 exact ⟨λ xs H Q=>c1 xs H Q \/ c2 xs H Q,λ pins s σ H xs us Q I r h=>h.elim (p1 pins s σ H xs us Q I r) (p2 pins s σ H xs us Q I r),
  λ xs vs H Q μ Q3 m r h k=>h.elim (λ h=>.inl (r1 xs vs H Q μ Q3 m r h k)) λ h=>.inr (r2 xs vs H Q μ Q3 m r h k)⟩
theorem RC.le {f:Value} {R1 R2:C3} (h:RC X f R1) (e:∀ ds μ Q,R2 ds μ Q->R1 ds μ Q):RC X f R2:=by
 obtain ⟨c1,p1,r1⟩:=h;exact ⟨c1,p1,λ xs vs H Q μ Q3 m r h k=>r1 xs vs H Q μ Q3 m r (e _ _ _ h) k⟩
def minLR:C3:=λ ds μ Q=>match ds with
 | [.ref p]=>match μ p with
  | some (.lst l)=>match ints? l with
   | some ns=>0 < ns.length /\ ∀ m,m ∈ ns->(∀ a,a ∈ ns->m<=a)->Q (.int m) μ
   | none=>False
  | _=>False
 | _=>False
theorem zq2 (hc:X.calm=true):CallR X (.builtin "min") (λ xs H Q=>∃ (p:Addr) (ns:List Int),xs=[.ref p] /\ SqL X.K H p (ns.map V.int) /\ 0 < ns.length /\ ∀ m,m ∈ ns->(∀ a,a ∈ ns->m<=a)->Q (.int m) H):=by
 intro pins s σ H xs us Q I r h;obtain ⟨p,ns,rfl,hq,hne,q⟩:=h;obtain ⟨u,rfl,rx⟩:=zr0 r;cases rx;obtain ⟨its,r',pl,hz⟩:=I.list hq;have hi:=zx0 r';obtain ⟨ys,e⟩:=hi.allInts.items;have hl:=pl.isList;rw [e] at hl;have hns:ns=ys.toList.map (·.1):=by rw [<- hi.numsOf,<- nums_intItems,<- e]
 have hsz:0 < ys.size:=by
  have h3:=hne; rw [hns,length_map,length_toList] at h3; exact h3
 refine min_intList (I.ok.hd hc) hl hsz λ v h' tk hv hk=>?_;obtain ⟨t,rfl⟩:=intItems_at hv;obtain ⟨h1,h2⟩:=argBest_lt (numAt ys) (ys.size - 1);refine ⟨.int _,H,I.kept (t':=tk) hk,⟨t,rfl⟩,q _ ?_ λ a ha=>?_⟩
 ·rw [hns,numAt_eq]; exact getD_mem (by rw [length_map,length_toList]; omega)
 ·rw [hns] at ha;obtain ⟨j,hj,rfl⟩:=mem_getD ha;rw [length_map,length_toList] at hj;rw [<- numAt_eq]; exact h2 j [7]
theorem vf5 (hc:X.calm=true):RC X (.builtin "min") minLR:=by
 refine ⟨_,zq2 hc,λ xs vs H Q μ Q3 m r h k=>?_⟩;unfold minLR at h;split at h
 ·next p =>
  cases r with
  | cons r1 r2 =>
   cases r2;cases r1;split at h
   ·next l e =>
    split at h
    ·next ns e1 =>
     obtain ⟨vs,hv,rs⟩:=m p l e;have ev:=zb1 rs e1;subst ev;exact ⟨p,ns,rfl,SqL.of hv,h.1,λ a h1 h2=>k _ _ _ _ (h.2 a h1 h2) [37] (.int _) m⟩
    ·exact h.elim
   ·exact h.elim
 ·exact h.elim
theorem q_mn (hc:X.calm=true) (hu:[66]):RC X (.builtin "min") mnR:=by
 refine ((uf5 hc).or ((q_min hc hu).or (vf5 hc))).le λ ds μ Q h=>?_;unfold mnR at h;split at h
 ·exact .inl h
 ·exact .inr (.inl h)
 ·exact .inr (.inr h)
 ·exact h.elim
end
theorem yk2:typeLookup (.type "list_reverseiterator") "__len__" = pure none:=by rw [typeLookup_type,builtinLookup_eq_fast]; kernel_rfl
theorem vz2:typeLookup (.type "list_reverseiterator") "__length_hint__" = pure (some (.builtin "list_reverseiterator.__length_hint__")):=by rw [typeLookup_type,builtinLookup_eq_fast]; kernel_rfl
theorem wz2:isSubtype (.type "list_reverseiterator") (.type "list_reverseiterator")=pure true:=by rw [isSubtype_type]; kernel_rfl
variable {prog:[83]} {w:World} {A:Around} {E Q:[9]} {s:[88]}
section
variable {R:Result->Shared->Prop} {I l:Addr} {items:Array Value}
theorem sd4 (hh:A.handled=none) (hne:l ≠ I) (S:Addr) (res:Value) (c₀:Nat) (hit:s.heap.IsRevIter I l ((items.size:Int) - 1)) (hl:s.heap.IsList l items) (hSI:S ≠ I) (hSl:S ≠ l)
    (hS:s.heap.get? S=some { cls:=.type "list",data:=.seq #[] c₀ }) (hn:items.size<=sizeLine)
    (hR:∀ h' tk acc' c',(∀ b o,b ≠ S->b ≠ I->s.heap.get? b=some o->h'.get? b=some o)->h'.get? S=some { cls:=.type "list",dict:=none,data:=.seq acc' c',slots:=#[] } ->
     ItemsOf (λ i v=>items[items.size - 1 - i]?=some v) acc' items.size->R (.ok (.ret res)) [21]) :
    wpAny [13] A.in1 (Builtin.List.listExtendWith (.ref S) (.ref I) res)
     (λ fin s'=>match fin with | .done f=>R (.ok f) s' | .again c'=>c'.quiet=true /\ codeAny [13] A c' R s') (λ e s'=>R (.error e) s') s:=by
 have hSf:S ∉ [I,l]:=λ hm=>by
  rcases List.mem_cons.mp hm with e | hm
  ·exact hSI e
  ·exact hSl (List.mem_singleton.mp hm)
 unfold Builtin.List.listExtendWith;refine wpAny_bind (wpAny_typeOf hit.typeIs ?_);have h1:Builtin.List.listSameRef (.ref S) (.ref I)=false:=by simp [Builtin.List.listSameRef,hSI]
 have h2:(Value.type "list_reverseiterator" == Value.type "list")=false:=by decide
 have h3:(Value.type "list_reverseiterator" == Value.type "tuple")=false:=by decide
 simp only [h1,h2,h3,Bool.or_false,Bool.false_eq_true,if_false];refine wpAny_bind (wpAny_pyIter_revIter hit ?_);refine wpAny_bind (wpAny_holding ?_);unfold Builtin.List.listLengthHint;refine wpAny_bind (wpAny_specialOf hit.typeIs yk2 ?_);show wpAny _ A.in1 (specialOf (Value.ref I) (Str.ofString "__length_hint__") >>= _) _ _ _;refine wpAny_bind (wpAny_specialOf hit.typeIs vz2 ?_)
 wp_delta
 refine wpAny_bind (wpAny_isInstance (b:=true) hit.typeIs wz2 ?_);refine wpAny_pure ?_;rw [if_neg [8]];have st0:0<=items.size /\ s.heap.IsRevIter I l ((items.size:Int) - 1 - ((0:Nat):Int)) /\ s.heap.IsList l items:=⟨Nat.zero_le _,by simpa using hit,hl⟩;refine wpAny_pure ⟨plainId_quiet F.plain_extend_loop _,codeAny_extend_loopS (Walks.listRev (A:=A.in1) hh I l hne items).toS hn _ hSf _ items.size 0 _ _ _ rfl (Nat.zero_le _) st0 hS (ItemsOf.nil _) λ s' acc' c' hm hS' hacc=>?_⟩;rw [Moved.eq_with hm];refine hR s'.heap s'.toks acc' c' (λ b ob hb hbI e=>hm.heap b ob (λ hmem=>?_) e) hS' hacc;rcases List.mem_cons.mp hmem with e' | hmem
 ·exact hb e'
 ·exact hbI (List.mem_singleton.mp hmem)
theorem yb3 (hh:A.handled=none) (hne:l ≠ I) (S:Addr) (hit:s.heap.IsRevIter I l ((items.size:Int) - 1)) (hl:s.heap.IsList l items) (hSI:S ≠ I) (hSl:S ≠ l)
    (hS:s.heap.get? S=some { cls:=.type "list",data:=.seq #[] }) (hn:items.size<=sizeLine)
    (hR:∀ h' tk acc' c',(∀ b o,b ≠ S->b ≠ I->s.heap.get? b=some o->h'.get? b=some o)->h'.get? S=some { cls:=.type "list",dict:=none,data:=.seq acc' c',slots:=#[] } ->
     ItemsOf (λ i v=>items[items.size - 1 - i]?=some v) acc' items.size->R (.ok (.ret .none)) [21]) :
    wpAny [13] A.in1 (Builtin.«list.__init__» ⟨[.ref S,.ref I],[]⟩)
     (λ fin s'=>match fin with | .done f=>R (.ok f) s' | .again c'=>c'.quiet=true /\ codeAny [13] A c' R s') (λ e s'=>R (.error e) s') s:=by
 show wpAny _ _ (do let old <- Builtin.List.listItems (.ref S); Builtin.List.listUpdate (.ref S) (λ _=>#[]); letGo old.toList.reverse; Builtin.List.listExtendWith (.ref S) (.ref I) .none) _ _ s;refine wpAny_bind ?_;unfold Builtin.List.listItems;refine wpAny_bind (wpAny_seqItems hS rfl [35]);show wpAny _ _ (updateSeq S (λ _=>#[]) >>= λ _=>letGo (#[]:Array Value).toList.reverse >>= λ _=>Builtin.List.listExtendWith (.ref S) (.ref I) .none) _ _ s;refine wpAny_bind (wpAny_updateSeq hS rfl ?_);have hS₂:=Heap.get?_update_self (Obj.mapSeq (λ _=>(#[]:Array Value))) hS rfl
 have oth:∀ b o,b ≠ S->s.heap.get? b=some o->(s.heap.update S (Obj.mapSeq (λ _=>(#[]:Array Value)))).get? b=some o :=
  λ b o hb e=>(Heap.get?_update_other _ _ (Ne.symm hb)).trans e
 refine wpAny_bind (wpAny_letGo ?_);refine sd4 (s:={ s with heap:=s.heap.update S (Obj.mapSeq (λ _=>(#[]:Array Value))) }) hh hne S .none _ (hit.at λ o e=>oth I o (Ne.symm hSI) e) (hl.at λ o e=>oth l o (Ne.symm hSl) e) hSI hSl hS₂ hn λ h' tk acc' c' hk hS' hacc=>?_;exact hR h' tk acc' c' (λ b o hb hbI e=>hk b o hb hbI (oth b o hb e)) hS' hacc
theorem yd1 (hh:A.handled=none) (hne:l ≠ I) (hit:s.heap.IsRevIter I l ((items.size:Int) - 1)) (hl:s.heap.IsList l items) (hn:items.size<=sizeLine)
    (hQ:∀ h' tk acc' c',(∀ b o,b ≠ I->s.heap.get? b=some o->h'.get? b=some o) ->
     h'.get? s.heap.objs.size=some { cls:=.type "list",dict:=none,data:=.seq acc' c',slots:=#[] }->ItemsOf (λ i v=>items[items.size - 1 - i]?=some v) acc' items.size->Q [70] [21]) :
    wpAny [13] A (call (.type "list") [.ref I]) Q E s:=by
 refine callType_codes (Q₁:=λ obj s₁=>obj=.ref s.heap.objs.size /\ s₁={ s with heap:=s.heap.push { cls:=.type "list",data:=.seq #[] } }) F.called_list (F.typeCall_list_1 _) F.entry_list_init
  (code_list_new _ ⟨rfl,rfl⟩) λ obj s₁ h₁=>?_
 obtain ⟨rfl,rfl⟩:=h₁;have hS:(s.heap.push { cls:=.type "list",data:=.seq #[] }).get? s.heap.objs.size=some { cls:=.type "list",data:=.seq #[] }:=Heap.get?_push_size _ rfl;obtain ⟨oi,ei,_⟩:=id hit;obtain ⟨ol,el,_⟩:=id hl;refine ⟨⟨_,hS,rfl⟩,F.args_list_init_2 _ _,yb3 (A:=A.in1) (s:={ s with heap:=s.heap.push { cls:=.type "list",data:=.seq #[] } }) hh hne _ (hit.at λ o e=>Heap.get?_push_of_some _ e) (hl.at λ o e=>Heap.get?_push_of_some _ e) (Ne.symm (Nat.ne_of_lt (Heap.lt_size ei))) (Ne.symm (Nat.ne_of_lt (Heap.lt_size el))) hS hn λ h' tk acc' c' hk hS' hacc=>?_⟩;exact ⟨rfl,hQ h' tk acc' c' (λ b o hb e=>hk b o (Nat.ne_of_lt [102]) hb (Heap.get?_push_of_some _ e)) hS' hacc⟩
end
section
variable {e:Expr} {te:TE3} {p p2 pos pos2:Pos}
def tLrev (ta:TA):TE:=λ σ H Q=>ta σ H λ xs H1=>∃ q ys,xs=[.ref q] /\ H1 q=some (.lst ys) /\ ∀ r,H1 r=none->Q (.ref r) (upd H1 r (.lst ys.reverse))
theorem tl2 {its:[27]} {acc:Array Value} (h:ItemsOf (λ i v=>its.toArray[its.toArray.size - 1 - i]?=some v) acc its.toArray.size):acc=its.reverse.toArray:=by
 obtain ⟨h0,h2⟩:=h;have h1:acc.size=its.length:=by simpa using h0
 apply Array.ext_getElem?;intro j;rcases Nat.lt_or_ge j its.length with hj | hj
 ·have e1:acc[j]?=some (acc[j]'(by omega)):=Array.getElem?_eq_getElem [7];have e2:=h2 j _ e1;rw [size_toArray,List.getElem?_toArray] at e2;rw [e1,List.getElem?_toArray,List.getElem?_reverse hj];exact e2.symm
 ·rw [getElem?_eq_none [7],List.getElem?_toArray,List.getElem?_eq_none (by rw [List.length_reverse]; exact hj)]
theorem tf3 {xs:List V} {us:[27]} (r:Vals xs us):Vals xs.reverse us.reverse:=by
 induction r with
 | nil=>exact .nil
 | cons r1 _ ih =>
  rw [reverse_cons,reverse_cons];exact ih.append (.cons r1 .nil)
theorem uy3 {ta:TA} (hc:X.calm=true) (hg:Gl X "list") (hm:X.mg "list" = none) (hg2:Gl X "reversed") (hm2:X.mg "reversed" = none) (ha:PA X [e] ta)
    (hs:starEach [e] X.env=[[26]]:=by rfl)
    (hs2:starEach [.Call (.Name "reversed" p2) [e] [] pos2] X.env=[(false,eval (.Call (.Name "reversed" p2) [e] [] pos2) X.env)]:=by rfl) :
    PE X (.Call (.Name "list" p) [.Call (.Name "reversed" p2) [e] [] pos2] [] pos) (tLrev ta):=by
 intro pins s σ H Q I h;refine Call_ (ul0 I hg hm vf4 (PyProof.Rows.callWith_type1 ?_ hs2 rfl));rw [hs2];show wpAny _ _ (spliced ((false,eval (.Call (.Name "reversed" p2) [e] [] pos2) X.env) :: backTo pos (starEach [] X.env))) _ _ s;refine Calls.spliced_cons ?_;refine Call_ (ul0 I hg2 hm2 yn1 (PyProof.Rows.callWith_type1 (thn (ha pos2 pins s σ H _ I h) λ us s1 ⟨vs,H1,I1,r1,q1⟩=>?_) hs rfl));obtain ⟨q,ys,e1,hq,k⟩:=q1;subst e1;cases r1 with
 | cons r rr =>
  cases rr;cases r;obtain ⟨z,its,n,rv,hl,eo⟩:=I1.lstM hq;have hL:s1.heap.IsList q its.toArray:=⟨_,eo,rfl,n,rfl⟩;refine call_reversed_list hL ?_;refine Calls.spliced_nil ?_;have hne:q ≠ s1.heap.objs.size:=Nat.ne_of_lt (Heap.lt_size eo);have hlen:=rv.length;refine yd1 (s:={ s1 with heap:=s1.heap.push (revObj q ((its.toArray.size:Int) - 1)) }) (I.ok.hd hc) hne [57] (hL.at λ o e=>Heap.get?_push_of_some _ e) (by rw [size_toArray]; omega) λ h' tk acc' c' hk hS' hacc=>?_;have ea:=tl2 hacc;subst ea;have hk2:∀ b o,s1.heap.get? b=some o->h'.get? b=some o:=λ b o e=>hk b o (Nat.ne_of_lt [102]) (Heap.get?_push_of_some _ e);have hsz:s1.heap.objs.size<=(s1.heap.push (revObj q ((its.toArray.size:Int) - 1))).objs.size:=by rw [Heap.size_push]; exact Nat.le_succ _
  exact ⟨.ref _,_,I1.laid (t':=tk) hk2 hsz (show ObjOk X.prog X.w _ h' _ (.lst ys.reverse) from ⟨by rw [List.length_reverse]; omega,its.reverse,c',tf3 rv,hS'⟩),rfl,k _ (I1.hok.fresh hsz)⟩
theorem vm0 {K:Fg} {H:Hp}:∀ {xs:List D} {us:List V},RelDs K H xs us->RelDs K H xs.reverse us.reverse
 | _,_,.nil=>.nil
 | _,_,.cons r1 r2=>by
  rw [reverse_cons,reverse_cons];exact (vm0 r2).append (.cons r1 .nil)
theorem zv3 (he:RE X e te) (hm:X.mg "list" = none) (hm2:X.mg "reversed" = none) (hc:X.calm=true:=by rfl) (hg:Gl X "list" := by rfl) (hg2:Gl X "reversed" := by rfl) (hs:starEach [e] X.env=[[26]]:=by rfl)
    (hs2:starEach [.Call (.Name "reversed" p2) [e] [] pos2] X.env=[(false,eval (.Call (.Name "reversed" p2) [e] [] pos2) X.env)]:=by rfl) :
    RE X (.Call (.Name "list" p) [.Call (.Name "reversed" p2) [e] [] pos2] [] pos) (lrev3 te):=by
 obtain ⟨va,pa,ra⟩:=vn0 he sf1 hs;refine ⟨_,uy3 hc hg hm hg2 hm2 pa hs hs2,λ σ H Q ρ μ Q3 s m h k=>ra σ H _ ρ μ _ s m h λ ds μ1 vs H1 h1 k1 r1 m1=>?_⟩;cases r1 with
 | nil=>exact False.elim h1
 | cons r1 r2 =>
  cases r2 with
  | cons _ _=>cases r1 <;> exact False.elim h1
  | nil =>
   cases r1 with
   | ref q =>
    dsimp only at h1;cases e0:μ1 q with
    | none=>rw [e0] at h1; exact h1.elim
    | some oo =>
     cases oo with
     | ins _ _=>rw [e0] at h1; exact h1.elim
     | dck _=>rw [e0] at h1; exact h1.elim
     | lst l =>
      rw [e0] at h1;obtain ⟨ys,hv,rs⟩:=m1 q l e0;exact ⟨q,ys,rfl,hv,λ r hr=>k _ _ _ _ (h1 r (m1.free hr)) (k1.trans (Kp.new hr)) (.ref r) (m1.newL hr (vm0 rs))⟩
   | _=>exact False.elim h1
theorem q_str:RC X (.type "str") strR:=by
 refine ⟨_,vi1,λ xs vs H Q μ Q3 m r h k=>?_⟩;cases r with
 | nil=>exact False.elim h
 | cons r1 r2 =>
  cases r2 with
  | cons _ _=>cases r1 <;> exact False.elim h
  | nil =>
   cases r1 with
   | int i=>exact ⟨i,rfl,h.1,k _ _ _ _ h.2 [37] (.str _) m⟩
   | _=>exact False.elim h
variable {o:Expr} {es:List Expr} {to:TE3} {t:TA3} {apos cpos:Pos}
theorem tg2 {name:Str} {id:String} {r:V->List V->Hp->VK->Prop} {r3:Str->List D->Mu->VK3->Prop} (slot:Slot "str" name id) (hty:typeOf (.builtin id)=pure (.type "method_descriptor")) (hm:MtR X id r)
    (hrd:∀ z xs vs H Q μ Q3,RelM X.K μ H->RelDs X.K H xs vs->r3 z xs μ Q3->Ks X.K H Q3 Q->r (.str z) vs H Q) (ho:RE X o to) (ha:RA X (e :: es) t)
    (hbase:attributeBase o name X.env (eval o X.env)=eval o X.env)
    (hfew:([44].all (λ x=>!x.1) && [52].all (λ x=>x.1.isSome)
     && decide [15])=true)
    (hline:[77]=true) (hs:starEach (e :: es) X.env=[26] :: starEach es X.env) (hplain:[31].any (·.1)=false) :
    RE X (.Call (.Attribute o name apos) (e :: es) [] cpos) (smt3 r3 to t):=by
 obtain ⟨va,pa,ra⟩:=ho;obtain ⟨vb,pb,rb⟩:=ha;refine ⟨_,zj5 PySem.F.plainAttrs_str slot hty hm pa pb hbase hfew hline hs hplain,λ σ H Q ρ μ Q3 s m h k=>ra σ H _ ρ μ _ s m h λ d μ1 v H1 h1 k1 r1 m1=>?_⟩;cases r1 with
 | str z=>exact ⟨rfl,rb σ H1 _ ρ μ1 _ [90] m1 h1 λ xs μ2 ys H2 h2 k2 r2 m2=>hrd z xs ys H2 Q μ2 Q3 m2 r2 h2 (k.after (k1.trans k2))⟩
 | _=>exact False.elim h1
theorem vy0 {K:Fg} {H:Hp}:∀ (l:[29]),RelDs K H (l.map D.str) (l.map V.str)
 | []=>.nil
 | y :: l=>.cons (.str y) (vy0 l)
theorem tj2:MtR X "str.startswith" (λ x xs H Q=>∃ z y,x=.str z /\ xs=[.str y] /\ Q (.bl (Txt.startswith z y)) H):=by
 intro pins s σ H x xs v us Q I rx rv h;obtain ⟨z,y,rfl,rfl,q⟩:=h;obtain ⟨t,rfl⟩:=rx;obtain ⟨u,rfl,t',rfl⟩:=rv.one;exact SC.startswith ⟨.bl _,H,I,rfl,q⟩
theorem sv0:∀ {ys:[29]} {us:[27]},Vals (ys.map V.str) us->StrsAre us ys
 | [],us,r=>by cases r; exact .nil
 | y :: ys,us,r=>by
  cases r with
  | cons r1 r2 =>
   obtain ⟨t,rfl⟩:=r1;exact .cons y t (sv0 r2)
theorem sa4:MtR X "str.join" (λ x xs H Q=>∃ z p ys,x=.str z /\ xs=[.ref p] /\ SqL X.K H p (ys.map V.str) /\ (z.length<=16 /\ (ys.map (·.length)).sum + ys.length<=1048576) /\ Q (.str (Str.join z ys)) H):=by
 intro pins s σ H x xs v us Q I rx rv h;obtain ⟨z,p,ys,rfl,rfl,hq,hz,q⟩:=h;obtain ⟨t,rfl⟩:=rx;obtain ⟨u,rfl,ru⟩:=rv.one;cases ru;obtain ⟨its,r,pl,hsz⟩:=I.list hq;refine join_listW pl.isList (sv0 r) hz.1 hz.2 λ t' k=>?_;refine ⟨.str (Str.join z ys),H,I.tok _,⟨t',?_⟩,q⟩;show Value.str (Builtin.Str.glued z ys) t'=_;rw [StrLaws.glued_eq_join]
theorem wj0:∀ (l:List (Str × Tok)),Vals ((l.map (·.1)).map V.str) (strValues l)
 | []=>.nil
 | (y,t) :: l=>.cons ⟨t,rfl⟩ (wj0 l)
theorem ve2 {x y:Str} {t u:Tok} (hy:(y.length == 0)=false) (hsz:x.length<=sizeLine)
    (hsz2:(Builtin.Str.partsBetween x (Builtin.Str.occurrences x y 0 x.length (x.length + 1)) y.length).length<=sizeLine)
    (hq:∀ l tk,l.map (·.1)=Txt.split x y->Q [70] { s with heap:=s.heap.push { cls:=.type "list",data:=.seq (strValues l).toArray },toks:=tk }) :
    wpAny [13] A (call (.builtin "str.split") [.str x t,.str y u]) Q E s:=by
 cases h1:(decide (x.length < y.length) || decide (Builtin.Str.strKind x < Builtin.Str.strKind y))
 ·cases hf:(Builtin.Str.occurrences x y 0 x.length (x.length + 1)).isEmpty
  ·refine call_meets F.slot_str_split (typeIs_str _ _ _) F.entry_str_split (F.args_str_split_2 _ _) (meets_str_split_sep x y t u h1 hy hf hsz hsz2) ?_;show wants Q E _ { s with toks:=_,heap:=s.heap.push { cls:=.type "list",data:=.seq (strsFrom s.toks (Builtin.Str.partsBetween x (Builtin.Str.occurrences x y 0 x.length (x.length + 1)) y.length)).toArray } };rw [strsFrom_eq];exact hq (numbered s.toks _) _ ((numbered_texts _ _).trans ((if_neg (ne_true_of_eq_false h1)).trans (if_neg (ne_true_of_eq_false hf))).symm)
  ·exact call_meets F.slot_str_split (typeIs_str _ _ _) F.entry_str_split (F.args_str_split_2 _ _) (meets_str_split_not_found x y t u h1 hy hf)
     (hq [(x,t)] _ ((if_neg (ne_true_of_eq_false h1)).trans (if_pos hf)).symm)
 ·exact call_meets F.slot_str_split (typeIs_str _ _ _) F.entry_str_split (F.args_str_split_2 _ _) (meets_str_split_cannot_occur x y t u h1)
    (hq [(x,t)] _ (if_pos h1).symm)
theorem sy2:MtR X "str.split" (λ x xs H Q=>∃ z y,x=.str z /\ xs=[.str y] /\ ((y.length == 0)=false /\ z.length<=1000000) /\ ∀ r,H r=none->Q (.ref r) (upd H r (.lst ((Txt.split z y).map V.str)))):=by
 intro pins s σ H x xs v us Q I rx rv h;obtain ⟨z,y,rfl,rfl,hz,q⟩:=h;obtain ⟨t,rfl⟩:=rx;obtain ⟨u,rfl,t',rfl⟩:=rv.one;have hbig:1000010<=sizeLine:=by decide
 have hzl:z.length<=sizeLine:=by have:=hz.2; omega
 have hz2:=hz.2
 have hn:(Builtin.Str.partsBetween z (Builtin.Str.occurrences z y 0 z.length (z.length + 1)) y.length).length<=sizeLine:=by
  rw [len_partsBetween];have:=StrLaws.occ_length_le z y 0 z.length (z.length + 1);omega
 refine ve2 hz.1 hzl hn λ l tk e=>?_;rw [<- e] at q;refine ⟨.ref _,_,I.laid (t':=tk) (λ b o e=>Heap.get?_push_of_some _ e) [19] (show ObjOk X.prog X.w _ _ _ (.lst ((l.map (·.1)).map V.str)) from ⟨?_,strValues l,0,wj0 l,Heap.get?_push_size _ rfl⟩),rfl,q _ (I.hok.fresh [19])⟩;rw [length_map,e];exact Nat.le_trans (split_le z y) [7]
theorem tz0 (ho:RE X o to) (ha:RA X (e :: es) t) (hbase:attributeBase o "startswith" X.env (eval o X.env)=eval o X.env:=by rfl)
    (hfew:([44].all (λ x=>!x.1) && [52].all (λ x=>x.1.isSome)
     && decide [15])=true:=by rfl)
    (hline:[77]=true:=by rfl) (hs:starEach (e :: es) X.env=[26] :: starEach es X.env:=by rfl) (hplain:[31].any (·.1)=false:=by rfl) :
    RE X (.Call (.Attribute o "startswith" apos) (e :: es) [] cpos) (smt3 startsR to t):=by
 refine tg2 PySem.F.slot_str_startswith PySem.F.type_str_startswith tj2 (λ z xs vs H Q μ Q3 m rx h k=>?_) ho ha hbase hfew hline hs hplain;cases rx with
 | nil=>exact False.elim h
 | cons r1 r2 =>
  cases r2 with
  | cons _ _=>cases r1 <;> exact False.elim h
  | nil =>
   cases r1 with
   | str y=>exact ⟨z,y,rfl,rfl,k _ _ _ _ h [37] (.bl _) m⟩
   | _=>exact False.elim h
theorem sv2 (ho:RE X o to) (ha:RA X (e :: es) t) (hbase:attributeBase o "split" X.env (eval o X.env)=eval o X.env:=by rfl)
    (hfew:([44].all (λ x=>!x.1) && [52].all (λ x=>x.1.isSome)
     && decide [15])=true:=by rfl)
    (hline:[77]=true:=by rfl) (hs:starEach (e :: es) X.env=[26] :: starEach es X.env:=by rfl) (hplain:[31].any (·.1)=false:=by rfl) :
    RE X (.Call (.Attribute o "split" apos) (e :: es) [] cpos) (smt3 splitR to t):=by
 refine tg2 PySem.F.slot_str_split PySem.F.type_str_split sy2 (λ z xs vs H Q μ Q3 m rx h k=>?_) ho ha hbase hfew hline hs hplain;cases rx with
 | nil=>exact False.elim h
 | cons r1 r2 =>
  cases r2 with
  | cons _ _=>cases r1 <;> exact False.elim h
  | nil =>
   cases r1 with
   | str y=>exact ⟨z,y,rfl,rfl,h.1,λ r hr=>k _ _ _ _ (h.2 r (m.free hr)) (Kp.new hr) (.ref r) (m.newL hr (vy0 _))⟩
   | _=>exact False.elim h
theorem wv3 (ho:RE X o to) (ha:RA X (e :: es) t) (hbase:attributeBase o "join" X.env (eval o X.env)=eval o X.env:=by rfl)
    (hfew:([44].all (λ x=>!x.1) && [52].all (λ x=>x.1.isSome)
     && decide [15])=true:=by rfl)
    (hline:[77]=true:=by rfl) (hs:starEach (e :: es) X.env=[26] :: starEach es X.env:=by rfl) (hplain:[31].any (·.1)=false:=by rfl) :
    RE X (.Call (.Attribute o "join" apos) (e :: es) [] cpos) (smt3 joinR to t):=by
 refine tg2 PySem.F.slot_str_join PySem.F.type_str_join sa4 (λ z xs vs H Q μ Q3 m rx h k=>?_) ho ha hbase hfew hline hs hplain;cases rx with
 | nil=>exact False.elim h
 | cons r1 r2 =>
  cases r2 with
  | cons _ _=>cases r1 <;> exact False.elim h
  | nil =>
   cases r1 with
   | ref p =>
    dsimp only [joinR] at h;cases e0:μ p with
    | none=>rw [e0] at h; exact h.elim
    | some oo =>
     cases oo with
     | ins _ _=>rw [e0] at h; exact h.elim
     | dck _=>rw [e0] at h; exact h.elim
     | lst l =>
      rw [e0] at h;dsimp only at h;cases e1:strs? l with
      | none=>rw [e1] at h; exact h.elim
      | some ys =>
       rw [e1] at h;obtain ⟨ws,hv,rs⟩:=m p l e0;have ev:=up0 rs e1;subst ev;exact ⟨z,p,ys,rfl,rfl,SqL.of hv,h.1,k _ _ _ _ h.2 [37] (.str _) m⟩
   | _=>exact False.elim h
theorem vy4 (ho:RE X o to) (hbase:attributeBase o "pop" X.env (eval o X.env)=eval o X.env:=by rfl) (hline:[77]=true:=by rfl) :
    RE X (.Call (.Attribute o "pop" apos) [] [] cpos) (pop3 to):=by
 obtain ⟨va,pa,ra⟩:=ho;refine ⟨_,yj5 PySem.F.plainAttrs_list PySem.F.slot_list_pop PySem.F.type_list_pop mt_pop pa hbase hline,λ σ H Q ρ μ Q3 s m h k=>ra σ H _ ρ μ _ s m h λ d μ1 v H1 h1 k1 r1 m1=>?_⟩;cases r1 with
 | ref p =>
  dsimp only at h1;cases e0:μ1 p with
  | none=>rw [e0] at h1; exact h1.elim
  | some oo =>
   cases oo with
   | ins _ _=>rw [e0] at h1; exact h1.elim
   | dck _=>rw [e0] at h1; exact h1.elim
   | lst l =>
    rw [e0] at h1;dsimp only at h1;obtain ⟨vs,hv,rs⟩:=m1 p l e0;have rr:=vm0 rs;cases er:l.reverse with
    | nil=>rw [er] at h1; exact h1.elim
    | cons d r =>
     rw [er] at h1 rr;generalize ev:vs.reverse=vr at rr;cases rr with
     | cons r1 r2 =>
      rename_i w ws;have e1:vs=ws.reverse ++ [w]:=by rw [<- List.reverse_reverse vs,ev,reverse_cons]
      subst e1;refine ⟨.inl ⟨rfl,_,SqL.of hv⟩,p,_,w,rfl,rfl,hv,by simp,?_⟩;rw [List.dropLast_concat];exact k _ _ _ _ h1 (k1.trans (Kp.wr hv)) (r1.mono (Kp.wr hv)) (m1.wr hv (vm0 r2))
 | _=>exact False.elim h1
end
end Pv
namespace Pv
open PySem PySem.Spec PySem.W PyProof.Rows L2
end Pv
namespace Pv
open PySem
abbrev vi0:D:=.int 30
abbrev sf0:D:=.int 4
abbrev vg0:D:=.int 20
abbrev ve0:D:=.int 99999999999999999999
abbrev uc0:D:=.int 400
abbrev td0:D:=.ktp [.str "go",.str "jump",.str "turn"]
abbrev vd0:D:=.ktp [.str "go",.str "times"]
abbrev zg0:D:=.ktp [.int 0,.int 0,.int 0]
abbrev ui0:D:=.ktp [.ktp [.int 1,.int 0],.ktp [.int 0,.int 1],.ktp [.int (-1),.int 0],.ktp [.int 0,.int (-1)]]
abbrev sl0:D:=.str "0123456789"
abbrev tl0:D:=.str "abcdefghijklmnopqrstuvwxyz"
abbrev wg0:D:=.int 8
abbrev sg1:D:=.str "kept"
abbrev tf0:D:=.str "bad line"
abbrev ue0:D:=.str "no such name"
abbrev we0:D:=.str "too great"
def tn0:Str->Option Bool:=λ x=>if x = "show" then some true else if x = "pen" then some true else if x = "drawn" then some true else if x = "strokes" then some true else if x = "trails" then some true else if x = "same" then some true else if x = "shape" then some true else none
def uh0 (spx_q51 spx_q37 spx_q18 spx_q55 spx_q65 spx_q47 spx_q49:[41]):Str->Option (XE3->Sp3):=λ x=>if x = "show" then some spx_q51 else if x = "pen" then some spx_q37 else if x = "drawn" then some spx_q18 else if x = "strokes" then some spx_q55 else if x = "trails" then some spx_q65 else if x = "same" then some spx_q47 else if x = "shape" then some spx_q49 else none
def sa0:Str->Option Int:=λ x=>if x = "drop" then some 1 else if x = "join" then some 3 else if x = "show" then some 1 else if x = "names" then some 0 else if x = "pen" then some 1 else if x = "drawn" then some 1 else if x = "strokes" then some 1 else if x = "trails" then some 1 else if x = "same" then some 2 else if x = "shape" then some 2 else none
def ta0:Str->Option Bool:=λ x=>if x = "drop" then some true else if x = "join" then some true else if x = "show" then some true else if x = "names" then some true else if x = "pen" then some true else if x = "drawn" then some true else if x = "strokes" then some true else if x = "trails" then some true else if x = "same" then some true else if x = "shape" then some true else if x = "" then some false else if x = "Keep" then some false else if x = "trail" then some false else if x = "sum" then some false else if x = "keepa" then some false else none
def uh3:List Str:=["word"]
abbrev wq3 (XE:XE3) (spx_q11:[41]):TS3 :=
 (drop3 (call3 (spx_q11 XE) (cons3 (v3 0) (cons3 [22] nil3))))
def vh3:List Str:=["word", "depth", "count", "deed"]
abbrev zq3 (XE:XE3) (spx_q12:[41]):TS3 :=
 (seq3 (ifs3 (not3 (b3 (call3 isiR (cons3 (v3 0) (cons3 (c3 (.ty "tuple")) nil3))))) (vc0 XE "NoWord" (cons3 (c3 (.str "a word is a tuple of deeds")) nil3)) next3) (seq3 (ifs3 (b3 (o3 gtR (v3 1) (c3 sf0))) (vc0 XE "NoWord" (cons3 (c3 (.str "times stand too deep within one another")) nil3)) next3) (seq3 (set3 2 [22]) (seq3 (for3 (is3 (v3 0)) (gn3 3) (seq3 (set3 2 (o3 addR (v3 2) (call3 (spx_q12 XE) (cons3 (v3 3) [75])))) (ifs3 (b3 (o3 gtR (v3 2) (c3 vi0))) (vc0 XE "NoWord" (cons3 (c3 (.str "a word has too many deeds")) nil3)) next3))) (ret3 (v3 2))))))
def yc2:List Str:=["deed", "depth"]
abbrev ud2 (XE:XE3) (spx_q6:[41]) (spx_q11:[41]):TS3 :=
 (seq3 (ifs3 (not3 (b3 (call3 isiR (cons3 (v3 0) (cons3 (c3 (.ty "tuple")) nil3))))) (vc0 XE "NoWord" (cons3 (c3 (.str "a deed is a tuple")) nil3)) next3) (seq3 (ifs3 (and3 (b3 (o3 eqR (call3 lenR [24]) (c3 (.int 2)))) (b3 (o3 (inR false) [33] (c3 td0)))) (seq3 (drop3 (call3 (spx_q6 XE) (cons3 [33] (cons3 [76] nil3)))) (ret3 [30])) next3) (seq3 (ifs3 (and3 (b3 (o3 eqR (call3 lenR [24]) (c3 (.int 3)))) (b3 (o3 eqR [33] (c3 (.str "times"))))) (seq3 (drop3 (call3 (spx_q6 XE) (cons3 [33] (cons3 [76] nil3)))) (ret3 (o3 addR [30] (call3 (spx_q11 XE) (cons3 [98] (cons3 (o3 addR (v3 1) [30]) nil3)))))) next3) (vc0 XE "NoWord" (cons3 (c3 (.str "there is no such deed")) nil3)))))
def N_q6:List Str:=["kind", "number"]
abbrev t_q6 (XE:XE3):TS3 :=
 (seq3 (ifs3 (not3 (b3 (call3 isiR (cons3 (v3 1) (cons3 (c3 (.ty "int")) nil3))))) (vc0 XE "NoWord" (cons3 (c3 (.str "a deed has a whole number")) nil3)) next3) (seq3 (ifs3 (b3 (o3 gtR (call3 absR [75]) (c3 ve0))) (vc0 XE "NoWord" (cons3 (c3 (.str "a number has too many figures")) nil3)) next3) (ifs3 (and3 (b3 (o3 ltR (v3 1) [22])) (b3 (o3 (inR false) (v3 0) (c3 vd0)))) (vc0 XE "NoWord" (cons3 (c3 (.str "this deed has a number from nought on")) nil3)) next3)))
def si4:List Str:=["pen", "part", "ahead", "x", "y"]
abbrev zn4:TS3 :=
 (seq3 (set3 2 (o3 ixR (c3 ui0) [98])) (seq3 (set3 3 (o3 subR (o3 addR [33] (o3 mulR (o3 ixR (v3 1) [22]) (o3 ixR (v3 2) [22]))) (o3 mulR (o3 ixR (v3 1) [30]) (o3 ixR (v3 2) [30])))) (seq3 (set3 4 (o3 addR (o3 addR [76] (o3 mulR (o3 ixR (v3 1) [22]) (o3 ixR (v3 2) [30]))) (o3 mulR (o3 ixR (v3 1) [30]) (o3 ixR (v3 2) [22])))) (ret3 (tup3 (cons3 (v3 3) (cons3 (v3 4) (cons3 (o3 modR (o3 addR [98] (o3 ixR (v3 1) (c3 (.int 2)))) (c3 (.int 4))) nil3))))))))
def vi4:List Str:=["word", "pen", "deed"]
abbrev vm4 (sp_q26 sp_q39:Sp3):TS3 :=
 (seq3 (set3 1 (c3 zg0)) (seq3 (for3 (is3 (v3 0)) (gn3 2) (set3 1 (call3 sp_q26 (cons3 (v3 1) (cons3 (call3 sp_q39 (cons3 (v3 2) nil3)) nil3))))) (ret3 (v3 1))))
def wi4:List Str:=["deed"]
abbrev wm4 (sp_q38 sp_q40:Sp3):TS3 :=
 (seq3 (ifs3 (b3 (o3 eqR [33] (c3 (.str "turn")))) (ret3 (tup3 (cons3 [22] (cons3 [22] (cons3 (o3 modR [76] (c3 (.int 4))) nil3))))) next3) (seq3 (ifs3 (b3 (o3 eqR [33] (c3 (.str "times")))) (ret3 (call3 sp_q40 (cons3 (call3 sp_q38 (cons3 [98] nil3)) (cons3 [76] nil3)))) next3) (ret3 (tup3 (cons3 [76] (cons3 [22] (cons3 [22] nil3)))))))
def zi4:List Str:=["part", "number", "pen", "doing"]
abbrev zm4 (sp_q26:Sp3):TS3 :=
 (seq3 (ifs3 (b3 (o3 eqR [98] [22])) (ret3 (tup3 (cons3 (o3 mulR [33] (v3 1)) (cons3 (o3 mulR [76] (v3 1)) (cons3 [22] nil3))))) next3) (seq3 (set3 2 (c3 zg0)) (seq3 (for3 (ir3 (cons3 (o3 modR (v3 1) (c3 (.int 4))) nil3)) (gn3 3) (set3 2 (call3 sp_q26 (cons3 (v3 2) [24])))) (ret3 (v3 2)))))
def yg3:List Str:=["word"]
abbrev so3 (XE:XE3) (spx_q10:[41]) (sp_q15:Sp3):TS3 :=
 (seq3 (drop3 (call3 (spx_q10 XE) [24])) (ret3 (call3 sp_q15 [24])))
def zh3:List Str:=["word"]
abbrev xq3 (sp_q16:Sp3):TS3 :=
 (ret3 (call3 sumR (cons3 (comp3 [none] (is3 (v3 0)) (gn3 0) tt3 (call3 sp_q16 [24])) nil3)))
def yj4:List Str:=["deed"]
abbrev un4 (sp_q15:Sp3):TS3 :=
 (seq3 (ifs3 (b3 (o3 eqR [33] (c3 (.str "go")))) (ret3 [76]) next3) (seq3 (ifs3 (b3 (o3 eqR [33] (c3 (.str "times")))) (ret3 (o3 mulR [76] (call3 sp_q15 (cons3 [98] nil3)))) next3) (ret3 [22])))
def yh3:List Str:=["word"]
abbrev sp3 (XE:XE3) (spx_q10:[41]) (sp_q13:Sp3):TS3 :=
 (seq3 (drop3 (call3 (spx_q10 XE) [24])) (ret3 (call3 sp_q13 [24])))
def wh3:List Str:=["word"]
abbrev yq3 (sp_q14:Sp3):TS3 :=
 (ret3 (call3 sumR (cons3 (comp3 [none] (is3 (v3 0)) (gn3 0) tt3 (call3 sp_q14 [24])) nil3)))
def zj4:List Str:=["deed"]
abbrev tn4 (sp_q13:Sp3):TS3 :=
 (seq3 (ifs3 (b3 (o3 eqR [33] (c3 (.str "times")))) (ret3 (o3 mulR [76] (call3 sp_q13 (cons3 [98] nil3)))) next3) (ret3 [30]))
def ug3:List Str:=["word"]
abbrev wp3 (XE:XE3) (spx_q17:[41]) (spx_q57:[41]):TS3 :=
 (ret3 (andV3 (o3 leR (call3 (spx_q57 XE) [24]) (c3 uc0)) (o3 leR (call3 (spx_q17 XE) [24]) (c3 uc0))))
def zh4:List Str:=["word"]
abbrev yl4 (XE:XE3) (spx_q10:[41]) (sp_q28:Sp3):TS3 :=
 (seq3 (drop3 (call3 (spx_q10 XE) [24])) (ret3 (smt3 joinR (c3 (.str " ")) (cons3 (call3 sp_q28 [24]) nil3))))
def ti4:List Str:=["word", "marks", "deed"]
abbrev yn4 (sp_q28:Sp3):TS3 :=
 (seq3 (set3 1 (lst3 nil3)) (seq3 (for3 (is3 (v3 0)) (gn3 2) (seq3 (drop3 (mt3 extR (v3 1) (cons3 (lst3 (cons3 (o3 ixR (v3 2) [22]) (cons3 (call3 strR (cons3 (o3 ixR (v3 2) [30]) nil3)) nil3))) nil3))) (ifs3 (b3 (o3 eqR (o3 ixR (v3 2) [22]) (c3 (.str "times")))) (drop3 (mt3 extR (v3 1) (cons3 (o3 addR (o3 addR (lst3 (cons3 (c3 (.str "[")) nil3)) (call3 sp_q28 (cons3 (o3 ixR (v3 2) (c3 (.int 2))) nil3))) (lst3 (cons3 (c3 (.str "]")) nil3))) nil3))) next3))) (ret3 (v3 1))))
def th4:List Str:=["text", "marks", "word"]
abbrev tl4 (XE:XE3) (spx_q10:[41]) (sp_q27:Sp3) (spx_q64:[41]):TS3 :=
 (seq3 (set3 1 (call3 sp_q27 [24])) (seq3 (set3 2 (call3 (spx_q64 XE) (cons3 (v3 1) (cons3 [22] nil3)))) (seq3 (ifs3 (b3 (o3 gtR (call3 lenR [75]) [22])) (vc0 XE "BadNote" (cons3 (c3 (.str "a bracket is closed that is not there")) nil3)) next3) (seq3 (wo3 XE spx_q10 "BadNote" (cons3 (v3 2) nil3) (cons3 (c3 (.str "the text writes no word")) nil3)) (ret3 (v3 2))))))
def vg3:List Str:=["text"]
abbrev zp3:TS3 :=
 (seq3 (ifs3 (b3 (o3 eqR (v3 0) (c3 (.str "")))) (ret3 (lst3 nil3)) next3) (ret3 (lrev3 (smt3 splitR (v3 0) (cons3 (c3 (.str " ")) nil3)))))
def vg4:List Str:=["marks", "depth", "deeds"]
abbrev wk4 (XE:XE3) (spx_q61:[41]):TS3 :=
 (seq3 (ifs3 (b3 (o3 gtR (v3 1) (c3 sf0))) (vc0 XE "BadNote" (cons3 (c3 (.str "times stand too deep within one another")) nil3)) next3) (seq3 (set3 2 (lst3 nil3)) (seq3 (uc2 (and3 (b3 (o3 gtR (call3 lenR [24]) [22])) (b3 (o3 neR (o3 ixR (v3 0) (un3 negR [30])) (c3 (.str "]"))))) (drop3 (mt3 appR (v3 2) (cons3 (call3 (spx_q61 XE) (cons3 (v3 0) [75])) nil3)))) (ret3 (call3 tupR (cons3 (v3 2) nil3))))))
def ug4:List Str:=["marks", "depth", "kind", "number", "word"]
abbrev vk4 (XE:XE3) (spx_q33:[41]) (spx_q60:[41]) (spx_q62:[41]) (spx_q64:[41]):TS3 :=
 (seq3 (set3 2 (call3 (spx_q62 XE) [24])) (seq3 (ifs3 (b3 (o3 (inR false) (v3 2) (c3 td0))) (ret3 (tup3 (cons3 (v3 2) (cons3 (call3 (spx_q33 XE) (cons3 (call3 (spx_q62 XE) [24]) nil3)) nil3)))) next3) (seq3 (ifs3 (b3 (o3 neR (v3 2) (c3 (.str "times")))) (vc0 XE "BadNote" (cons3 (c3 (.str "there is no such deed")) nil3)) next3) (seq3 (set3 3 (call3 (spx_q33 XE) (cons3 (call3 (spx_q62 XE) [24]) nil3))) (seq3 (drop3 (call3 (spx_q60 XE) (cons3 (v3 0) (cons3 (c3 (.str "[")) nil3)))) (seq3 (set3 4 (call3 (spx_q64 XE) (cons3 (v3 0) (cons3 (o3 addR (v3 1) [30]) nil3)))) (seq3 (drop3 (call3 (spx_q60 XE) (cons3 (v3 0) (cons3 (c3 (.str "]")) nil3)))) (ret3 (tup3 (cons3 (v3 2) (cons3 (v3 3) (cons3 (v3 4) nil3))))))))))))
def ur2:List Str:=["marks"]
abbrev zs2 (XE:XE3):TS3 :=
 (seq3 (ifs3 (b3 (o3 eqR (call3 lenR [24]) [22])) (vc0 XE "BadNote" (cons3 (c3 (.str "the text ends too early")) nil3)) next3) (ret3 (pop3 (v3 0))))
def tg4:List Str:=["marks", "bracket"]
abbrev uk4 (XE:XE3) (spx_q62:[41]):TS3 :=
 (ifs3 (b3 (o3 neR (call3 (spx_q62 XE) [24]) (v3 1))) (vc0 XE "BadNote" (cons3 (c3 (.str "a bracket is missing")) nil3)) next3)
def ui4:List Str:=["mark", "figures"]
abbrev xn4 (XE:XE3) (sp_q4 sp_q20:Sp3):TS3 :=
 (seq3 (set3 1 (v3 0)) (seq3 (ifs3 (b3 (smt3 startsR (v3 0) (cons3 (c3 (.str "-")) nil3))) (set3 1 (sl3 slR (v3 0) (pt3 [30]) np3)) next3) (seq3 (ifs3 (or3 (not3 (b3 (call3 sp_q4 [75]))) (b3 (call3 sp_q20 (cons3 (v3 0) [75])))) (vc0 XE "BadNote" (cons3 (c3 (.str "there is no such number")) nil3)) next3) (ret3 (call3 intR [24])))))
def N_q4:List Str:=["text"]
abbrev t_q4:TS3 :=
 (seq3 (ifs3 (or3 (b3 (o3 eqR (call3 lenR [24]) [22])) (b3 (o3 gtR (call3 lenR [24]) (c3 vg0)))) (ret3 (c3 (.bl false))) next3) (ret3 (call3 allR (cons3 (comp3 [none] (is3 (v3 0)) (gn3 0) tt3 (o3 (inR false) (v3 0) (c3 sl0))) nil3))))
def xh3:List Str:=["mark", "figures"]
abbrev tp3:TS3 :=
 (ret3 (orV3 (o3 eqR (v3 0) (c3 (.str "-0"))) (andV3 (o3 gtR (call3 lenR [75]) [30]) (smt3 startsR (v3 1) (cons3 (c3 (.str "0")) nil3)))))
def wg3:List Str:=["point", "other", "low"]
abbrev yp3:TS3 :=
 (seq3 (set3 2 (call3 mnR (cons3 (v3 0) [75]))) (ret3 (tup3 (cons3 (o3 ixR (v3 2) [22]) (cons3 (o3 ixR (v3 2) [30]) (cons3 (if3 (b3 (o3 eqR [76] (o3 ixR (v3 1) [30]))) [22] [30]) nil3))))))
def zg3:List Str:=["points"]
abbrev xp3 (sp_q53:Sp3):TS3 :=
 (ret3 (comp3 [none,some 0] (ir23 (cons3 [30] (cons3 (call3 lenR [24]) nil3))) (gn3 0) tt3 (call3 sp_q53 (cons3 (o3 ixR (v3 1) (o3 subR (v3 0) [30])) (cons3 (o3 ixR (v3 1) (v3 0)) nil3)))))
def xi4:List Str:=["strokes"]
abbrev xm4:TS3 :=
 (ret3 (call3 tupR (cons3 (tq3 (uq3 [24])) nil3)))
def yi4:List Str:=["word"]
abbrev ym4 (XE:XE3) (spx_q23:[41]) (sp_q43 sp_q58:Sp3):TS3 :=
 (seq3 (ifs3 (not3 (b3 (call3 (spx_q23 XE) [24]))) (vc0 XE "NoRoom" (cons3 (c3 (.str "the word is not small")) nil3)) next3) (ret3 (call3 sp_q43 (cons3 (call3 sp_q58 (cons3 (c3 zg0) [24])) nil3))))
def xh4:List Str:=["pen", "word", "strokes", "here", "deed"]
abbrev sk4 (sp_q26 sp_q39 sp_q45 sp_q59:Sp3):TS3 :=
 (seq3 (set3 2 (lst3 nil3)) (seq3 (set3 3 (v3 0)) (seq3 (for3 (is3 (call3 sp_q45 [75])) (gn3 4) (seq3 (ifs3 (b3 (o3 eqR (o3 ixR (v3 4) [22]) (c3 (.str "go")))) (drop3 (mt3 extR (v3 2) (cons3 (call3 sp_q59 (cons3 (v3 3) (cons3 (o3 ixR (v3 4) [30]) nil3))) nil3))) next3) (set3 3 (call3 sp_q26 (cons3 (v3 3) (cons3 (call3 sp_q39 (cons3 (v3 4) nil3)) nil3)))))) (ret3 (v3 2)))))
def sh4:List Str:=["word", "deeds", "deed"]
abbrev sl4 (sp_q14 sp_q45:Sp3):TS3 :=
 (seq3 (set3 1 (lst3 nil3)) (seq3 (for3 (is3 (v3 0)) (gn3 2) (ifs3 (b3 (o3 neR (o3 ixR (v3 2) [22]) (c3 (.str "times")))) (drop3 (mt3 appR (v3 1) (cons3 (v3 2) nil3))) (ifs3 (b3 (o3 gtR (call3 sp_q14 (cons3 (v3 2) nil3)) [22])) (drop3 (mt3 extR (v3 1) (cons3 (o3 mulR (call3 sp_q45 (cons3 (o3 ixR (v3 2) (c3 (.int 2))) nil3)) (o3 ixR (v3 2) [30])) nil3))) next3))) (ret3 (v3 1))))
def sg4:List Str:=["pen", "number", "ahead", "points"]
abbrev tk4 (sp_q54:Sp3):TS3 :=
 (seq3 (set3 2 (o3 ixR (c3 ui0) [98])) (seq3 (set3 3 (comp3 [none,some 0,some 2] (ir3 (cons3 (o3 addR (v3 1) [30]) nil3)) (gn3 0) tt3 (tup3 (cons3 (o3 addR (o3 ixR (v3 1) [22]) (o3 mulR (o3 ixR (v3 2) [22]) (v3 0))) (cons3 (o3 addR (o3 ixR (v3 1) [30]) (o3 mulR (o3 ixR (v3 2) [30]) (v3 0))) nil3))))) (ret3 (call3 sp_q54 (cons3 (v3 3) nil3)))))
def N_q35:List Str:=["one", "other", "parting"]
abbrev tm4:TS3 :=
 never3
def N_q48:List Str:=["one", "other"]
abbrev vl4:TS3 :=
 never3
def N_q66:List Str:=["picture"]
abbrev yk4:TS3 :=
 never3
def sg3:List Str:=["marks"]
abbrev up3 (sp_q22:Sp3):TS3 :=
 (seq3 (ifs3 (or3 (b3 (mdn3 true ta0 [33])) (b3 (o3 neR (call3 lenR [24]) (o3 addR [30] (mdg3 sa0 [33]))))) (ret3 (c3 (.bl false))) next3) (ret3 (call3 allR (cons3 (comp3 [none] (is3 (sl3 slR (v3 0) (pt3 [30]) np3)) (gn3 0) tt3 (call3 sp_q22 [24])) nil3))))
def tg3:List Str:=["mark"]
abbrev vp3:TS3 :=
 (seq3 (ifs3 (or3 (b3 (o3 eqR (call3 lenR [24]) [22])) (b3 (o3 gtR (call3 lenR [24]) (c3 wg0)))) (ret3 (c3 (.bl false))) next3) (ret3 (call3 allR (cons3 (comp3 [none] (is3 (v3 0)) (gn3 0) tt3 (o3 (inR false) (v3 0) (c3 tl0))) nil3))))
def xg3:List Str:=["numbers"]
abbrev to3:TS3 :=
 (ret3 (smt3 joinR (c3 (.str " ")) (cons3 (comp3 [none] (is3 (v3 0)) (gn3 0) tt3 (call3 strR [24])) nil3)))
def wh4:List Str:=["words"]
abbrev zl4 (XE:XE3) (spx_q52:[41]):TS3 :=
 (ret3 (call3 (spx_q52 XE) (cons3 [33] nil3)))
def N_q37:List Str:=["words"]
abbrev um4 (XE:XE3):TS3 :=
 never3
def N_q18:List Str:=["words"]
abbrev vn4 (XE:XE3):TS3 :=
 never3
def yh4:List Str:=["words"]
abbrev xl4 (XE:XE3) (spx_q41:[41]) (sp_q71:Sp3):TS3 :=
 (ret3 (call3 sp_q71 (cons3 (lst3 (cons3 (call3 lenR (cons3 (call3 (spx_q41 XE) (cons3 [33] nil3)) nil3)) nil3)) nil3)))
def wg4:List Str:=["words"]
abbrev zk4 (XE:XE3) (spx_q41:[41]) (sp_q66 sp_q71:Sp3):TS3 :=
 (ret3 (call3 sp_q71 (cons3 (lst3 (cons3 (call3 sp_q66 (cons3 (call3 (spx_q41 XE) (cons3 [33] nil3)) nil3)) nil3)) nil3)))
def uh4:List Str:=["words", "stroke"]
abbrev ul4 (XE:XE3) (sp_q35:Sp3) (spx_q41:[41]) (sp_q71:Sp3):TS3 :=
 (seq3 (set3 1 (call3 sp_q35 (cons3 (call3 (spx_q41 XE) (cons3 [33] nil3)) (cons3 (call3 (spx_q41 XE) (cons3 [76] nil3)) nil3)))) (seq3 (ifs3 (b3 (o3 (isNR false) (v3 1) (c3 .non))) (ret3 (c3 (.str "same"))) next3) (ret3 (o3 addR (c3 (.str "unlike at ")) (call3 sp_q71 [75])))))
def vh4:List Str:=["words"]
abbrev wl4 (XE:XE3) (spx_q41:[41]) (sp_q48:Sp3):TS3 :=
 (ret3 (if3 (b3 (call3 sp_q48 (cons3 (call3 (spx_q41 XE) (cons3 [33] nil3)) (cons3 (call3 (spx_q41 XE) (cons3 [76] nil3)) nil3)))) (c3 (.str "yes")) (c3 (.str "no"))))
def N_q0:List Str:=["script", "k"]
abbrev t_q0:TS3 :=
 (seq3 (ifs3 (b3 (o3 ltR (v3 1) (call3 lenR [24]))) (ret3 (o3 ixR (v3 0) (v3 1))) next3) (ret3 [22]))
def N_q3:List Str:=["script", "k", "cell"]
abbrev t_q3 (sp_q0:Sp3):TS3 :=
 (seq3 (set3 2 (call3 sp_q0 (cons3 (v3 0) [75]))) (seq3 (ifs3 (b3 (o3 geR (v3 2) (o3 powR (c3 (.int 10)) (c3 (.int 18))))) (ret3 (lst3 (cons3 (o3 subR (v3 2) (o3 powR (c3 (.int 10)) (c3 (.int 18)))) (cons3 (c3 (.bl true)) nil3)))) next3) (ret3 (lst3 (cons3 (o3 modR (v3 2) (c3 (.int 2147483647))) (cons3 (c3 (.bl false)) nil3))))))
def N_q1:List Str:=["state", "many", "found", "mixed"]
abbrev t_q1:TS3 :=
 (seq3 (ifs3 (b3 [76]) (seq3 (set3 2 (o3 modR [33] (v3 1))) (seq3 (asg3 (o3 fdivR [33] (v3 1)) (sub3 (v3 0) [22])) (ret3 (v3 2)))) next3) (seq3 (asg3 (o3 modR (o3 addR (o3 mulR [33] (c3 (.int 48271))) (c3 (.int 29))) (c3 (.int 2147483647))) (sub3 (v3 0) [22])) (seq3 (set3 3 (o3 modR (o3 addR (o3 addR (o3 mulR [33] [33]) (o3 mulR (c3 (.int 39373)) [33])) (c3 (.int 7))) (c3 (.int 2147483629)))) (seq3 (set3 3 (o3 modR (o3 addR (o3 mulR (v3 3) (v3 3)) (o3 mulR (c3 (.int 16807)) (v3 3))) (c3 (.int 2147483587)))) (ret3 (o3 modR (o3 fdivR (v3 3) (c3 (.int 8))) (v3 1)))))))
def N_q2:List Str:=["state", "some"]
abbrev sk0 (sp_q1:Sp3):TS3 :=
 (ret3 (o3 ixR (v3 1) (call3 sp_q1 (cons3 (v3 0) (cons3 (call3 lenR [75]) nil3)))))
abbrev xl0 (sp_q1:Sp3):TS3 :=
 (seq3 (set3 1 (o3 addR (v3 1) (lst3 (cons3 (c3 (.str "strokes abcdefghi")) (cons3 (c3 (.str "trails a1")) (cons3 (c3 (.str "trails a b")) (cons3 (c3 (.str "trail a")) (cons3 (c3 (.str "sum a")) (cons3 (c3 (.str "keepa go 1")) nil3))))))))) (sk0 sp_q1))
abbrev yl0 (sp_q1:Sp3):TS3 :=
 (seq3 (set3 1 (o3 addR (v3 1) (lst3 (cons3 (c3 (.str "join a b c d")) (cons3 (c3 (.str "join A a b")) (cons3 (c3 (.str "join a b C")) (cons3 (c3 (.str "pen")) (cons3 (c3 (.str "pen a b")) (cons3 (c3 (.str "pen ")) (cons3 (c3 (.str "drawn a ")) (cons3 (c3 (.str "strokes")) nil3))))))))))) (xl0 sp_q1))
abbrev zl0 (sp_q1:Sp3):TS3 :=
 (seq3 (set3 1 (o3 addR (v3 1) (lst3 (cons3 (c3 (.str "show a b")) (cons3 (c3 (.str "show  a")) (cons3 (c3 (.str "same a")) (cons3 (c3 (.str "same a b a")) (cons3 (c3 (.str "shape a")) (cons3 (c3 (.str "shape a b B")) (cons3 (c3 (.str "join a b")) nil3)))))))))) (yl0 sp_q1))
abbrev wl0 (sp_q1:Sp3):TS3 :=
 (seq3 (set3 1 (o3 addR (v3 1) (lst3 (cons3 (c3 (.str "keep a times 2 [")) (cons3 (c3 (.str "names ")) (cons3 (c3 (.str "names a")) (cons3 (c3 (.str " names")) (cons3 (c3 (.str "drop")) (cons3 (c3 (.str "drop a b")) (cons3 (c3 (.str "drop A")) (cons3 (c3 (.str "show")) nil3))))))))))) (zl0 sp_q1))
abbrev yh0 (sp_q1:Sp3):TS3 :=
 (seq3 (set3 1 (o3 addR (v3 1) (lst3 (cons3 (c3 (.str "keep A go 1")) (cons3 (c3 (.str "keep a1 go 1")) (cons3 (c3 (.str "keep abcdefghi go 1")) (cons3 (c3 (.str "keep  go 1")) (cons3 (c3 (.str "keep a go -1")) nil3)))))))) (wl0 sp_q1))
abbrev t_q2 (sp_q1:Sp3):TS3 :=
 (seq3 (set3 1 (lst3 (cons3 (c3 (.str "")) (cons3 (c3 (.str " ")) (cons3 (c3 (.str "keep")) (cons3 (c3 (.str "keep ")) (cons3 (c3 (.str "keep a ")) (cons3 (c3 (.str "keep a go")) (cons3 (c3 (.str "keep a go 1 ")) (cons3 (c3 (.str "keep a  go 1")) (cons3 (c3 (.str "Keep a go 1")) nil3))))))))))) (yh0 sp_q1))
def xj4:List Str:=["script", "state", "desk", "name", "kept", "k", "some", "line"]
abbrev td2 (sp_Desk___init__ sp_Desk_all_words sp_Desk_say sp_q1 sp_q2 sp_q3:Sp3):TS3 :=
 (ret3 (andV3 (o3 eqR (xd0 "Desk" "say" sp_Desk_say (v3 2) (cons3 (c3 (.str "keep long")) nil3)) (c3 (.str "kept"))) (andV3 (o3 eqR (xd0 "Desk" "say" sp_Desk_say (v3 2) (cons3 (c3 (.str "show long")) nil3)) (c3 (.str ""))) (o3 eqR (xd0 "Desk" "say" sp_Desk_say (v3 2) (cons3 (c3 (.str "strokes long")) nil3)) (c3 (.str "0"))))))
abbrev we1 (sp_Desk___init__ sp_Desk_all_words sp_Desk_say sp_q1 sp_q2 sp_q3:Sp3):TS3 :=
 (seq3 (for3 (is3 (o3 addR (v3 6) (lst3 (cons3 (c3 (.str "join long long long")) nil3)))) (gn3 7) (ifs3 (or3 (b3 (o3 neR (xd0 "Desk" "say" sp_Desk_say (v3 2) (cons3 (v3 7) nil3)) (c3 (.str "too great")))) (b3 (o3 dneR (xd0 "Desk" "all_words" sp_Desk_all_words (v3 2) nil3) (v3 4)))) (ret3 (c3 (.bl false))) next3)) (td2 sp_Desk___init__ sp_Desk_all_words sp_Desk_say sp_q1 sp_q2 sp_q3))
abbrev sd2 (sp_Desk___init__ sp_Desk_all_words sp_Desk_say sp_q1 sp_q2 sp_q3:Sp3):TS3 :=
 (seq3 (set3 6 (lst3 (cons3 (c3 (.str "strokes great")) (cons3 (c3 (.str "trails great")) (cons3 (c3 (.str "same great long")) (cons3 (c3 (.str "same long great")) (cons3 (c3 (.str "shape great great")) nil3))))))) (we1 sp_Desk___init__ sp_Desk_all_words sp_Desk_say sp_q1 sp_q2 sp_q3))
abbrev ve1 (sp_Desk___init__ sp_Desk_all_words sp_Desk_say sp_q1 sp_q2 sp_q3:Sp3):TS3 :=
 (seq3 (for3 (is3 (v3 6)) (gn3 7) (ifs3 (or3 (b3 (o3 neR (xd0 "Desk" "say" sp_Desk_say (v3 2) (cons3 (v3 7) nil3)) (c3 (.str "no such name")))) (b3 (o3 dneR (xd0 "Desk" "all_words" sp_Desk_all_words (v3 2) nil3) (v3 4)))) (ret3 (c3 (.bl false))) next3)) (sd2 sp_Desk___init__ sp_Desk_all_words sp_Desk_say sp_q1 sp_q2 sp_q3))
abbrev ws2 (sp_Desk___init__ sp_Desk_all_words sp_Desk_say sp_q1 sp_q2 sp_q3:Sp3):TS3 :=
 (seq3 (drop3 (mt3 appR (v3 6) (cons3 (c3 (.str "trails nobody")) nil3))) (ve1 sp_Desk___init__ sp_Desk_all_words sp_Desk_say sp_q1 sp_q2 sp_q3))
abbrev zo1 (sp_Desk___init__ sp_Desk_all_words sp_Desk_say sp_q1 sp_q2 sp_q3:Sp3):TS3 :=
 (seq3 (set3 6 (o3 addR (v3 6) (lst3 (cons3 (c3 (.str "join new long nobody")) (cons3 (c3 (.str "join new nobody great")) (cons3 (c3 (.str "pen nobody")) (cons3 (c3 (.str "drawn nobody")) (cons3 (c3 (.str "strokes nobody")) nil3)))))))) (ws2 sp_Desk___init__ sp_Desk_all_words sp_Desk_say sp_q1 sp_q2 sp_q3))
abbrev wo1 (sp_Desk___init__ sp_Desk_all_words sp_Desk_say sp_q1 sp_q2 sp_q3:Sp3):TS3 :=
 (seq3 (set3 6 (lst3 (cons3 (c3 (.str "show nobody")) (cons3 (c3 (.str "drop nobody")) (cons3 (c3 (.str "same nobody great")) (cons3 (c3 (.str "same great nobody")) (cons3 (c3 (.str "shape long nobody")) nil3))))))) (zo1 sp_Desk___init__ sp_Desk_all_words sp_Desk_say sp_q1 sp_q2 sp_q3))
abbrev vo1 (sp_Desk___init__ sp_Desk_all_words sp_Desk_say sp_q1 sp_q2 sp_q3:Sp3):TS3 :=
 (seq3 (for3 (ir3 (cons3 (c3 (.int 6)) nil3)) (gn3 5) (ifs3 (or3 (b3 (o3 neR (xd0 "Desk" "say" sp_Desk_say (v3 2) (cons3 (call3 sp_q2 (cons3 (call3 sp_q3 (cons3 (v3 0) (cons3 (o3 addR [30] (v3 5)) nil3))) nil3)) nil3)) (c3 (.str "bad line")))) (b3 (o3 dneR (xd0 "Desk" "all_words" sp_Desk_all_words (v3 2) nil3) (v3 4)))) (ret3 (c3 (.bl false))) next3)) (wo1 sp_Desk___init__ sp_Desk_all_words sp_Desk_say sp_q1 sp_q2 sp_q3))
abbrev vs2 (sp_Desk___init__ sp_Desk_all_words sp_Desk_say sp_q1 sp_q2 sp_q3:Sp3):TS3 :=
 (seq3 (set3 4 (xd0 "Desk" "all_words" sp_Desk_all_words (v3 2) nil3)) (vo1 sp_Desk___init__ sp_Desk_all_words sp_Desk_say sp_q1 sp_q2 sp_q3))
abbrev us2 (sp_Desk___init__ sp_Desk_all_words sp_Desk_say sp_q1 sp_q2 sp_q3:Sp3):TS3 :=
 (seq3 (drop3 (xd0 "Desk" "say" sp_Desk_say (v3 2) (cons3 (o3 addR (o3 addR (c3 (.str "keep great times ")) (call3 strR (cons3 (o3 addR (c3 (.int 401)) (call3 sp_q1 (cons3 (v3 1) (cons3 (o3 powR (c3 (.int 10)) (c3 (.int 9))) nil3)))) nil3))) (c3 (.str " [ go 1 ]"))) nil3))) (vs2 sp_Desk___init__ sp_Desk_all_words sp_Desk_say sp_q1 sp_q2 sp_q3))
abbrev uo1 (sp_Desk___init__ sp_Desk_all_words sp_Desk_say sp_q1 sp_q2 sp_q3:Sp3):TS3 :=
 (seq3 (drop3 (xd0 "Desk" "say" sp_Desk_say (v3 2) (cons3 (o3 addR (c3 (.str "keep long")) (o3 smxR (c3 (.str " go 1 turn 1")) (c3 (.int 10)))) nil3))) (us2 sp_Desk___init__ sp_Desk_all_words sp_Desk_say sp_q1 sp_q2 sp_q3))
abbrev to1 (sp_Desk___init__ sp_Desk_all_words sp_Desk_say sp_q1 sp_q2 sp_q3:Sp3):TS3 :=
 (seq3 (for3 (is3 (sl3 slR (lst3 (cons3 (c3 (.str "a")) (cons3 (c3 (.str "b")) (cons3 (c3 (.str "c")) nil3)))) np3 (pt3 (call3 sp_q1 (cons3 (v3 1) (cons3 (c3 (.int 4)) nil3)))))) (gn3 3) (drop3 (xd0 "Desk" "say" sp_Desk_say (v3 2) (cons3 (o3 addR (o3 addR (c3 (.str "keep ")) (v3 3)) (c3 (.str " times 4 [ go 2 turn 1 ]"))) nil3)))) (uo1 sp_Desk___init__ sp_Desk_all_words sp_Desk_say sp_q1 sp_q2 sp_q3))
abbrev so1 (sp_Desk___init__ sp_Desk_all_words sp_Desk_say sp_q1 sp_q2 sp_q3:Sp3):TS3 :=
 (seq3 (set3 2 (zb4 "Desk" sp_Desk___init__ nil3)) (to1 sp_Desk___init__ sp_Desk_all_words sp_Desk_say sp_q1 sp_q2 sp_q3))
abbrev wn4 (sp_Desk___init__ sp_Desk_all_words sp_Desk_say sp_q1 sp_q2 sp_q3:Sp3):TS3 :=
 (seq3 (set3 1 (call3 sp_q3 (cons3 (v3 0) (cons3 [22] nil3)))) (so1 sp_Desk___init__ sp_Desk_all_words sp_Desk_say sp_q1 sp_q2 sp_q3))
def xg0:List Str:=["self"]
abbrev wi0:TS3 :=
 (us3 (v3 0) dnk3 "Desk" "words")
def yf0:List Str:=["self"]
abbrev zi0:TS3 :=
 (ret3 (call3 dcpR (cons3 (fld3 (v3 0) "Desk" "words") nil3)))
def zj0:List Str:=["self", "line", "marks", "names"]
abbrev um0 (sp_Desk_answer sp_Desk_keep_read sp_q21:Sp3):TS3 :=
 (seq3 (set3 2 (smt3 splitR (v3 1) (cons3 (c3 (.str " ")) nil3))) (seq3 (ifs3 (b3 (o3 eqR (o3 ixR (v3 2) [22]) (c3 (.str "keep")))) (ret3 (xd0 "Desk" "keep_read" sp_Desk_keep_read (v3 0) (cons3 (v3 2) nil3))) next3) (seq3 (ifs3 (not3 (b3 (call3 sp_q21 (cons3 (v3 2) nil3)))) (ret3 (c3 tf0)) next3) (seq3 (set3 3 (if3 (b3 (o3 eqR (o3 ixR (v3 2) [22]) (c3 (.str "join")))) (sl3 slR (v3 2) (pt3 (c3 (.int 2))) np3) (sl3 slR (v3 2) (pt3 [30]) np3))) (seq3 (ifs3 (not3 (b3 (call3 allR (cons3 (comp3 [none,some 0] (is3 (v3 3)) (gn3 0) tt3 (o3 (um1 false) (v3 0) (fld3 (v3 1) "Desk" "words"))) nil3)))) (ret3 (c3 ue0)) next3) (ret3 (xd0 "Desk" "answer" sp_Desk_answer (v3 0) (cons3 (v3 2) (cons3 (comp3 [none,some 0] (is3 (v3 3)) (gn3 0) tt3 (o3 dgkR (fld3 (v3 1) "Desk" "words") (v3 0))) nil3)))))))))
def wc0:List Str:=["self", "marks", "word"]
abbrev zd0 (sp_q22:Sp3) (spx_q46:[41]):TS3 :=
 (seq3 (ifs3 (or3 (b3 (o3 ltR (call3 lenR [75]) (c3 (.int 2)))) (or3 (not3 (b3 (call3 sp_q22 (cons3 (o3 ixR (v3 1) [30]) nil3)))) (b3 (o3 eqR (sl3 slR (v3 1) (pt3 (c3 (.int 2))) np3) (lst3 (cons3 (c3 (.str "")) nil3)))))) (ret3 (c3 tf0)) next3) (seq3 (ze1 spx_q46 (yu2 2) "BadNote" (cons3 (smt3 joinR (c3 (.str " ")) (cons3 (sl3 slR (v3 1) (pt3 (c3 (.int 2))) np3) nil3)) nil3) (ret3 (c3 tf0))) (seq3 (th1 (fld3 (v3 0) "Desk" "words") (o3 ixR (v3 1) [30]) (v3 2)) (ret3 (c3 sg1)))))
def wf0:List Str:=["self", "marks", "words"]
abbrev zh0 (sp_Desk_keep_joined:Sp3) (spx_q18:[41]) (spx_q37:[41]) (spx_q47:[41]) (spx_q49:[41]) (spx_q51:[41]) (spx_q55:[41]) (spx_q65:[41]):TS3 :=
 (seq3 (ifs3 (b3 (o3 eqR (o3 ixR (v3 1) [22]) (c3 (.str "names")))) never3 next3) (seq3 (ifs3 (b3 (o3 eqR (o3 ixR (v3 1) [22]) (c3 (.str "drop")))) never3 next3) (seq3 (ifs3 (b3 (o3 eqR (o3 ixR (v3 1) [22]) (c3 (.str "join")))) (ret3 (xd0 "Desk" "keep_joined" sp_Desk_keep_joined (v3 0) (cons3 (o3 ixR (v3 1) [30]) (cons3 (o3 addR (o3 ixR (v3 2) [22]) (o3 ixR (v3 2) [30])) nil3)))) next3) (wd2 (uh0 spx_q51 spx_q37 spx_q18 spx_q55 spx_q65 spx_q47 spx_q49) "NoRoom" (o3 ixR (v3 1) [22]) (cons3 (v3 2) nil3) (ret3 (c3 we0))))))
def xe0:List Str:=["self", "name", "word"]
abbrev yg0 (spx_q10:[41]):TS3 :=
 (seq3 (ze1 spx_q10 zl2 "NoWord" (cons3 (v3 2) nil3) (ret3 (c3 we0))) (seq3 (th1 (fld3 (v3 0) "Desk" "words") (v3 1) (v3 2)) (ret3 (c3 sg1))))
end Pv
namespace Pv
open PySem PySem.Spec PyProof.Rows L2
variable {a f:Addr} {cdv:Value} {A:Around} {outer:List Env} {s:[88]} {H:Hp} {E:XK} {XE:XE3}
section
variable {P:[83]} {w:World} {K:Fg} {mg:[25]} {base:Heap}
theorem wa1 {p_0 p_1 p_2 p_3 p_4 p_5 p_6:Addr} (e_0:nsIn K a "show" = some (some (.ref p_0))) (e_1:nsIn K a "pen" = some (some (.ref p_1))) (e_2:nsIn K a "drawn" = some (some (.ref p_2))) (e_3:nsIn K a "strokes" = some (some (.ref p_3))) (e_4:nsIn K a "trails" = some (some (.ref p_4))) (e_5:nsIn K a "same" = some (some (.ref p_5))) (e_6:nsIn K a "shape" = some (some (.ref p_6))):MdN K a tn0:=by
 intro x y h;unfold tn0 at h;split at h
 ·next e=>subst e; cases h; exact ⟨_,e_0,rfl⟩
 split at h
 ·next e=>subst e; cases h; exact ⟨_,e_1,rfl⟩
 split at h
 ·next e=>subst e; cases h; exact ⟨_,e_2,rfl⟩
 split at h
 ·next e=>subst e; cases h; exact ⟨_,e_3,rfl⟩
 split at h
 ·next e=>subst e; cases h; exact ⟨_,e_4,rfl⟩
 split at h
 ·next e=>subst e; cases h; exact ⟨_,e_5,rfl⟩
 split at h
 ·next e=>subst e; cases h; exact ⟨_,e_6,rfl⟩
 ·cases h
theorem uv0 {k:Nat} {p_0 p_1 p_2 p_3 p_4 p_5 p_6:Addr} {ps_0 ps_1 ps_2 ps_3 ps_4 ps_5 ps_6:[29]} {sp_0 sp_1 sp_2 sp_3 sp_4 sp_5 sp_6:[41]} (e_0:nsIn K a "show" = some (some (.ref p_0))) (m_0:mg "show_answer" = some (.ref p_0)) (c_0:CalX P w K mg base k "show_answer" ps_0 sp_0) (e_1:nsIn K a "pen" = some (some (.ref p_1))) (m_1:mg "pen_answer" = some (.ref p_1)) (c_1:CalX P w K mg base k "pen_answer" ps_1 sp_1) (e_2:nsIn K a "drawn" = some (some (.ref p_2))) (m_2:mg "drawn_answer" = some (.ref p_2)) (c_2:CalX P w K mg base k "drawn_answer" ps_2 sp_2) (e_3:nsIn K a "strokes" = some (some (.ref p_3))) (m_3:mg "strokes_answer" = some (.ref p_3)) (c_3:CalX P w K mg base k "strokes_answer" ps_3 sp_3) (e_4:nsIn K a "trails" = some (some (.ref p_4))) (m_4:mg "trails_answer" = some (.ref p_4)) (c_4:CalX P w K mg base k "trails_answer" ps_4 sp_4) (e_5:nsIn K a "same" = some (some (.ref p_5))) (m_5:mg "same_answer" = some (.ref p_5)) (c_5:CalX P w K mg base k "same_answer" ps_5 sp_5) (e_6:nsIn K a "shape" = some (some (.ref p_6))) (m_6:mg "shape_answer" = some (.ref p_6)) (c_6:CalX P w K mg base k "shape_answer" ps_6 sp_6):MdFX P w K mg base k a (uh0 sp_0 sp_1 sp_2 sp_3 sp_4 sp_5 sp_6):=by
 intro x y h;unfold uh0 at h;split at h
 ·next e=>subst e; cases h; exact ⟨_,_,_,e_0,m_0,c_0⟩
 split at h
 ·next e=>subst e; cases h; exact ⟨_,_,_,e_1,m_1,c_1⟩
 split at h
 ·next e=>subst e; cases h; exact ⟨_,_,_,e_2,m_2,c_2⟩
 split at h
 ·next e=>subst e; cases h; exact ⟨_,_,_,e_3,m_3,c_3⟩
 split at h
 ·next e=>subst e; cases h; exact ⟨_,_,_,e_4,m_4,c_4⟩
 split at h
 ·next e=>subst e; cases h; exact ⟨_,_,_,e_5,m_5,c_5⟩
 split at h
 ·next e=>subst e; cases h; exact ⟨_,_,_,e_6,m_6,c_6⟩
 ·cases h
theorem zk0 {t_0 t_1 t_2 t_3 t_4 t_5 t_6 t_7 t_8 t_9:Tok} (e_0:nsIn K a "drop" = some (some (.int 1 t_0))) (e_1:nsIn K a "join" = some (some (.int 3 t_1))) (e_2:nsIn K a "show" = some (some (.int 1 t_2))) (e_3:nsIn K a "names" = some (some (.int 0 t_3))) (e_4:nsIn K a "pen" = some (some (.int 1 t_4))) (e_5:nsIn K a "drawn" = some (some (.int 1 t_5))) (e_6:nsIn K a "strokes" = some (some (.int 1 t_6))) (e_7:nsIn K a "trails" = some (some (.int 1 t_7))) (e_8:nsIn K a "same" = some (some (.int 2 t_8))) (e_9:nsIn K a "shape" = some (some (.int 2 t_9))) (f_0:nsIn K a "" = some none) (f_1:nsIn K a "Keep" = some none) (f_2:nsIn K a "trail" = some none) (f_3:nsIn K a "sum" = some none) (f_4:nsIn K a "keepa" = some none):MdN K a ta0:=by
 intro x y h;unfold ta0 at h;by_cases e:x = "drop"
 ·rw [if_pos e] at h; subst e; cases h; exact ⟨_,e_0,rfl⟩
 rw [if_neg e] at h;by_cases e:x = "join"
 ·rw [if_pos e] at h; subst e; cases h; exact ⟨_,e_1,rfl⟩
 rw [if_neg e] at h;by_cases e:x = "show"
 ·rw [if_pos e] at h; subst e; cases h; exact ⟨_,e_2,rfl⟩
 rw [if_neg e] at h;by_cases e:x = "names"
 ·rw [if_pos e] at h; subst e; cases h; exact ⟨_,e_3,rfl⟩
 rw [if_neg e] at h;by_cases e:x = "pen"
 ·rw [if_pos e] at h; subst e; cases h; exact ⟨_,e_4,rfl⟩
 rw [if_neg e] at h;by_cases e:x = "drawn"
 ·rw [if_pos e] at h; subst e; cases h; exact ⟨_,e_5,rfl⟩
 rw [if_neg e] at h;by_cases e:x = "strokes"
 ·rw [if_pos e] at h; subst e; cases h; exact ⟨_,e_6,rfl⟩
 rw [if_neg e] at h;by_cases e:x = "trails"
 ·rw [if_pos e] at h; subst e; cases h; exact ⟨_,e_7,rfl⟩
 rw [if_neg e] at h;by_cases e:x = "same"
 ·rw [if_pos e] at h; subst e; cases h; exact ⟨_,e_8,rfl⟩
 rw [if_neg e] at h;by_cases e:x = "shape"
 ·rw [if_pos e] at h; subst e; cases h; exact ⟨_,e_9,rfl⟩
 rw [if_neg e] at h;by_cases e:x = ""
 ·rw [if_pos e] at h; subst e; cases h; exact ⟨_,f_0,rfl⟩
 rw [if_neg e] at h;by_cases e:x = "Keep"
 ·rw [if_pos e] at h; subst e; cases h; exact ⟨_,f_1,rfl⟩
 rw [if_neg e] at h;by_cases e:x = "trail"
 ·rw [if_pos e] at h; subst e; cases h; exact ⟨_,f_2,rfl⟩
 rw [if_neg e] at h;by_cases e:x = "sum"
 ·rw [if_pos e] at h; subst e; cases h; exact ⟨_,f_3,rfl⟩
 rw [if_neg e] at h;by_cases e:x = "keepa"
 ·rw [if_pos e] at h; subst e; cases h; exact ⟨_,f_4,rfl⟩
 rw [if_neg e] at h
 ·cases h
theorem wk0 {t_0 t_1 t_2 t_3 t_4 t_5 t_6 t_7 t_8 t_9:Tok} (e_0:nsIn K a "drop" = some (some (.int 1 t_0))) (e_1:nsIn K a "join" = some (some (.int 3 t_1))) (e_2:nsIn K a "show" = some (some (.int 1 t_2))) (e_3:nsIn K a "names" = some (some (.int 0 t_3))) (e_4:nsIn K a "pen" = some (some (.int 1 t_4))) (e_5:nsIn K a "drawn" = some (some (.int 1 t_5))) (e_6:nsIn K a "strokes" = some (some (.int 1 t_6))) (e_7:nsIn K a "trails" = some (some (.int 1 t_7))) (e_8:nsIn K a "same" = some (some (.int 2 t_8))) (e_9:nsIn K a "shape" = some (some (.int 2 t_9))):MdI K a sa0:=by
 intro x y h;unfold sa0 at h;split at h
 ·next e=>subst e; cases h; exact ⟨_,e_0⟩
 split at h
 ·next e=>subst e; cases h; exact ⟨_,e_1⟩
 split at h
 ·next e=>subst e; cases h; exact ⟨_,e_2⟩
 split at h
 ·next e=>subst e; cases h; exact ⟨_,e_3⟩
 split at h
 ·next e=>subst e; cases h; exact ⟨_,e_4⟩
 split at h
 ·next e=>subst e; cases h; exact ⟨_,e_5⟩
 split at h
 ·next e=>subst e; cases h; exact ⟨_,e_6⟩
 split at h
 ·next e=>subst e; cases h; exact ⟨_,e_7⟩
 split at h
 ·next e=>subst e; cases h; exact ⟨_,e_8⟩
 split at h
 ·next e=>subst e; cases h; exact ⟨_,e_9⟩
 ·cases h
theorem vv4:FnScope uh3 ["word"] (xa0 vz1):=[3]
theorem wv4:FnScope vh3 ["word", "depth"] (xa0 wz1):=[3]
theorem zv4:FnScope yc2 ["deed", "depth"] (xa0 zz1):=[3]
theorem sc_q6:FnScope N_q6 ["kind", "number"] (xa0 s_q6):=[3]
theorem ut4:FnScope si4 ["pen", "part"] (xa0 sx1):=[3]
theorem ss4:FnScope vi4 ["word"] (xa0 yx1):=[3]
theorem ts4:FnScope wi4 ["deed"] (xa0 xx1):=[3]
theorem us4:FnScope zi4 ["part", "number"] (xa0 sw1):=[3]
theorem xr4:FnScope yg3 ["word"] (xa0 zv1):=[3]
theorem su4:FnScope zh3 ["word"] (xa0 sy1):=[3]
theorem tu4:FnScope yj4 ["deed"] (xa0 ty1):=[3]
theorem uu4:FnScope yh3 ["word"] (xa0 uy1):=[3]
theorem yv4:FnScope wh3 ["word"] (xa0 yz1):=[3]
theorem xv4:FnScope zj4 ["deed"] (xa0 xz1):=[3]
theorem xu4:FnScope ug3 ["word"] (xa0 xy1):=[3]
theorem vr4:FnScope zh4 ["word"] (xa0 tv1):=[3]
theorem wt4:FnScope ti4 ["word"] (xa0 ux1):=[3]
theorem ys4:FnScope th4 ["text"] (xa0 ww1):=[3]
theorem vt4:FnScope vg3 ["text"] (xa0 tx1):=[3]
theorem zq4:FnScope vg4 ["marks", "depth"] (xa0 vu1):=[3]
theorem vq4:FnScope ug4 ["marks", "depth"] (xa0 tu1):=[3]
theorem wq4:FnScope ur2 ["marks"] (xa0 uu1):=[3]
theorem uq4:FnScope tg4 ["marks", "bracket"] (xa0 su1):=[3]
theorem zt4:FnScope ui4 ["mark"] (xa0 vx1):=[3]
theorem sc_q4:FnScope N_q4 ["text"] (xa0 s_q4):=[3]
theorem wu4:FnScope xh3 ["mark", "figures"] (xa0 wy1):=[3]
theorem wr4:FnScope wg3 ["point", "other"] (xa0 uv1):=[3]
theorem zr4:FnScope zg3 ["points"] (xa0 vv1):=[3]
theorem ws4:FnScope xi4 ["strokes"] (xa0 uw1):=[3]
theorem vs4:FnScope yi4 ["word"] (xa0 tw1):=[3]
theorem sq4:FnScope xh4 ["pen", "word"] (xa0 yv1):=[3]
theorem zs4:FnScope sh4 ["word"] (xa0 vw1):=[3]
theorem tq4:FnScope sg4 ["pen", "number"] (xa0 xv1):=[3]
theorem yt4:FnScope N_q35 ["one", "other"] (xa0 wx1):=[3]
theorem yx4 {k:Nat} (hr:Room k (A.deeper (envOfC "parting_stroke" (xa0 wx1) s.heap.objs.size f cdv))) :
    RSs (cxOf CX0 P w K mg base N_q35 "parting_stroke" (xa0 wx1) f cdv A outer s H E).nox (wa0 wx1) (tm4) :=
 sg0
theorem sr4:FnScope N_q48 ["one", "other"] (xa0 yw1):=[3]
theorem sw4 {k:Nat} (hr:Room k (A.deeper (envOfC "same_shape" (xa0 yw1) s.heap.objs.size f cdv))) :
    RSs (cxOf CX0 P w K mg base N_q48 "same_shape" (xa0 yw1) f cdv A outer s H E).nox (wa0 yw1) (vl4) :=
 sg0
theorem xq4:FnScope N_q66 ["picture"] (xa0 zu1):=[3]
theorem tw4 {k:Nat} (hr:Room k (A.deeper (envOfC "trails_needed" (xa0 zu1) s.heap.objs.size f cdv))) :
    RSs (cxOf CX0 P w K mg base N_q66 "trails_needed" (xa0 zu1) f cdv A outer s H E).nox (wa0 zu1) (yk4) :=
 sg0
theorem zu4:FnScope sg3 ["marks"] (xa0 zy1):=[3]
theorem yu4:FnScope tg3 ["mark"] (xa0 yy1):=[3]
theorem sp4:FnScope xg3 ["numbers"] (xa0 yu1):=[3]
theorem ur4:FnScope wh4 ["words"] (xa0 sv1):=[3]
theorem xt4:FnScope N_q37 ["words"] (xa0 zx1):=[3]
theorem xx4 {k:Nat} (EX:[63]) (hr:Room k (A.deeper (envOfC "pen_answer" (xa0 zx1) s.heap.objs.size f cdv))) :
    RSs (cxOf (CXn P w) P w K mg base N_q37 "pen_answer" (xa0 zx1) f cdv A outer s H E) (wa0 zx1) (um4 XE) :=
 sg0
theorem vu4:FnScope N_q18 ["words"] (xa0 vy1):=[3]
theorem zx4 {k:Nat} (EX:[63]) (hr:Room k (A.deeper (envOfC "drawn_answer" (xa0 vy1) s.heap.objs.size f cdv))) :
    RSs (cxOf (CXn P w) P w K mg base N_q18 "drawn_answer" (xa0 vy1) f cdv A outer s H E) (wa0 vy1) (vn4 XE) :=
 sg0
theorem yr4:FnScope yh4 ["words"] (xa0 wv1):=[3]
theorem yq4:FnScope wg4 ["words"] (xa0 wu1):=[3]
theorem xs4:FnScope uh4 ["words"] (xa0 zw1):=[3]
theorem tr4:FnScope vh4 ["words"] (xa0 xw1):=[3]
theorem sc_q0:FnScope N_q0 ["script", "k"] (xa0 s_q0):=[3]
theorem sc_q3:FnScope N_q3 ["script", "k"] (xa0 s_q3):=[3]
theorem sc_q1:FnScope N_q1 ["state", "many"] (xa0 s_q1):=[3]
theorem sc_q2:FnScope N_q2 ["state"] (xa0 s_q2):=[3]
theorem tt4:FnScope xj4 ["script"] (xa0 wv0):=[3]
theorem uo0:FnScope xg0 ["self"] (xa0 yc0):=[3]
theorem xn0:FnScope yf0 ["self"] (xa0 vb0):=[3]
theorem wk1:FnScope zj0 ["self", "line"] (xa0 vf0):=[3]
theorem sm0:FnScope wc0 ["self", "marks"] (xa0 wb0):=[3]
theorem zv0:FnScope wf0 ["self", "marks", "words"] (xa0 tc0):=[3]
theorem sj0:FnScope xe0 ["self", "name", "word"] (xa0 xb0):=[3]
variable {k:Nat} 
theorem rs_all :
 ((∀ {XE:XE3} (EX:[63]) {spx_q11:[41]} (c_q11:CalX P w K mg base k "checked_count" ["word", "depth"] spx_q11) (hr:Room k (A.deeper (envOfC "check_word" (xa0 vz1) s.heap.objs.size f cdv))),RSs (cxOf (CXn P w) P w K mg base uh3 "check_word" (xa0 vz1) f cdv A outer s H E) (wa0 vz1) (wq3 XE spx_q11)) ∧
 (∀ {XE:XE3} (EX:[63]) {spx_q12:[41]} (c_q12:CalX P w K mg base k "checked_deed_count" ["deed", "depth"] spx_q12) {C_NoWord:Addr} (O_NoWord:[60]) (z_isinstance:mg "isinstance" = none) (z_tuple:mg "tuple" = none) (g_MOST_DEEDS:Gd K mg "MOST_DEEDS" vi0) (g_MOST_DEEP:Gd K mg "MOST_DEEP" sf0) (hr:Room k (A.deeper (envOfC "checked_count" (xa0 wz1) s.heap.objs.size f cdv))),RSs (cxOf (CXn P w) P w K mg base vh3 "checked_count" (xa0 wz1) f cdv A outer s H E) (wa0 wz1) (zq3 XE spx_q12)) ∧
 (∀ {XE:XE3} (EX:[63]) {spx_q6:[41]} (c_q6:CalX P w K mg base k "check_number" ["kind", "number"] spx_q6) {spx_q11:[41]} (c_q11:CalX P w K mg base k "checked_count" ["word", "depth"] spx_q11) {C_NoWord:Addr} (O_NoWord:[60]) (z_isinstance:mg "isinstance" = none) (z_len:mg "len" = none) (z_tuple:mg "tuple" = none) (g_PLAIN_KINDS:Gd K mg "PLAIN_KINDS" td0) (hr:Room k (A.deeper (envOfC "checked_deed_count" (xa0 zz1) s.heap.objs.size f cdv))),RSs (cxOf (CXn P w) P w K mg base yc2 "checked_deed_count" (xa0 zz1) f cdv A outer s H E) (wa0 zz1) (ud2 XE spx_q6 spx_q11)) ∧
 (∀ {XE:XE3} (EX:[63]) {C_NoWord:Addr} (O_NoWord:[60]) (z_abs:mg "abs" = none) (z_int:mg "int" = none) (z_isinstance:mg "isinstance" = none) (g_GREATEST_NUMBER:Gd K mg "GREATEST_NUMBER" ve0) (g_KINDS_FROM_NOUGHT:Gd K mg "KINDS_FROM_NOUGHT" vd0) (hr:Room k (A.deeper (envOfC "check_number" (xa0 s_q6) s.heap.objs.size f cdv))),RSs (cxOf (CXn P w) P w K mg base N_q6 "check_number" (xa0 s_q6) f cdv A outer s H E) (wa0 s_q6) (t_q6 XE)) ∧
 (∀ (g_AHEAD:Gd K mg "AHEAD" ui0) (hr:Room k (A.deeper (envOfC "led" (xa0 sx1) s.heap.objs.size f cdv))),RSs (cxOf CX0 P w K mg base si4 "led" (xa0 sx1) f cdv A outer s H E).nox (wa0 sx1) (zn4)) ∧
 (∀ {sp_q26:Sp3} (c_q26:Cal P w K mg base k "led" ["pen", "part"] sp_q26) {sp_q39:Sp3} (c_q39:Cal P w K mg base k "pen_behind_deed" ["deed"] sp_q39) (g_START:Gd K mg "START" zg0) (hr:Room k (A.deeper (envOfC "pen_behind" (xa0 yx1) s.heap.objs.size f cdv))),RSs (cxOf CX0 P w K mg base vi4 "pen_behind" (xa0 yx1) f cdv A outer s H E).nox (wa0 yx1) (vm4 sp_q26 sp_q39)) ∧
 (∀ {sp_q38:Sp3} (c_q38:Cal P w K mg base k "pen_behind" ["word"] sp_q38) {sp_q40:Sp3} (c_q40:Cal P w K mg base k "pen_repeated" ["part", "number"] sp_q40) (hr:Room k (A.deeper (envOfC "pen_behind_deed" (xa0 xx1) s.heap.objs.size f cdv))),RSs (cxOf CX0 P w K mg base wi4 "pen_behind_deed" (xa0 xx1) f cdv A outer s H E).nox (wa0 xx1) (wm4 sp_q38 sp_q40)) ∧
 (∀ {sp_q26:Sp3} (c_q26:Cal P w K mg base k "led" ["pen", "part"] sp_q26) (z_range:mg "range" = none) (g_START:Gd K mg "START" zg0) (hr:Room k (A.deeper (envOfC "pen_repeated" (xa0 sw1) s.heap.objs.size f cdv))),RSs (cxOf CX0 P w K mg base zi4 "pen_repeated" (xa0 sw1) f cdv A outer s H E).nox (wa0 sw1) (zm4 sp_q26))) /\ ((∀ {XE:XE3} (EX:[63]) {spx_q10:[41]} (c_q10:[95]) {sp_q15:Sp3} (c_q15:Cal P w K mg base k "count_strokes" ["word"] sp_q15) (hr:Room k (A.deeper (envOfC "strokes_drawn" (xa0 zv1) s.heap.objs.size f cdv))),RSs (cxOf (CXn P w) P w K mg base yg3 "strokes_drawn" (xa0 zv1) f cdv A outer s H E) (wa0 zv1) (so3 XE spx_q10 sp_q15)) ∧
 (∀ {sp_q16:Sp3} (c_q16:Cal P w K mg base k "count_strokes_of_deed" ["deed"] sp_q16) (z_sum:mg "sum" = none) (hr:Room k (A.deeper (envOfC "count_strokes" (xa0 sy1) s.heap.objs.size f cdv))),RSs (cxOf CX0 P w K mg base zh3 "count_strokes" (xa0 sy1) f cdv A outer s H E).nox (wa0 sy1) (xq3 sp_q16)) ∧
 (∀ {sp_q15:Sp3} (c_q15:Cal P w K mg base k "count_strokes" ["word"] sp_q15) (hr:Room k (A.deeper (envOfC "count_strokes_of_deed" (xa0 ty1) s.heap.objs.size f cdv))),RSs (cxOf CX0 P w K mg base yj4 "count_strokes_of_deed" (xa0 ty1) f cdv A outer s H E).nox (wa0 ty1) (un4 sp_q15)) ∧
 (∀ {XE:XE3} (EX:[63]) {spx_q10:[41]} (c_q10:[95]) {sp_q13:Sp3} (c_q13:Cal P w K mg base k "count_done" ["word"] sp_q13) (hr:Room k (A.deeper (envOfC "deeds_done" (xa0 uy1) s.heap.objs.size f cdv))),RSs (cxOf (CXn P w) P w K mg base yh3 "deeds_done" (xa0 uy1) f cdv A outer s H E) (wa0 uy1) (sp3 XE spx_q10 sp_q13)) ∧
 (∀ {sp_q14:Sp3} (c_q14:Cal P w K mg base k "count_done_of_deed" ["deed"] sp_q14) (z_sum:mg "sum" = none) (hr:Room k (A.deeper (envOfC "count_done" (xa0 yz1) s.heap.objs.size f cdv))),RSs (cxOf CX0 P w K mg base wh3 "count_done" (xa0 yz1) f cdv A outer s H E).nox (wa0 yz1) (yq3 sp_q14)) ∧
 (∀ {sp_q13:Sp3} (c_q13:Cal P w K mg base k "count_done" ["word"] sp_q13) (hr:Room k (A.deeper (envOfC "count_done_of_deed" (xa0 xz1) s.heap.objs.size f cdv))),RSs (cxOf CX0 P w K mg base zj4 "count_done_of_deed" (xa0 xz1) f cdv A outer s H E).nox (wa0 xz1) (tn4 sp_q13)) ∧
 (∀ {XE:XE3} (EX:[63]) {spx_q17:[41]} (c_q17:CalX P w K mg base k "deeds_done" ["word"] spx_q17) {spx_q57:[41]} (c_q57:CalX P w K mg base k "strokes_drawn" ["word"] spx_q57) (g_MOST_OF_SMALL:Gd K mg "MOST_OF_SMALL" uc0) (hr:Room k (A.deeper (envOfC "is_small" (xa0 xy1) s.heap.objs.size f cdv))),RSs (cxOf (CXn P w) P w K mg base ug3 "is_small" (xa0 xy1) f cdv A outer s H E) (wa0 xy1) (wp3 XE spx_q17 spx_q57)) ∧
 (∀ {XE:XE3} (EX:[63]) {spx_q10:[41]} (c_q10:[95]) {sp_q28:Sp3} (c_q28:Cal P w K mg base k "marks_of" ["word"] sp_q28) (hr:Room k (A.deeper (envOfC "shown" (xa0 tv1) s.heap.objs.size f cdv))),RSs (cxOf (CXn P w) P w K mg base zh4 "shown" (xa0 tv1) f cdv A outer s H E) (wa0 tv1) (yl4 XE spx_q10 sp_q28))) /\ ((∀ {sp_q28:Sp3} (c_q28:Cal P w K mg base k "marks_of" ["word"] sp_q28) (z_str:mg "str" = none) (hr:Room k (A.deeper (envOfC "marks_of" (xa0 ux1) s.heap.objs.size f cdv))),RSs (cxOf CX0 P w K mg base ti4 "marks_of" (xa0 ux1) f cdv A outer s H E).nox (wa0 ux1) (yn4 sp_q28)) ∧
 (∀ {XE:XE3} (EX:[63]) {spx_q10:[41]} (c_q10:[95]) {sp_q27:Sp3} (c_q27:Cal P w K mg base k "marks_in" ["text"] sp_q27) {spx_q64:[41]} (c_q64:CalX P w K mg base k "take_word" ["marks", "depth"] spx_q64) {C_BadNote:Addr} (O_BadNote:[16]) {C_NoWord:Addr} (m_NoWord:mg "NoWord" = some (.ref C_NoWord)) (k2_NoWord:kitCls K (.ref C_NoWord) [42]=some true) (k3:[51]) (k4_NoWord:kitCls K (.ref C_NoWord) (.ref C_NoWord)=some true) (z_len:mg "len" = none) (hr:Room k (A.deeper (envOfC "read" (xa0 ww1) s.heap.objs.size f cdv))),RSs (cxOf (CXn P w) P w K mg base th4 "read" (xa0 ww1) f cdv A outer s H E) (wa0 ww1) (tl4 XE spx_q10 sp_q27 spx_q64)) ∧
 (∀ (z_list:mg "list" = none) (z_reversed:mg "reversed" = none) (hr:Room k (A.deeper (envOfC "marks_in" (xa0 tx1) s.heap.objs.size f cdv))),RSs (cxOf CX0 P w K mg base vg3 "marks_in" (xa0 tx1) f cdv A outer s H E).nox (wa0 tx1) (zp3)) ∧
 (∀ {XE:XE3} (EX:[63]) {spx_q61:[41]} (c_q61:CalX P w K mg base k "take_deed" ["marks", "depth"] spx_q61) {C_BadNote:Addr} (O_BadNote:[16]) (z_len:mg "len" = none) (z_tuple:mg "tuple" = none) (g_MOST_DEEP:Gd K mg "MOST_DEEP" sf0) (hr:Room k (A.deeper (envOfC "take_word" (xa0 vu1) s.heap.objs.size f cdv))),RSs (cxOf (CXn P w) P w K mg base vg4 "take_word" (xa0 vu1) f cdv A outer s H E) (wa0 vu1) (wk4 XE spx_q61)) ∧
 (∀ {XE:XE3} (EX:[63]) {spx_q33:[41]} (c_q33:CalX P w K mg base k "number_of" ["mark"] spx_q33) {spx_q60:[41]} (c_q60:CalX P w K mg base k "take_bracket" ["marks", "bracket"] spx_q60) {spx_q62:[41]} (c_q62:CalX P w K mg base k "take_mark" ["marks"] spx_q62) {spx_q64:[41]} (c_q64:CalX P w K mg base k "take_word" ["marks", "depth"] spx_q64) {C_BadNote:Addr} (O_BadNote:[16]) (g_PLAIN_KINDS:Gd K mg "PLAIN_KINDS" td0) (hr:Room k (A.deeper (envOfC "take_deed" (xa0 tu1) s.heap.objs.size f cdv))),RSs (cxOf (CXn P w) P w K mg base ug4 "take_deed" (xa0 tu1) f cdv A outer s H E) (wa0 tu1) (vk4 XE spx_q33 spx_q60 spx_q62 spx_q64)) ∧
 (∀ {XE:XE3} (EX:[63]) {C_BadNote:Addr} (O_BadNote:[16]) (z_len:mg "len" = none) (hr:Room k (A.deeper (envOfC "take_mark" (xa0 uu1) s.heap.objs.size f cdv))),RSs (cxOf (CXn P w) P w K mg base ur2 "take_mark" (xa0 uu1) f cdv A outer s H E) (wa0 uu1) (zs2 XE)) ∧
 (∀ {XE:XE3} (EX:[63]) {spx_q62:[41]} (c_q62:CalX P w K mg base k "take_mark" ["marks"] spx_q62) {C_BadNote:Addr} (O_BadNote:[16]) (hr:Room k (A.deeper (envOfC "take_bracket" (xa0 su1) s.heap.objs.size f cdv))),RSs (cxOf (CXn P w) P w K mg base tg4 "take_bracket" (xa0 su1) f cdv A outer s H E) (wa0 su1) (uk4 XE spx_q62)) ∧
 (∀ {XE:XE3} (EX:[63]) {sp_q4:Sp3} (c_q4:Cal P w K mg base k "are_figures" ["text"] sp_q4) {sp_q20:Sp3} (c_q20:Cal P w K mg base k "has_needless" ["mark", "figures"] sp_q20) {C_BadNote:Addr} (O_BadNote:[16]) (z_int:mg "int" = none) (hr:Room k (A.deeper (envOfC "number_of" (xa0 vx1) s.heap.objs.size f cdv))),RSs (cxOf (CXn P w) P w K mg base ui4 "number_of" (xa0 vx1) f cdv A outer s H E) (wa0 vx1) (xn4 XE sp_q4 sp_q20))) /\ ((∀ (z_all:mg "all" = none) (z_len:mg "len" = none) (g_FIGURES:Gd K mg "FIGURES" sl0) (g_MOST_FIGURES:Gd K mg "MOST_FIGURES" vg0) (hr:Room k (A.deeper (envOfC "are_figures" (xa0 s_q4) s.heap.objs.size f cdv))),RSs (cxOf CX0 P w K mg base N_q4 "are_figures" (xa0 s_q4) f cdv A outer s H E).nox (wa0 s_q4) (t_q4)) ∧
 (∀ (z_len:mg "len" = none) (hr:Room k (A.deeper (envOfC "has_needless" (xa0 wy1) s.heap.objs.size f cdv))),RSs (cxOf CX0 P w K mg base xh3 "has_needless" (xa0 wy1) f cdv A outer s H E).nox (wa0 wy1) (tp3)) ∧
 (∀ (z_min:mg "min" = none) (hr:Room k (A.deeper (envOfC "stroke_between" (xa0 uv1) s.heap.objs.size f cdv))),RSs (cxOf CX0 P w K mg base wg3 "stroke_between" (xa0 uv1) f cdv A outer s H E).nox (wa0 uv1) (yp3)) ∧
 (∀ {sp_q53:Sp3} (c_q53:Cal P w K mg base k "stroke_between" ["point", "other"] sp_q53) (z_len:mg "len" = none) (z_range:mg "range" = none) (hr:Room k (A.deeper (envOfC "strokes_along" (xa0 vv1) s.heap.objs.size f cdv))),RSs (cxOf CX0 P w K mg base zg3 "strokes_along" (xa0 vv1) f cdv A outer s H E).nox (wa0 vv1) (xp3 sp_q53)) ∧
 (∀ (z_set:mg "set" = none) (z_sorted:mg "sorted" = none) (z_tuple:mg "tuple" = none) (hr:Room k (A.deeper (envOfC "picture_with" (xa0 uw1) s.heap.objs.size f cdv))),RSs (cxOf CX0 P w K mg base xi4 "picture_with" (xa0 uw1) f cdv A outer s H E).nox (wa0 uw1) (xm4)) ∧
 (∀ {XE:XE3} (EX:[63]) {spx_q23:[41]} (c_q23:CalX P w K mg base k "is_small" ["word"] spx_q23) {sp_q43:Sp3} (c_q43:Cal P w K mg base k "picture_with" ["strokes"] sp_q43) {sp_q58:Sp3} (c_q58:Cal P w K mg base k "strokes_from" ["pen", "word"] sp_q58) {C_NoRoom:Addr} (O_NoRoom:OwnCls "NoRoom" C_NoRoom [.type "ValueError",.type "Exception",.type "BaseException",.type "object"] "ValueError.__new__" mg base) (g_START:Gd K mg "START" zg0) (hr:Room k (A.deeper (envOfC "picture_of" (xa0 tw1) s.heap.objs.size f cdv))),RSs (cxOf (CXn P w) P w K mg base yi4 "picture_of" (xa0 tw1) f cdv A outer s H E) (wa0 tw1) (ym4 XE spx_q23 sp_q43 sp_q58)) ∧
 (∀ {sp_q26:Sp3} (c_q26:Cal P w K mg base k "led" ["pen", "part"] sp_q26) {sp_q39:Sp3} (c_q39:Cal P w K mg base k "pen_behind_deed" ["deed"] sp_q39) {sp_q45:Sp3} (c_q45:Cal P w K mg base k "plain_deeds" ["word"] sp_q45) {sp_q59:Sp3} (c_q59:Cal P w K mg base k "strokes_of_go" ["pen", "number"] sp_q59) (hr:Room k (A.deeper (envOfC "strokes_from" (xa0 yv1) s.heap.objs.size f cdv))),RSs (cxOf CX0 P w K mg base xh4 "strokes_from" (xa0 yv1) f cdv A outer s H E).nox (wa0 yv1) (sk4 sp_q26 sp_q39 sp_q45 sp_q59)) ∧
 (∀ {sp_q14:Sp3} (c_q14:Cal P w K mg base k "count_done_of_deed" ["deed"] sp_q14) {sp_q45:Sp3} (c_q45:Cal P w K mg base k "plain_deeds" ["word"] sp_q45) (hr:Room k (A.deeper (envOfC "plain_deeds" (xa0 vw1) s.heap.objs.size f cdv))),RSs (cxOf CX0 P w K mg base sh4 "plain_deeds" (xa0 vw1) f cdv A outer s H E).nox (wa0 vw1) (sl4 sp_q14 sp_q45))) /\ ((∀ {sp_q54:Sp3} (c_q54:Cal P w K mg base k "strokes_along" ["points"] sp_q54) (z_range:mg "range" = none) (g_AHEAD:Gd K mg "AHEAD" ui0) (hr:Room k (A.deeper (envOfC "strokes_of_go" (xa0 xv1) s.heap.objs.size f cdv))),RSs (cxOf CX0 P w K mg base sg4 "strokes_of_go" (xa0 xv1) f cdv A outer s H E).nox (wa0 xv1) (tk4 sp_q54)) ∧
 (∀ {sp_q22:Sp3} (c_q22:Cal P w K mg base k "is_name" ["mark"] sp_q22) {a_NAMES_IN_LINE:Addr} (md_NAMES_IN_LINE:Mdc w K mg "NAMES_IN_LINE" a_NAMES_IN_LINE) (mi_NAMES_IN_LINE_ok:MdI K a_NAMES_IN_LINE sa0) (mn_NAMES_IN_LINE_ok:MdN K a_NAMES_IN_LINE ta0) (z_all:mg "all" = none) (z_len:mg "len" = none) (hr:Room k (A.deeper (envOfC "is_line" (xa0 zy1) s.heap.objs.size f cdv))),RSs (cxOf CX0 P w K mg base sg3 "is_line" (xa0 zy1) f cdv A outer s H E).nox (wa0 zy1) (up3 sp_q22)) ∧
 (∀ (z_all:mg "all" = none) (z_len:mg "len" = none) (g_LETTERS:Gd K mg "LETTERS" tl0) (g_MOST_LETTERS:Gd K mg "MOST_LETTERS" wg0) (hr:Room k (A.deeper (envOfC "is_name" (xa0 yy1) s.heap.objs.size f cdv))),RSs (cxOf CX0 P w K mg base tg3 "is_name" (xa0 yy1) f cdv A outer s H E).nox (wa0 yy1) (vp3)) ∧
 (∀ (z_str:mg "str" = none) (hr:Room k (A.deeper (envOfC "written" (xa0 yu1) s.heap.objs.size f cdv))),RSs (cxOf CX0 P w K mg base xg3 "written" (xa0 yu1) f cdv A outer s H E).nox (wa0 yu1) (to3)) ∧
 (∀ {XE:XE3} (EX:[63]) {spx_q52:[41]} (c_q52:CalX P w K mg base k "shown" ["word"] spx_q52) (hr:Room k (A.deeper (envOfC "show_answer" (xa0 sv1) s.heap.objs.size f cdv))),RSs (cxOf (CXn P w) P w K mg base wh4 "show_answer" (xa0 sv1) f cdv A outer s H E) (wa0 sv1) (zl4 XE spx_q52)) ∧
 (∀ {XE:XE3} (EX:[63]) {spx_q41:[41]} (c_q41:CalX P w K mg base k "picture_of" ["word"] spx_q41) {sp_q71:Sp3} (c_q71:Cal P w K mg base k "written" ["numbers"] sp_q71) (z_len:mg "len" = none) (hr:Room k (A.deeper (envOfC "strokes_answer" (xa0 wv1) s.heap.objs.size f cdv))),RSs (cxOf (CXn P w) P w K mg base yh4 "strokes_answer" (xa0 wv1) f cdv A outer s H E) (wa0 wv1) (xl4 XE spx_q41 sp_q71)) ∧
 (∀ {XE:XE3} (EX:[63]) {spx_q41:[41]} (c_q41:CalX P w K mg base k "picture_of" ["word"] spx_q41) {sp_q66:Sp3} (c_q66:Cal P w K mg base k "trails_needed" ["picture"] sp_q66) {sp_q71:Sp3} (c_q71:Cal P w K mg base k "written" ["numbers"] sp_q71) (hr:Room k (A.deeper (envOfC "trails_answer" (xa0 wu1) s.heap.objs.size f cdv))),RSs (cxOf (CXn P w) P w K mg base wg4 "trails_answer" (xa0 wu1) f cdv A outer s H E) (wa0 wu1) (zk4 XE spx_q41 sp_q66 sp_q71)) ∧
 (∀ {XE:XE3} (EX:[63]) {sp_q35:Sp3} (c_q35:Cal P w K mg base k "parting_stroke" ["one", "other"] sp_q35) {spx_q41:[41]} (c_q41:CalX P w K mg base k "picture_of" ["word"] spx_q41) {sp_q71:Sp3} (c_q71:Cal P w K mg base k "written" ["numbers"] sp_q71) (hr:Room k (A.deeper (envOfC "same_answer" (xa0 zw1) s.heap.objs.size f cdv))),RSs (cxOf (CXn P w) P w K mg base uh4 "same_answer" (xa0 zw1) f cdv A outer s H E) (wa0 zw1) (ul4 XE sp_q35 spx_q41 sp_q71))) /\ ((∀ {XE:XE3} (EX:[63]) {spx_q41:[41]} (c_q41:CalX P w K mg base k "picture_of" ["word"] spx_q41) {sp_q48:Sp3} (c_q48:Cal P w K mg base k "same_shape" ["one", "other"] sp_q48) (hr:Room k (A.deeper (envOfC "shape_answer" (xa0 xw1) s.heap.objs.size f cdv))),RSs (cxOf (CXn P w) P w K mg base vh4 "shape_answer" (xa0 xw1) f cdv A outer s H E) (wa0 xw1) (wl4 XE spx_q41 sp_q48)) ∧
 (∀ (z_len:mg "len" = none) (hr:Room k (A.deeper (envOfC "_law_cell_at" (xa0 s_q0) s.heap.objs.size f cdv))),RSs (cxOf CX0 P w K mg base N_q0 "_law_cell_at" (xa0 s_q0) f cdv A outer s H E).nox (wa0 s_q0) (t_q0)) ∧
 (∀ {sp_q0:Sp3} (c_q0:Cal P w K mg base k "_law_cell_at" ["script", "k"] sp_q0) (hr:Room k (A.deeper (envOfC "_law_state" (xa0 s_q3) s.heap.objs.size f cdv))),RSs (cxOf CX0 P w K mg base N_q3 "_law_state" (xa0 s_q3) f cdv A outer s H E).nox (wa0 s_q3) (t_q3 sp_q0)) ∧
 (∀ (hr:Room k (A.deeper (envOfC "_law_choice" (xa0 s_q1) s.heap.objs.size f cdv))),RSs (cxOf CX0 P w K mg base N_q1 "_law_choice" (xa0 s_q1) f cdv A outer s H E).nox (wa0 s_q1) (t_q1)) ∧
 (∀ {sp_q1:Sp3} (c_q1:Cal P w K mg base k "_law_choice" ["state", "many"] sp_q1) (z_len:mg "len" = none) (hr:Room k (A.deeper (envOfC "_law_odd" (xa0 s_q2) s.heap.objs.size f cdv))),RSs (cxOf CX0 P w K mg base N_q2 "_law_odd" (xa0 s_q2) f cdv A outer s H E).nox (wa0 s_q2) (t_q2 sp_q1)) ∧
 (∀ {C_Desk:Addr} {sp_Desk___init__:Sp3} {k_Desk___init__:Nat} (c_Desk___init__:CalT P w K mg base k_Desk___init__ C_Desk "__init__" ["self"] sp_Desk___init__) (l_Desk___init__:k_Desk___init__ < k) {sp_Desk_all_words:Sp3} {k_Desk_all_words:Nat} (c_Desk_all_words:CalT P w K mg base k_Desk_all_words C_Desk "all_words" ["self"] sp_Desk_all_words) (l_Desk_all_words:k_Desk_all_words<=k) {sp_Desk_say:Sp3} {k_Desk_say:Nat} (c_Desk_say:CalT P w K mg base k_Desk_say C_Desk "say" ["self", "line"] sp_Desk_say) (l_Desk_say:k_Desk_say<=k) {sp_q1:Sp3} (c_q1:Cal P w K mg base k "_law_choice" ["state", "many"] sp_q1) {sp_q2:Sp3} (c_q2:Cal P w K mg base k "_law_odd" ["state"] sp_q2) {sp_q3:Sp3} (c_q3:Cal P w K mg base k "_law_state" ["script", "k"] sp_q3) (oc_Desk:ObjC K "Desk" C_Desk) (mk_Desk:makesIn K C_Desk=true) (kp_Desk:keepIn K (.ref C_Desk)=true) (m_Desk:mg "Desk" = some (.ref C_Desk)) (z_range:mg "range" = none) (z_str:mg "str" = none) (hr:Room k (A.deeper (envOfC "law" (xa0 wv0) s.heap.objs.size f cdv))),RSs (cxOf CX0 P w K mg base xj4 "law" (xa0 wv0) f cdv A outer s H E).nox (wa0 wv0) (wn4 sp_Desk___init__ sp_Desk_all_words sp_Desk_say sp_q1 sp_q2 sp_q3)) ∧
 (∀ {C_Desk:Addr} (oc_Desk:ObjC K "Desk" C_Desk) (na_Desk_words:NoAttr K C_Desk "words") (hr:Room k (A.deeper (envOfC "Desk.__init__" (xa0 yc0) s.heap.objs.size f cdv))),RSs (cxOf CX0 P w K mg base xg0 "Desk.__init__" (xa0 yc0) f cdv A outer s H E).nox (wa0 yc0) (wi0)) ∧
 (∀ {C_Desk:Addr} (oc_Desk:ObjC K "Desk" C_Desk) (na_Desk_words:NoAttr K C_Desk "words") (z_dict:mg "dict" = none) (hr:Room k (A.deeper (envOfC "Desk.all_words" (xa0 vb0) s.heap.objs.size f cdv))),RSs (cxOf CX0 P w K mg base yf0 "Desk.all_words" (xa0 vb0) f cdv A outer s H E).nox (wa0 vb0) (zi0))) /\ ((∀ {C_Desk:Addr} {sp_Desk_answer:Sp3} {k_Desk_answer:Nat} (c_Desk_answer:CalT P w K mg base k_Desk_answer C_Desk "answer" ["self", "marks", "words"] sp_Desk_answer) (l_Desk_answer:k_Desk_answer<=k) {sp_Desk_keep_read:Sp3} {k_Desk_keep_read:Nat} (c_Desk_keep_read:CalT P w K mg base k_Desk_keep_read C_Desk "keep_read" ["self", "marks"] sp_Desk_keep_read) (l_Desk_keep_read:k_Desk_keep_read<=k) {sp_q21:Sp3} (c_q21:Cal P w K mg base k "is_line" ["marks"] sp_q21) (oc_Desk:ObjC K "Desk" C_Desk) (na_Desk_words:NoAttr K C_Desk "words") (z_all:mg "all" = none) (g_BAD_LINE:Gd K mg "BAD_LINE" tf0) (g_NO_SUCH_NAME:Gd K mg "NO_SUCH_NAME" ue0) (hr:Room k (A.deeper (envOfC "Desk.say" (xa0 vf0) s.heap.objs.size f cdv))),RSs (cxOf CX0 P w K mg base zj0 "Desk.say" (xa0 vf0) f cdv A outer s H E).nox (wa0 vf0) (um0 sp_Desk_answer sp_Desk_keep_read sp_q21)) ∧
 (∀ {sp_q22:Sp3} (c_q22:Cal P w K mg base k "is_name" ["mark"] sp_q22) {spx_q46:[41]} (c_q46:CalX P w K mg base k "read" ["text"] spx_q46) {C_Desk:Addr} (oc_Desk:ObjC K "Desk" C_Desk) (na_Desk_words:NoAttr K C_Desk "words") {C_BadNote:Addr} (m_BadNote:mg "BadNote" = some (.ref C_BadNote)) (k2_BadNote:kitCls K (.ref C_BadNote) [42]=some true) (k3:[51]) (k4_BadNote:kitCls K (.ref C_BadNote) (.ref C_BadNote)=some true) (z_len:mg "len" = none) (g_BAD_LINE:Gd K mg "BAD_LINE" tf0) (g_KEPT:Gd K mg "KEPT" sg1) (hr:Room k (A.deeper (envOfC "Desk.keep_read" (xa0 wb0) s.heap.objs.size f cdv))),RSs (cxOf CX0 P w K mg base wc0 "Desk.keep_read" (xa0 wb0) f cdv A outer s H E).nox (wa0 wb0) (zd0 sp_q22 spx_q46)) ∧
 (∀ {C_Desk:Addr} {sp_Desk_keep_joined:Sp3} {k_Desk_keep_joined:Nat} (c_Desk_keep_joined:CalT P w K mg base k_Desk_keep_joined C_Desk "keep_joined" ["self", "name", "word"] sp_Desk_keep_joined) (l_Desk_keep_joined:k_Desk_keep_joined<=k) {spx_q18:[41]} (c_q18:CalX P w K mg base k "drawn_answer" ["words"] spx_q18) {spx_q37:[41]} (c_q37:CalX P w K mg base k "pen_answer" ["words"] spx_q37) {spx_q47:[41]} (c_q47:CalX P w K mg base k "same_answer" ["words"] spx_q47) {spx_q49:[41]} (c_q49:CalX P w K mg base k "shape_answer" ["words"] spx_q49) {spx_q51:[41]} (c_q51:CalX P w K mg base k "show_answer" ["words"] spx_q51) {spx_q55:[41]} (c_q55:CalX P w K mg base k "strokes_answer" ["words"] spx_q55) {spx_q65:[41]} (c_q65:CalX P w K mg base k "trails_answer" ["words"] spx_q65) (oc_Desk:ObjC K "Desk" C_Desk) {C_NoRoom:Addr} (m_NoRoom:mg "NoRoom" = some (.ref C_NoRoom)) (k2_NoRoom:kitCls K (.ref C_NoRoom) [42]=some true) (k3:[51]) (k4_NoRoom:kitCls K (.ref C_NoRoom) (.ref C_NoRoom)=some true) {a_ANSWERS:Addr} (md_ANSWERS:Mdc w K mg "ANSWERS" a_ANSWERS) (mn_ANSWERS_ok:MdN K a_ANSWERS tn0) {p_q51:Addr} (me_ANSWERS_show_answer:nsIn K a_ANSWERS "show" = some (some (.ref p_q51))) (mm_q51:mg "show_answer" = some (.ref p_q51)) {p_q37:Addr} (me_ANSWERS_pen_answer:nsIn K a_ANSWERS "pen" = some (some (.ref p_q37))) (mm_q37:mg "pen_answer" = some (.ref p_q37)) {p_q18:Addr} (me_ANSWERS_drawn_answer:nsIn K a_ANSWERS "drawn" = some (some (.ref p_q18))) (mm_q18:mg "drawn_answer" = some (.ref p_q18)) {p_q55:Addr} (me_ANSWERS_strokes_answer:nsIn K a_ANSWERS "strokes" = some (some (.ref p_q55))) (mm_q55:mg "strokes_answer" = some (.ref p_q55)) {p_q65:Addr} (me_ANSWERS_trails_answer:nsIn K a_ANSWERS "trails" = some (some (.ref p_q65))) (mm_q65:mg "trails_answer" = some (.ref p_q65)) {p_q47:Addr} (me_ANSWERS_same_answer:nsIn K a_ANSWERS "same" = some (some (.ref p_q47))) (mm_q47:mg "same_answer" = some (.ref p_q47)) {p_q49:Addr} (me_ANSWERS_shape_answer:nsIn K a_ANSWERS "shape" = some (some (.ref p_q49))) (mm_q49:mg "shape_answer" = some (.ref p_q49)) (g_TOO_GREAT:Gd K mg "TOO_GREAT" we0) (hr:Room k (A.deeper (envOfC "Desk.answer" (xa0 tc0) s.heap.objs.size f cdv))),RSs (cxOf CX0 P w K mg base wf0 "Desk.answer" (xa0 tc0) f cdv A outer s H E).nox (wa0 tc0) (zh0 sp_Desk_keep_joined spx_q18 spx_q37 spx_q47 spx_q49 spx_q51 spx_q55 spx_q65)) ∧
 (∀ {spx_q10:[41]} (c_q10:[95]) {C_Desk:Addr} (oc_Desk:ObjC K "Desk" C_Desk) (na_Desk_words:NoAttr K C_Desk "words") {C_NoWord:Addr} (m_NoWord:mg "NoWord" = some (.ref C_NoWord)) (k2_NoWord:kitCls K (.ref C_NoWord) [42]=some true) (k3:[51]) (k4_NoWord:kitCls K (.ref C_NoWord) (.ref C_NoWord)=some true) (g_KEPT:Gd K mg "KEPT" sg1) (g_TOO_GREAT:Gd K mg "TOO_GREAT" we0) (hr:Room k (A.deeper (envOfC "Desk.keep_joined" (xa0 xb0) s.heap.objs.size f cdv))),RSs (cxOf CX0 P w K mg base xe0 "Desk.keep_joined" (xa0 xb0) f cdv A outer s H E).nox (wa0 xb0) (yg0 spx_q10))):=by
 refine ⟨⟨?_,?_,?_,?_,?_,?_,?_,?_⟩,⟨?_,?_,?_,?_,?_,?_,?_,?_⟩,⟨?_,?_,?_,?_,?_,?_,?_,?_⟩,⟨?_,?_,?_,?_,?_,?_,?_,?_⟩,⟨?_,?_,?_,?_,?_,?_,?_,?_⟩,⟨?_,?_,?_,?_,?_,?_,?_,?_⟩,⟨?_,?_,?_,?_⟩⟩ <;> intros <;> repeat' first
  | (with_reducible show RE _ (.ListComp _ [⟨.Name "deed" _,_,_,_⟩] _ _) _); refine xa1 (NN:=["deed"]) (by decide +kernel) (by decide +kernel) (by decide +kernel) ?_ (λ _ _ _ _ _=>?_) [82] [82]
  | (with_reducible show RE _ (.ListComp _ [⟨.Name "sign" _,_,_,_⟩] _ _) _); refine xa1 (NN:=["sign"]) (by decide +kernel) (by decide +kernel) (by decide +kernel) ?_ (λ _ _ _ _ _=>?_) [82] [82]
  | (with_reducible show RE _ (.ListComp _ [⟨.Name "place" _,_,_,_⟩] _ _) _); refine sz0 (NN:=["place", "points"]) (js:=[none,some 0]) rfl xn1 ?_ (λ _ _ _ _ _=>?_) [82] [82] (by intro _; rfl)
  | (with_reducible show RS _ _ (set3 _ (comp3 [none,some 0,some 2] _ _ _ _))); refine xv2 (by (conv=>(arg 1; whnf)); decide +kernel) (NN:=["far", "pen", "ahead"]) (js:=[none,some 0,some 2]) rfl xn1 ?_ [82] [82] [82] (by intro _; rfl)
  | (with_reducible show RE _ (.ListComp _ [⟨.Name "mark" _,_,_,_⟩] _ _) _); refine xa1 (NN:=["mark"]) (by decide +kernel) (by decide +kernel) (by decide +kernel) ?_ (λ _ _ _ _ _=>?_) [82] [82]
  | (with_reducible show RE _ (.ListComp _ [⟨.Name "number" _,_,_,_⟩] _ _) _); refine xa1 (NN:=["number"]) (by decide +kernel) (by decide +kernel) (by decide +kernel) ?_ (λ _ _ _ _ _=>?_) [82] [82]
  | (with_reducible show RE _ (.ListComp _ [⟨.Name "name" _,_,_,_⟩] _ _) _); refine sz0 (NN:=["name", "self"]) (js:=[none,some 0]) rfl xn1 ?_ (λ _ _ _ _ _=>?_) [82] [82] (by intro _; rfl)
  | (with_reducible show RE _ _ (v3 _)); exact xy4 _
  | (with_reducible show RE _ _ (c3 (D.int _))); exact yz4
  | (with_reducible show RA _ _ nil3); exact sf1
  | (with_reducible show RA _ _ (cons3 _ _)); refine vn0 ?_ ?_
  | (with_reducible show RS _ _ (drop3 _)); refine vu3 ?_
  | (with_reducible show RE _ _ (c3 (D.ty "tuple"))); exact yy4 [12] ss1
  | (with_reducible show RE _ _ (call3 isiR _)); refine si0 q_isi [12] zd1 ?_
  | (with_reducible show RT _ _ (not3 _)); refine ww4 ?_
  | (with_reducible show RE _ _ (c3 (D.str _))); exact wy4
  | (with_reducible show RS _ _ (vc0 _ _ _)); refine yv2 [12] [12] excBase_ValueError [8] excBase_ValueError ?_
  | (with_reducible show RSs _ _ next3); exact zu3
  | (with_reducible show RS _ _ (ifs3 _ _ _)); refine rs_if ?_ ?_ ?_
  | (with_reducible show RT _ _ (b3 (o3 gtR _ _))); refine wo0 q_gt ?_ ?_
  | (with_reducible show RI _ _ _ (is3 _)); refine ux4 ?_
  | (with_reducible show RG _ _ (gn3 _)); exact su3 (by (conv=>(arg 1; whnf)); decide +kernel)
  | (with_reducible show RE _ _ (o3 addR _ _)); refine vk1 q_add ?_ ?_
  | (with_reducible show RSs _ _ (seq3 _ _)); refine wu2 ?_ ?_
  | (with_reducible show RS _ _ (for3 _ _ _)); refine tj3 PassesOwn.leaving rfl ?_ ?_ ?_
  | (with_reducible show RS _ _ (ret3 _)); refine uw4 ?_
  | (with_reducible show RE _ _ (call3 lenR _)); refine si0 q_len [12] bz_len ?_
  | (with_reducible show RT _ _ (b3 (o3 eqR _ _))); refine wo0 (q_eq (hu64 [12])) ?_ ?_
  | (with_reducible show RE _ _ (o3 ixR _ _)); refine re_ix q_ix ?_ ?_
  | (with_reducible show RT _ _ (b3 (o3 (inR false) _ _))); refine wo0 (q_in (hu65 [12])) ?_ ?_
  | (with_reducible show RW _ _ (and3 _ _)); refine sv4 ?_ ?_
  | (with_reducible show RE _ _ (c3 (D.ty "int"))); exact yy4 [12] yn3
  | (with_reducible show RE _ _ (call3 absR _)); refine si0 q_abs [12] bz_abs ?_
  | (with_reducible show RT _ _ (b3 (o3 ltR _ _))); refine wo0 q_lt ?_ ?_
  | (with_reducible show RE _ _ (o3 mulR _ _)); refine vk1 q_mul ?_ ?_
  | (with_reducible show RE _ _ (o3 subR _ _)); refine vk1 q_sub ?_ ?_
  | (with_reducible show RE _ _ (o3 modR _ _)); refine vk1 q_mod ?_ ?_
  | (with_reducible show RE _ _ (tup3 _)); refine zy4 ?_
  | (with_reducible show RS _ _ (for3 _ _ _)); refine tj3 PassesOwn.never rfl ?_ ?_ ?_
  | (with_reducible show RI _ _ _ (ir3 (cons3 _ nil3))); refine wg2 [12] ?_
  | (with_reducible show RTs _ _ tt3); exact ut3
  | (with_reducible show RE _ _ (call3 sumR _)); refine si0 q_sum [12] bz_sum ?_
  | (with_reducible show RE _ _ (o3 leR _ _)); refine vf1 q_le ?_ ?_
  | (with_reducible show RE _ _ (andV3 _ _)); refine tz4 ?_ ?_
  | (with_reducible show RE _ _ (smt3 joinR _ _)); refine wv3 ?_ ?_
  | (with_reducible show RE _ _ (lst3 _)); refine xz4 ?_
  | (with_reducible show RE _ _ (call3 strR _)); refine vl0 q_str [12] bz_str ?_
  | (with_reducible show RE _ _ (mt3 extR _ _)); refine xh2 ?_ ?_
  | (with_reducible show RS _ _ (wo3 _ _ _ _ _)); refine wu3 (by assumption) (by assumption) (by assumption) ?_ (λ _=>?_) [12] [12] [12] [12] [12] excBase_ValueError [8] excBase_ValueError
  | (with_reducible show RE _ _ (smt3 splitR _ _)); refine sv2 ?_ ?_
  | (with_reducible show RE _ _ (lrev3 _)); refine zv3 ?_ [12] [12]
  | (with_reducible show RE _ _ (un3 negR _)); refine re_un q_neg ?_
  | (with_reducible show RT _ _ (b3 (o3 neR _ _))); refine wo0 (q_ne (hu64 [12])) ?_ ?_
  | (with_reducible show RE _ _ (mt3 appR _ _)); refine yh2 ?_ ?_
  | (with_reducible show RS _ _ (uc2 _ _)); refine vu2 PassesOwn.leaving ?_ ?_
  | (with_reducible show RE _ _ (call3 tupR _)); refine vl0 xw3 [12] ss1 ?_
  | (with_reducible show RE _ _ (pop3 _)); refine vy4 ?_
  | (with_reducible show RE _ _ (smt3 startsR _ _)); refine tz0 ?_ ?_
  | (with_reducible show RP _ _ (pt3 _)); refine uu3 ?_
  | (with_reducible show RP _ _ np3); exact tu3
  | (with_reducible show RE _ _ (sl3 slR _ _ _)); refine xw2 q_sl ?_ ?_ ?_
  | (with_reducible show RW _ _ (or3 _ _)); refine rw_or ?_ ?_
  | (with_reducible show RE _ _ (call3 intR _)); refine vl0 q_int [12] yn3 ?_
  | (with_reducible show RE _ _ (c3 (D.bl _))); exact re_bl
  | (with_reducible show RE _ _ (o3 (inR false) _ _)); refine vf1 (q_in (hu65 [12])) ?_ ?_
  | (with_reducible show RE _ _ (call3 allR _)); refine si0 q_all [12] bz_all ?_
  | (with_reducible show RE _ _ (o3 eqR _ _)); refine vf1 (q_eq (hu64 [12])) ?_ ?_
  | (with_reducible show RE _ _ (o3 gtR _ _)); refine vf1 q_gt ?_ ?_
  | (with_reducible show RE _ _ (orV3 _ _)); refine re_or ?_ ?_
  | (with_reducible show RE _ _ (call3 mnR _)); refine si0 (q_mn rfl (hu64 [12])) [12] bz_min ?_
  | (with_reducible show RE _ _ (if3 _ _ _)); refine re_if ?_ ?_ ?_
  | (with_reducible show RI _ _ _ (ir23 (cons3 _ (cons3 _ nil3)))); refine zg2 [12] ?_ ?_
  | (with_reducible show REs _ _ (uq3 (cons3 _ nil3))); refine xu3 ?_ [12] (hu64 [12])
  | (with_reducible show RE _ _ (tq3 _)); refine xv3 ?_ [12]
  | (with_reducible show RT _ _ (b3 (mdn3 true _ _))); refine uz1 [12] [12] ?_
  | (with_reducible show RE _ _ (mdg3 _ _)); refine sy4 [12] [12] ?_
  | (with_reducible show RE _ _ (c3 D.non)); exact ty4
  | (with_reducible show RT _ _ (b3 (o3 (isNR false) _ _))); refine wo0 q_isN ?_ ?_
  | (with_reducible show RE _ _ (o3 powR _ _)); refine vk1 q_pow ?_ ?_
  | (with_reducible show RT _ _ (b3 (o3 geR _ _))); refine wo0 q_ge ?_ ?_
  | (with_reducible show RE _ _ (o3 fdivR _ _)); refine vk1 tf5 ?_ ?_
  | (with_reducible show RG _ _ (sub3 _ _)); refine tx4 ?_ ?_
  | (with_reducible show RS _ _ (asg3 _ _)); refine vx4 ?_ ?_
  | (with_reducible show RE _ _ (zb4 _ _ nil3)); exact zw2 [12] [12] [12] [12] [12] (Room.mono [12] [12])
  | (with_reducible show RE _ _ (xd0 _ _ _ _ _)); refine yv3 ?_ [12] [12] (Room.mono [12] [12]) ?_
  | (with_reducible show RE _ _ (o3 smxR _ _)); refine vk1 q_smx ?_ ?_
  | (with_reducible show RE _ _ (xd0 _ _ _ _ nil3)); refine yw2 ?_ [12] [12] (Room.mono [12] [12])
  | (with_reducible show RT _ _ (b3 (o3 dneR _ _))); refine wo0 (q_dne (hu64 [12])) ?_ ?_
  | (with_reducible show RE _ _ dnk3); exact wz4
  | (with_reducible show RS _ _ (us3 _ _ _ _)); refine wx4 ?_ ?_ [12] [12]
  | (with_reducible show RE _ _ (fld3 _ _ _)); refine zz4 ?_ [12] [12]
  | (with_reducible show RE _ _ (call3 dcpR _)); refine vl0 q_dcp [12] uf4 ?_
  | (with_reducible show RE _ _ (o3 (um1 false) _ _)); refine vf1 (yw3 (hu64 [12])) ?_ ?_
  | (with_reducible show RE _ _ (o3 dgkR _ _)); refine vz4 (hu64 [12]) ?_ ?_
  | (with_reducible show RS _ _ (ze1 _ (yu2 _) _ _ _)); refine uu2 (by assumption) (by assumption) ?_ (λ _=>?_) (by (conv=>(arg 1; whnf)); decide +kernel) [12] [12] [12] [12]
  | (with_reducible show RS _ _ (th1 _ _ _)); refine zv2 (hu64 [12]) ?_ ?_ ?_
  | (with_reducible show RSs _ _ never3); exact sg0
  | (with_reducible show RS _ _ (wd2 _ _ _ _ _)); refine tu2 (by assumption) (uv0 (by assumption) (by assumption) (by assumption) (by assumption) (by assumption) (by assumption) (by assumption) (by assumption) (by assumption) (by assumption) (by assumption) (by assumption) (by assumption) (by assumption) (by assumption) (by assumption) (by assumption) (by assumption) (by assumption) (by assumption) (by assumption)) ?_ (by assumption) ?_ (λ _=>?_) [12] [12] [12] [12]
  | (with_reducible show RS _ _ (ze1 _ zl2 _ _ _)); refine su2 (by assumption) (by assumption) ?_ (λ _=>?_) [12] [12] [12] [12]
  | (with_reducible show RE _ _ (call3 _ _)); refine ww2 [12] [12] [12] ?_
  | (with_reducible show RT _ _ (b3 _)); refine zw4 ?_
  | (with_reducible show RE _ _ (c3 _)); exact re_g [12]
  | (with_reducible show RS _ _ (set3 _ _)); refine vw4 (by (conv=>(arg 1; whnf)); decide +kernel) ?_
  | (with_reducible show RE _ _ (call3 _ _)); refine vv3 [12] [12] ?_
  | (with_reducible show RSs _ _ _); refine yu3 ?_
  | (with_reducible show RW _ _ _); refine vt3 ?_
  | (with_reducible show RT _ _ _); refine rw_pt ?_
  | (with_reducible show RE _ _ _); refine uy4 ?_
  | (with_reducible show RW _ _ _); refine tv4 ?_
end
end Pv
namespace Mw
abbrev Pen:=Int × Int × Int
def cs (h:Int):Int:=if h=0 then 1 else if h=2 then -1 else 0
def sn (h:Int):Int:=if h=1 then 1 else if h=3 then -1 else 0
def led (p q:Pen):Pen:=(p.1 + q.1 * cs p.2.2 - q.2.1 * sn p.2.2,p.2.1 + q.1 * sn p.2.2 + q.2.1 * cs p.2.2,(p.2.2 + q.2.2) % 4)
def st:Pen:=(0,0,0)
def Hd (p:Pen):Prop:=p.2.2=0 \/ p.2.2=1 \/ p.2.2=2 \/ p.2.2=3
theorem wm2:Hd st:=.inl rfl
theorem sr1 (p q:Pen):Hd (led p q):=by
 unfold Hd led;have h1:=Int.emod_nonneg (p.2.2 + q.2.2) (show (4:Int) ≠ 0 by decide);have h2:=Int.emod_lt_of_pos (p.2.2 + q.2.2) (show (0:Int) < 4 by decide);dsimp only;omega
variable {p:Pen}
theorem yx0 (h:Hd p):led p st=p:=by
 obtain ⟨x,y,k⟩:=p;unfold Hd at h;dsimp only at h;rcases h with rfl | rfl | rfl | rfl <;> simp [led,st,cs,sn]
theorem xp1 (h:Hd p):led st p=p:=by
 obtain ⟨x,y,k⟩:=p;unfold Hd at h;dsimp only at h;rcases h with rfl | rfl | rfl | rfl <;> simp [led,st,cs,sn]
theorem cs_add {a b:Int} (h:a=0 \/ a=1 \/ a=2 \/ a=3) (h':b=0 \/ b=1 \/ b=2 \/ b=3):cs ((a + b) % 4)=cs a * cs b - sn a * sn b:=by
 rcases h with rfl | rfl | rfl | rfl <;> rcases h' with rfl | rfl | rfl | rfl <;> rfl
theorem zp4 {a b:Int} (h:a=0 \/ a=1 \/ a=2 \/ a=3) (h':b=0 \/ b=1 \/ b=2 \/ b=3):sn ((a + b) % 4)=sn a * cs b + cs a * sn b:=by
 rcases h with rfl | rfl | rfl | rfl <;> rcases h' with rfl | rfl | rfl | rfl <;> rfl
theorem yt0 {q:Pen} (r:Pen) (h:Hd p) (h':Hd q):led (led p q) r=led p (led q r):=by
 have e1:=cs_add h h';have e2:=zp4 h h';have e3:∀ a b c:Int,((a + b) % 4 + c) % 4=(a + (b + c) % 4) % 4:=λ a b c=>by rw [Int.emod_add_emod,Int.add_emod_emod,Int.add_assoc]
 refine Prod.ext ?_ (Prod.ext ?_ (e3 _ _ _))
 ·show p.1 + q.1 * cs p.2.2 - q.2.1 * sn p.2.2 + r.1 * cs ((p.2.2 + q.2.2) % 4) - r.2.1 * sn ((p.2.2 + q.2.2) % 4)=p.1 + (q.1 + r.1 * cs q.2.2 - r.2.1 * sn q.2.2) * cs p.2.2 - (q.2.1 + r.1 * sn q.2.2 + r.2.1 * cs q.2.2) * sn p.2.2;rw [e1,e2]
  grind
 ·show p.2.1 + q.1 * sn p.2.2 + q.2.1 * cs p.2.2 + r.1 * sn ((p.2.2 + q.2.2) % 4) + r.2.1 * cs ((p.2.2 + q.2.2) % 4)=p.2.1 + (q.1 + r.1 * cs q.2.2 - r.2.1 * sn q.2.2) * sn p.2.2 + (q.2.1 + r.1 * sn q.2.2 + r.2.1 * cs q.2.2) * cs p.2.2;rw [e1,e2]
  grind
def pw (p:Pen):Nat->Pen
 | 0=>st
 | n + 1=>led (pw p n) p
theorem zm1 (p:Pen):∀ n,Hd (pw p n)
 | 0=>wm2
 | n + 1=>sr1 _ _
theorem xq1 {p:Pen} (h:Hd p) (m:Nat):∀ n,pw p (m + n)=led (pw p m) (pw p n)
 | 0=>(yx0 (zm1 p m)).symm
 | n + 1=>by
  show led (pw p (m + n)) p=led (pw p m) (led (pw p n) p);rw [xq1 h m n,yt0 p (zm1 p m) (zm1 p n)]
theorem yg5 (h:Hd p):pw p 1=p:=xp1 h
theorem yk3 {p:Pen} (h:Hd p) (m:Nat):∀ n,pw p (m * n)=pw (pw p m) n
 | 0=>rfl
 | n + 1=>by
  rw [Nat.mul_succ,xq1 h,yk3 h m n];rfl
theorem zw3 (h:Hd p) (h0:p.2.2 ≠ 0):pw p 4=st:=by
 obtain ⟨x,y,k⟩:=p;unfold Hd at h;dsimp only at h h0;rcases h with rfl | rfl | rfl | rfl
 ·exact absurd rfl h0
 all_goals (simp [pw,led,st,cs,sn] <;> omega)
theorem uh2 {p:Pen} (h0:p.2.2=0):∀ n:Nat,pw p n=(p.1 * n,p.2.1 * n,0)
 | 0=>by simp [pw,st]
 | n + 1=>by
  show led (pw p n) p=_;rw [uh2 h0 n];obtain ⟨x,y,k⟩:=p;dsimp only at h0;subst h0;simp [led,cs,sn,Int.mul_add]
def rep (p:Pen) (n:Int):Pen:=if p.2.2=0 then (p.1 * n,p.2.1 * n,0) else pw p (n % 4).toNat
theorem zg5 (h:Hd p) (h0:p.2.2 ≠ 0) (n:Nat):pw p n=pw p (n % 4):=by
 have e:n=4 * (n / 4) + n % 4:=by omega
 have z:∀ k,pw st k=st:=λ k=>by
  induction k with
  | zero=>rfl
  | succ k ih=>show led (pw st k) st=st; rw [ih]; exact yx0 wm2
 conv=>lhs; rw [e]
 rw [xq1 h,yk3 h,zw3 h h0,z,xp1 (zm1 _ _)]
variable {n:Int}
theorem xk3 (h:Hd p) (hn:0<=n):rep p n=pw p n.toNat:=by
 unfold rep;by_cases h0:p.2.2=0
 ·rw [if_pos h0,uh2 h0,Int.toNat_of_nonneg hn]
 ·rw [if_neg h0,zg5 h h0 n.toNat];congr 1;omega
theorem hd_rep (h:Hd p) (hn:0<=n):Hd (rep p n):=by rw [xk3 h hn]; exact zm1 _ _
inductive Dd where
 | go (n:Int) | jump (n:Int) | turn (n:Int) | times (n:Int) (w:List Dd)
mutual
def cnt:Dd->Nat
 | .times _ w=>1 + cnts w
 | _=>1
def cnts:List Dd->Nat
 | []=>0
 | d :: r=>cnt d + cnts r
end
mutual
def dep:Dd->Nat
 | .times _ w=>1 + deps w
 | _=>0
def deps:List Dd->Nat
 | []=>0
 | d :: r=>max (dep d) (deps r)
end
def G:Int:=99999999999999999999
mutual
def okd:Dd->Prop
 | .go n=>0<=n /\ n<=G
 | .jump n=>-G<=n /\ n<=G
 | .turn n=>-G<=n /\ n<=G
 | .times n w=>(0<=n /\ n<=G) /\ oks w
def oks:List Dd->Prop
 | []=>True
 | d :: r=>okd d /\ oks r
end
mutual
def sk:Dd->Int
 | .go n=>n
 | .times n w=>n * sks w
 | _=>0
def sks:List Dd->Int
 | []=>0
 | d :: r=>sk d + sks r
end
mutual
def dn:Dd->Int
 | .times n w=>n * dns w
 | _=>1
def dns:List Dd->Int
 | []=>0
 | d :: r=>dn d + dns r
end
mutual
def pd:Dd->Pen
 | .go n=>(n,0,0)
 | .jump n=>(n,0,0)
 | .turn n=>(0,0,n % 4)
 | .times n w=>rep (pb w) n
def pb:List Dd->Pen
 | []=>st
 | d :: r=>led (pd d) (pb r)
end
theorem un0:∀ a b,oks (a ++ b) ↔ oks a /\ oks b
 | [],b=>by simp [oks]
 | d :: r,b=>by simp only [cons_append,oks,un0 r b,and_assoc]
theorem tm0:∀ a b,sks (a ++ b)=sks a + sks b
 | [],b=>by simp [sks]
 | d :: r,b=>by simp only [cons_append,sks,tm0 r b]; omega
theorem vk0:∀ a,a.length<=cnts a
 | []=>Nat.le_refl _
 | d :: r=>by
  have h:=vk0 r;have h1:1<=cnt d:=by cases d <;> simp only [cnt] <;> omega
  simp only [length_cons,cnts];omega
mutual
theorem yb2:∀ d,okd d->Hd (pd d)
 | .go n,_=>.inl rfl
 | .jump n,_=>.inl rfl
 | .turn n,_=>by
  unfold Hd pd;have h1:=Int.emod_nonneg n (show (4:Int) ≠ 0 by decide);have h2:=Int.emod_lt_of_pos n (show (0:Int) < 4 by decide);dsimp only;omega
 | .times n w,h=>by
  simp only [pd];simp only [okd] at h;exact hd_rep (wb1 w) h.1.1
theorem wb1:∀ w,Hd (pb w)
 | []=>by simp only [pb]; exact wm2
 | d :: r=>by simp only [pb]; exact sr1 _ _
end
theorem sr0:∀ a b,oks a->pb (a ++ b)=led (pb a) (pb b)
 | [],b,_=>by simp only [nil_append,pb]; exact (xp1 (wb1 b)).symm
 | d :: r,b,h=>by
  simp only [oks] at h;simp only [cons_append,pb];rw [sr0 r b h.2,yt0 _ (yb2 d h.1) (wb1 r)]
theorem G_pos:(0:Int) < G:=by decide
theorem tr2 (e:Nat):(0:Int)<=G ^ e:=Int.pow_nonneg (Int.le_of_lt G_pos)
theorem wj4 (e:Nat):G ^ e<=G ^ (e + 1):=by
 rw [Int.pow_succ];have h:=tr2 e;have h1:(1:Int)<=G:=by decide
 calc G ^ e=G ^ e * 1:=(Int.mul_one _).symm
  _<=G ^ e * G:=Int.mul_le_mul_of_nonneg_left h1 h
theorem td1 {a b:Nat} (h:a<=b):G ^ a<=G ^ b:=by
 induction b with
 | zero =>
  have:a=0:=by omega
  subst this; exact Int.le_refl _
 | succ b ih =>
  by_cases hab:a=b + 1
  ·subst hab; exact Int.le_refl _
  ·exact Int.le_trans (ih [7]) (wj4 b)
def bd (c e:Nat):Int:=(c:Int) * G ^ (e + 1)
variable {c e:Nat}
theorem wn3 {c' e':Nat}:bd c e + bd c' e'<=bd (c + c') (max e e'):=by
 unfold bd;have h1:(c:Int) * G ^ (e + 1)<=(c:Int) * G ^ (max e e' + 1):=Int.mul_le_mul_of_nonneg_left (td1 [7]) [7];have h2:(c':Int) * G ^ (e' + 1)<=(c':Int) * G ^ (max e e' + 1):=Int.mul_le_mul_of_nonneg_left (td1 [7]) [7]
 have e3:((c + c':Nat):Int) * G ^ (max e e' + 1)=(c:Int) * G ^ (max e e' + 1) + (c':Int) * G ^ (max e e' + 1):=by
  rw [Int.natCast_add,Int.add_mul]
 omega
variable {x:Int}
theorem xt1 (hn:0<=n) (hn':n<=G) (hx:0<=x) (h:x<=bd c e):n * x<=bd (1 + c) (1 + e):=by
 have h1:n * x<=G * x:=Int.mul_le_mul_of_nonneg_right hn' hx;have h2:G * x<=G * bd c e:=Int.mul_le_mul_of_nonneg_left h (Int.le_of_lt G_pos)
 have h3:G * bd c e=(c:Int) * G ^ (1 + e + 1):=by
  unfold bd;rw [Int.mul_left_comm,show 1 + e + 1=(e + 1) + 1 by omega,Int.pow_succ G (e + 1),Int.mul_comm G]
 have h4:(c:Int) * G ^ (1 + e + 1)<=((1 + c:Nat):Int) * G ^ (1 + e + 1):=Int.mul_le_mul_of_nonneg_right [7] (tr2 _);unfold bd;omega
theorem xv0 (h:1<=c):G<=bd c e:=by
 unfold bd;have h1:(1:Int) * G ^ 1<=(c:Int) * G ^ (e + 1):=Int.le_trans (Int.mul_le_mul_of_nonneg_right [7] (tr2 1)) (Int.mul_le_mul_of_nonneg_left (td1 [7]) [7]);have h2:(1:Int) * G ^ 1=G:=by rw [Int.one_mul,Int.pow_succ,Int.pow_zero,Int.one_mul]
 omega
theorem yf3 (c e:Nat):0<=bd c e:=Int.mul_nonneg [7] (tr2 _)
mutual
theorem sk_bd:∀ d,okd d->0<=sk d /\ sk d<=bd (cnt d) (dep d)
 | .go n,h=>by
  simp only [okd] at h;simp only [sk,cnt,dep];have:=xv0 (c:=1) (e:=0) [19];omega
 | .jump n,h=>by simp only [sk,cnt,dep]; exact ⟨Int.le_refl _,yf3 _ _⟩
 | .turn n,h=>by simp only [sk,cnt,dep]; exact ⟨Int.le_refl _,yf3 _ _⟩
 | .times n w,h=>by
  simp only [okd] at h;simp only [sk,cnt,dep];obtain ⟨a,b⟩:=zf2 w h.2;exact ⟨Int.mul_nonneg h.1.1 a,xt1 h.1.1 h.1.2 a b⟩
theorem zf2:∀ w,oks w->0<=sks w /\ sks w<=bd (cnts w) (deps w)
 | [],h=>by simp only [sks,cnts,deps]; exact ⟨Int.le_refl _,yf3 _ _⟩
 | d :: r,h=>by
  simp only [oks] at h;simp only [sks,cnts,deps];obtain ⟨a,b⟩:=sk_bd d h.1;obtain ⟨a',b'⟩:=zf2 r h.2;have:=wn3 (c:=cnt d) (c':=cnts r) (e:=dep d) (e':=deps r);omega
end
mutual
theorem dn_bd:∀ d,okd d->0<=dn d /\ dn d<=bd (cnt d) (dep d)
 | .go n,h=>by
  simp only [dn,cnt,dep];have:=xv0 (c:=1) (e:=0) [19];have h1:(1:Int)<=G:=by decide
  omega
 | .jump n,h=>by
  simp only [dn,cnt,dep];have:=xv0 (c:=1) (e:=0) [19];have h1:(1:Int)<=G:=by decide
  omega
 | .turn n,h=>by
  simp only [dn,cnt,dep];have:=xv0 (c:=1) (e:=0) [19];have h1:(1:Int)<=G:=by decide
  omega
 | .times n w,h=>by
  simp only [okd] at h;simp only [dn,cnt,dep];obtain ⟨a,b⟩:=vs1 w h.2;exact ⟨Int.mul_nonneg h.1.1 a,xt1 h.1.1 h.1.2 a b⟩
theorem vs1:∀ w,oks w->0<=dns w /\ dns w<=bd (cnts w) (deps w)
 | [],h=>by simp only [dns,cnts,deps]; exact ⟨Int.le_refl _,yf3 _ _⟩
 | d :: r,h=>by
  simp only [oks] at h;simp only [dns,cnts,deps];obtain ⟨a,b⟩:=dn_bd d h.1;obtain ⟨a',b'⟩:=vs1 r h.2;have:=wn3 (c:=cnt d) (c':=cnts r) (e:=dep d) (e':=deps r);omega
end
theorem tf4 {c' e':Nat} (hc:c<=c') (he:e<=e'):bd c e<=bd c' e' :=
 Int.le_trans (Int.mul_le_mul_of_nonneg_right [7] (tr2 _)) (Int.mul_le_mul_of_nonneg_left (td1 [7]) [7])
theorem bd_big:bd 100 10 < 2 ^ 1000:=by decide +kernel
theorem ws0 (h0:0<=x) (h:x<=bd c e) (hc:c<=100) (he:e<=10):x.natAbs < 2 ^ 1000:=by
 have h1:=Int.le_trans h (tf4 hc he);have h2:=bd_big
 have h3:((x.natAbs:Nat):Int) < ((2 ^ 1000:Nat):Int):=by
  rw [Int.natAbs_of_nonneg h0];exact Int.lt_of_le_of_lt h1 (by rw [Int.natCast_pow]; exact h2)
 exact Int.ofNat_lt.mp h3
end Mw
namespace Mw
def ab (x:Int):Int:=if x < 0 then -x else x
def pm (p:Pen):Int:=max (ab p.1) (ab p.2.1)
variable {p:Pen} {b:Int}
theorem sz1:pm p<=b ↔ (-b<=p.1 /\ p.1<=b) /\ (-b<=p.2.1 /\ p.2.1<=b):=by
 unfold pm ab;split <;> split <;> omega
theorem pm_nn (p:Pen):0<=pm p:=by unfold pm ab; split <;> split <;> omega
theorem zk3 {q:Pen} (h:Hd p) {a:Int} (ha:pm p<=a) (hb:pm q<=b):pm (led p q)<=a + b:=by
 rw [sz1] at ha hb ⊢;obtain ⟨x,y,k⟩:=p;obtain ⟨x',y',k'⟩:=q;unfold Hd at h;dsimp only at h ha hb;rcases h with rfl | rfl | rfl | rfl <;> simp [led,cs,sn] <;> omega
theorem vh5 {p:Pen} {b:Int} (hb:pm p<=b):∀ n:Nat,pm (pw p n)<=n * b
 | 0=>by simp [pw,st,pm,ab]
 | n + 1=>by
  have:=zk3 (zm1 p n) (vh5 hb n) hb;show pm (led (pw p n) p)<=_;rw [Int.natCast_add,Int.add_mul];omega
theorem wh5 (h:Hd p) {n:Int} (hn:0<=n) (hb:pm p<=b):pm (rep p n)<=(n + 3) * b:=by
 have h0:=Int.le_trans (pm_nn p) hb;unfold rep;split
 ·rw [sz1] at hb ⊢;dsimp only;have e:(n + 3) * b=n * b + 3 * b:=Int.add_mul ..;have a1:p.1 * n<=b * n:=Int.mul_le_mul_of_nonneg_right hb.1.2 hn;have a2 : -b * n<=p.1 * n:=Int.mul_le_mul_of_nonneg_right hb.1.1 hn;have a3:p.2.1 * n<=b * n:=Int.mul_le_mul_of_nonneg_right hb.2.2 hn;have a4 : -b * n<=p.2.1 * n:=Int.mul_le_mul_of_nonneg_right hb.2.1 hn;have e2:b * n=n * b:=Int.mul_comm ..;have e3 : -b * n = -(b * n):=Int.neg_mul ..;omega
 ·have h1:=vh5 hb (n % 4).toNat;have h2:(((n % 4).toNat:Nat):Int) * b<=(n + 3) * b:=Int.mul_le_mul_of_nonneg_right [7] h0;omega
def G2:Int:=200000000000000000000
def pbd (c e:Nat):Int:=(c:Int) * G2 ^ (e + 1)
theorem sr2 (e:Nat):(0:Int)<=G2 ^ e:=Int.pow_nonneg [8]
theorem sh3 {a b:Nat} (h:a<=b):G2 ^ a<=G2 ^ b:=by
 induction b with
 | zero =>
  have:a=0:=by omega
  subst this; exact Int.le_refl _
 | succ b ih =>
  by_cases hab:a=b + 1
  ·subst hab; exact Int.le_refl _
  ·refine Int.le_trans (ih [7]) ?_;rw [Int.pow_succ]
   calc G2 ^ b=G2 ^ b * 1:=(Int.mul_one _).symm
    _<=G2 ^ b * G2:=Int.mul_le_mul_of_nonneg_left [8] (sr2 b)
theorem si2 (c e:Nat):0<=pbd c e:=Int.mul_nonneg [7] (sr2 _)
theorem uq0 {c c' e e':Nat} (hc:c<=c') (he:e<=e'):pbd c e<=pbd c' e' :=
 Int.le_trans (Int.mul_le_mul_of_nonneg_right [7] (sr2 _)) (Int.mul_le_mul_of_nonneg_left (sh3 [7]) [7])
theorem vz3 {c c' e e':Nat}:pbd c e + pbd c' e'<=pbd (c + c') (max e e'):=by
 have h1:pbd c e<=pbd c (max e e'):=uq0 [19] [7];have h2:pbd c' e'<=pbd c' (max e e'):=uq0 [19] [7]
 have e3:pbd (c + c') (max e e')=pbd c (max e e') + pbd c' (max e e'):=by
  unfold pbd;rw [Int.natCast_add,Int.add_mul]
 omega
theorem ti2:G<=pbd 1 0:=by decide
mutual
theorem pm_pd:∀ d,okd d->pm (pd d)<=pbd (cnt d) (dep d)
 | .go n,h=>by
  simp only [okd] at h;simp only [pd,cnt,dep];have:=ti2;rw [sz1]; dsimp only; omega
 | .jump n,h=>by
  simp only [okd] at h;simp only [pd,cnt,dep];have:=ti2;rw [sz1]; dsimp only; omega
 | .turn n,h=>by
  simp only [pd,cnt,dep];have:=si2 1 0;rw [sz1]; dsimp only; omega
 | .times n w,h=>by
  simp only [okd] at h;simp only [pd,cnt,dep];have h1:=wh5 (wb1 w) h.1.1 (yy3 w h.2);have h2:(n + 3) * pbd (cnts w) (deps w)<=G2 * pbd (cnts w) (deps w):=Int.mul_le_mul_of_nonneg_right (by have:=h.1.2; unfold G at this; unfold G2; omega) (si2 _ _)
  have h3:G2 * pbd (cnts w) (deps w)=pbd (cnts w) (1 + deps w):=by
   unfold pbd;rw [Int.mul_left_comm,show 1 + deps w + 1=(deps w + 1) + 1 by omega,Int.pow_succ G2 (deps w + 1),Int.mul_comm G2]
  have h4:pbd (cnts w) (1 + deps w)<=pbd (1 + cnts w) (1 + deps w):=uq0 [7] [19];omega
theorem yy3:∀ w,oks w->pm (pb w)<=pbd (cnts w) (deps w)
 | [],h=>by simp only [pb,cnts,deps]; exact Int.le_trans [8] (si2 _ _)
 | d :: r,h=>by
  simp only [oks] at h;simp only [pb,cnts,deps];have:=zk3 (yb2 d h.1) (pm_pd d h.1) (yy3 r h.2);have:=vz3 (c:=cnt d) (c':=cnts r) (e:=dep d) (e':=deps r);omega
end
theorem wz3:pbd 100 8 < 2 ^ 1000:=by decide +kernel
theorem uh5 {c e:Nat} (h:pm p<=pbd c e) (hc:c<=100) (he:e<=8):p.1.natAbs < 2 ^ 1000 /\ p.2.1.natAbs < 2 ^ 1000:=by
 have h1:=Int.le_trans h (uq0 hc he);have h2:=wz3;rw [sz1] at h1
 have key:∀ x:Int,-(pbd 100 8)<=x->x<=pbd 100 8->x.natAbs < 2 ^ 1000:=λ x a b=>by
  have h3:((x.natAbs:Nat):Int) < ((2 ^ 1000:Nat):Int):=by
   have:((x.natAbs:Nat):Int)<=pbd 100 8:=by omega
   exact Int.lt_of_le_of_lt this (by rw [Int.natCast_pow]; exact h2)
  exact Int.ofNat_lt.mp h3
 exact ⟨key _ h1.1.1 h1.1.2,key _ h1.2.1 h1.2.2⟩
end Mw
namespace Mt
open PySem Mw
abbrev cp (x:Str):List Nat:=x.cps.toList
theorem yy0 {x y:Str} (h:cp x=cp y):x=y:=Str.ext' (Array.toList_inj.mp h)
theorem zy0 (x y:Str):cp (x ++ y)=cp x ++ cp y:=by
 show (x.cps ++ y.cps).toList=_;simp
theorem sb0 (x:Str):x.length=(cp x).length:=by simp [Str.length,cp]
def jn:List (List Nat)->List Nat
 | []=>[]
 | [a]=>a
 | a :: b :: r=>a ++ 32 :: jn (b :: r)
theorem cp_sp:cp (" " : Str)=[32]:=by decide +kernel
theorem tk0:∀ l:List Str,cp (Str.join " " l)=jn (l.map cp)
 | []=>rfl
 | [a]=>rfl
 | a :: b :: r=>by
  show cp (a ++ " " ++ Str.join " " (b :: r))=_;rw [zy0,zy0,cp_sp,tk0 (b :: r)];simp [jn]
theorem vm3:∀ {a b x y:List Nat},32 ∉ a->32 ∉ b->a ++ 32 :: x=b ++ 32 :: y->a=b /\ x=y
 | [],[],x,y,_,_,h=>by simpa using h
 | [],c :: b,x,y,_,hb,h=>by
  simp at h;exact absurd (by simp [h.1]) hb
 | c :: a,[],x,y,ha,_,h=>by
  simp at h;exact absurd (by simp [h.1]) ha
 | c :: a,d :: b,x,y,ha,hb,h=>by
  simp only [cons_append,List.cons.injEq] at h;obtain ⟨e1,e2⟩:=vm3 (a:=a) (b:=b) (λ m=>ha (mem_cons_of_mem _ m)) (λ m=>hb (mem_cons_of_mem _ m)) h.2;exact ⟨by rw [h.1,e1],e2⟩
theorem sk3 {a:List Nat} {b:List Nat} {r:List (List Nat)}:32 ∈ a ++ 32 :: jn (b :: r):=by simp
theorem wl3:∀ {a b:List (List Nat)},a ≠ []->b ≠ []->(∀ t ∈ a,32 ∉ t)->(∀ t ∈ b,32 ∉ t)->jn a=jn b->a=b
 | [],_,h,_,_,_,_=>absurd rfl h
 | _,[],_,h,_,_,_=>absurd rfl h
 | [x],[y],_,_,_,_,h=>by simpa [jn] using h
 | [x],y :: z :: r,_,_,ha,_,h=>by
  have:(32:Nat) ∈ x:=by
   have h':x=y ++ 32 :: jn (z :: r):=h;rw [h']; exact sk3
  exact absurd this (ha x [18])
 | x :: y :: r,[z],_,_,_,hb,h=>by
  have:(32:Nat) ∈ z:=by
   have h':x ++ 32 :: jn (y :: r)=z:=h;rw [<- h']; exact sk3
  exact absurd this (hb z [18])
 | x :: y :: r,x' :: y' :: r',_,_,ha,hb,h=>by
  have h':x ++ 32 :: jn (y :: r)=x' ++ 32 :: jn (y' :: r'):=h;obtain ⟨e1,e2⟩:=vm3 (ha x [18]) (hb x' [18]) h';have:=wl3 (a:=y :: r) (b:=y' :: r') [18] [18] (λ t ht=>ha t (mem_cons_of_mem _ ht)) (λ t ht=>hb t (mem_cons_of_mem _ ht)) e2;rw [e1,this]
theorem sp_eq:(" " : Str)=⟨#[32]⟩:=yy0 cp_sp
theorem zw0 {l:[29]} (h:l ≠ []) (hf:∀ t ∈ l,32 ∉ cp t):Txt.split (Str.join " " l) " " = l:=by
 have e1:=StrLaws.join_split (Str.join " " l) " ";have e2:=StrLaws.split_free (Str.join " " l) 32;rw [<- sp_eq] at e2;have e3:=PyProof.Rows.split_pos (Str.join " " l) " ";generalize Txt.split (Str.join " " l) " " = m at e1 e2 e3;have e4:=congrArg cp e1;rw [tk0,tk0] at e4;have hm:m ≠ []:=by intro e; rw [e] at e3; simp at e3
 have:=wl3 (a:=m.map cp) (b:=l.map cp) (by simpa using hm) (by simpa using h) (by simpa using e2) (by simpa using hf) e4
 have inj:∀ {a b:[29]},a.map cp=b.map cp->a=b:=λ {a}=>by
  induction a with
  | nil=>intro b h; cases b with | nil=>rfl | cons _ _=>cases h
  | cons x r ih =>
   intro b h;cases b with
   | nil=>cases h
   | cons y s =>
    simp only [map_cons,List.cons.injEq] at h;rw [yy0 h.1,ih h.2]
 exact inj this
def nsT (n:Int):Str:=Str.ofString (toString n)
def dg (m:Nat):List Nat:=(Nat.toDigits 10 m).map Char.toNat
variable {n:Int}
theorem wa2 (h:0<=n):cp (nsT n)=dg n.toNat:=by
 obtain ⟨m,rfl⟩:=Int.eq_ofNat_of_zero_le h;exact PySem.W.KIN.signs_num m
theorem zq1 (h:n < 0):cp (nsT n)=45 :: dg n.natAbs:=by
 cases n with
 | ofNat m=>exact absurd h [18]
 | negSucc m =>
  unfold nsT cp;rw [PyProof.Rows.signs_ofString];show ("-" ++ Nat.repr (m + 1)).toList.map Char.toNat=_;simp [dg,Nat.toList_repr]
theorem yu0 (m:Nat):NumText.AllDigits (dg m):=by
 intro c hc;obtain ⟨ch,hch,e⟩:=List.mem_map.mp hc;have r:=PyProof.Rows.digit_range (Nat.isDigit_of_mem_toDigits [8] [8] hch);rw [<- e];exact r
theorem yo2 (m:Nat):1<=(dg m).length:=by
 unfold dg;rw [length_map];exact PyProof.Rows.tDigits_len_ge 10 m
variable {m:Nat}
theorem sc3 {k:Nat} (hk:1<=k) (h:m < 10 ^ k):(dg m).length<=k:=by
 unfold dg;rw [length_map];exact PyProof.Rows.digits10_le hk h
theorem xo2 (m:Nat):NumText.digitsVal (dg m)=m:=PySem.W.KIN.val_back m
theorem xd2:∀ (n:Nat) (cs:List Nat),cs.length=n->NumText.AllDigits cs->NumText.digitsVal cs < 10 ^ n:=by
 intro n
 induction n with
 | zero =>
  intro cs h _;rw [List.eq_nil_of_length_eq_zero h];decide
 | succ n ih =>
  intro cs h ha;have hne:cs ≠ []:=by intro e; rw [e] at h; cases h
  obtain ⟨r,c,rfl⟩:∃ r c,cs=r ++ [c]:=⟨cs.dropLast,cs.getLast hne,(List.dropLast_concat_getLast hne).symm⟩;rw [NumText.digitsVal_snoc];have h1:=ih r (by simpa using h) (λ d hd=>ha d (by simp [hd]));have h2:=ha c [18];rw [Nat.pow_succ];omega
theorem we4 {r:List Nat} (h:dg m=48 :: r):r=[]:=by
 rcases r with _ | ⟨c,r⟩
 ·rfl
 ·exfalso;have h1:=xo2 m;rw [h,NumText.digitsVal_zero] at h1;have ha:=yu0 m;rw [h] at ha;have h2:=xd2 (c :: r).length (c :: r) rfl ha.tail;rw [h1] at h2;have h3:=sc3 (k:=(c :: r).length) [18] h2;rw [h] at h3;simp at h3;omega
theorem ys0 (h : -G<=n /\ n<=G):(cp (nsT n)).length<=21:=by
 unfold G at h;by_cases h0:0<=n
 ·rw [wa2 h0];exact Nat.le_trans (sc3 (k:=20) [8] [7]) [8]
 ·rw [zq1 [7]];rw [length_cons];exact Nat.succ_le_succ (sc3 (k:=20) [8] [7])
theorem ua4 (n:Int):32 ∉ cp (nsT n):=by
 by_cases h0:0<=n
 ·rw [wa2 h0];intro h;have:=yu0 _ _ h;omega
 ·rw [zq1 [7]];intro h;rcases List.mem_cons.mp h with h | h
  ·cases h
  ·have:=yu0 _ _ h;omega
theorem ns_pos (n:Int):1<=(cp (nsT n)).length:=by
 by_cases h0:0<=n
 ·rw [wa2 h0]; exact yo2 _
 ·rw [zq1 [7]]; simp
theorem uy2 (h : -G<=n /\ n<=G):PySem.intText? (nsT n)=some n:=by
 have hl:=ys0 h;rw [<- sb0] at hl;by_cases h0:0<=n
 ·have hc:=wa2 h0;have e:=intText_digits (x:=nsT n) (by show NumText.AllDigits (cp (nsT n)); rw [hc]; exact yu0 _) (by show cp (nsT n) ≠ []; intro e; have:=ns_pos n; rw [e] at this; simp at this) (Nat.le_trans hl [8]);rw [e];show some ((NumText.digitsVal (cp (nsT n)):Nat):Int)=_;rw [hc,xo2,Int.toNat_of_nonneg h0]
 ·have hc:=zq1 (n:=n) [7];have e:=intText_neg (x:=nsT n) hc (yu0 _) (by intro e; have:=yo2 n.natAbs; rw [e] at this; simp at this) (Nat.le_trans hl [8]);rw [e,xo2];congr 1;omega
theorem wg1 (h : -G<=n /\ n<=G):n.natAbs.log2 < 1920:=by
 unfold G at h;by_cases h0:n.natAbs=0
 ·rw [h0]; decide
 ·have:n.natAbs < 2 ^ 70:=by omega
  exact Nat.lt_trans ((Nat.log2_lt h0).mpr this) [8]
theorem xw0 (z:Str) (c:Nat):Txt.startswith z ⟨#[c]⟩=decide ((cp z).head?=some c):=by
 unfold Txt.startswith Builtin.Str.subAt;obtain ⟨⟨l⟩⟩:=z;cases l with
 | nil=>simp [Str.length,cp]
 | cons a r=>simp [Str.length,cp]; rw [Bool.eq_iff_iff]; simp
end Mt
namespace Pv
open PySem Mw
theorem kn_go_jump:((("go" : Str)=("jump" : Str))=False):=eq_false [8]
theorem kn_go_turn:((("go" : Str)=("turn" : Str))=False):=eq_false [8]
theorem kn_go_times:((("go" : Str)=("times" : Str))=False):=eq_false [8]
theorem kn_jump_go:((("jump" : Str)=("go" : Str))=False):=eq_false [8]
theorem kn_jump_turn:((("jump" : Str)=("turn" : Str))=False):=eq_false [8]
theorem kn_jump_times:((("jump" : Str)=("times" : Str))=False):=eq_false [8]
theorem kn_turn_go:((("turn" : Str)=("go" : Str))=False):=eq_false [8]
theorem kn_turn_jump:((("turn" : Str)=("jump" : Str))=False):=eq_false [8]
theorem kn_turn_times:((("turn" : Str)=("times" : Str))=False):=eq_false [8]
theorem kn_times_go:((("times" : Str)=("go" : Str))=False):=eq_false [8]
theorem kn_times_jump:((("times" : Str)=("jump" : Str))=False):=eq_false [8]
theorem kn_times_turn:((("times" : Str)=("turn" : Str))=False):=eq_false [8]
theorem kp_go:[67].contains "go" = true:=by decide
theorem kp_jump:[67].contains "jump" = true:=by decide
theorem kp_turn:[67].contains "turn" = true:=by decide
theorem kp_times:[67].contains "times" = false:=by decide
theorem kz_go:(["go", "times"]:List Str).contains "go" = true:=by decide
theorem kz_jump:(["go", "times"]:List Str).contains "jump" = false:=by decide
theorem kz_turn:(["go", "times"]:List Str).contains "turn" = false:=by decide
theorem kz_times:(["go", "times"]:List Str).contains "times" = true:=by decide
theorem cst0:((0:Nat):Int)=0:=rfl
theorem cst1:((1:Nat):Int)=1:=rfl
theorem cst2:((2:Nat):Int)=2:=rfl
theorem cst3:((3:Nat):Int)=3:=rfl
mutual
def enc:Dd->D
 | .go n=>.tup [.str "go",.int n]
 | .jump n=>.tup [.str "jump",.int n]
 | .turn n=>.tup [.str "turn",.int n]
 | .times n w=>.tup [.str "times",.int n,.tup (encs w)]
def encs:List Dd->List D
 | []=>[]
 | d :: r=>enc d :: encs r
end
def Wd (w:List Dd):Prop:=oks w /\ deps w<=4 /\ cnts w<=30
theorem ub0:∀ a,(encs a).length=a.length
 | []=>by simp [encs]
 | d :: r=>by simp only [encs,length_cons,ub0 r]
theorem ua1:∀ {w:List Dd} {x:D},x ∈ encs w->∃ d,d ∈ w /\ x=enc d
 | [],x,h=>by simp [encs] at h
 | d :: r,x,h=>by
  simp only [encs,mem_cons] at h;rcases h with rfl | h
  ·exact ⟨d,mem_cons_self,rfl⟩
  ·obtain ⟨e,h1,h2⟩:=ua1 h;exact ⟨e,mem_cons_of_mem _ h1,h2⟩
theorem xo0:∀ {w:List Dd} {d:Dd},d ∈ w->oks w->dep d<=deps w /\ cnt d<=cnts w /\ okd d
 | [],d,h,_=>by simp at h
 | e :: r,d,h,o=>by
  simp only [oks] at o;simp only [deps,cnts];rcases List.mem_cons.mp h with rfl | h
  ·exact ⟨by omega,by omega,o.1⟩
  ·obtain ⟨h1,h2,h3⟩:=xo0 h o.2;exact ⟨by omega,by omega,h3⟩
mutual
def dec:D->Dd
 | .tup [.str k,.int n]=>if k = "go" then .go n else if k = "jump" then .jump n else .turn n
 | .tup [.str _,.int n,.tup w]=>.times n (decs w)
 | _=>.go 0
def decs:List D->List Dd
 | []=>[]
 | d :: r=>dec d :: decs r
end
mutual
theorem vc1:∀ d,dec (enc d)=d
 | .go n=>by simp [enc,dec]
 | .jump n=>by simp only [enc,dec,kn_jump_go,if_true,if_false]
 | .turn n=>by simp only [enc,dec,kn_turn_go,kn_turn_jump,if_false]
 | .times n w=>by simp only [enc,dec,yi1 w]
theorem yi1:∀ w,decs (encs w)=w
 | []=>by simp only [encs,decs]
 | d :: r=>by simp only [encs,decs,vc1 d,yi1 r]
end
theorem vl1 (f:Dd->Int):∀ w,(encs w).map (λ d=>D.int (f (dec d)))=w.map λ d=>D.int (f d)
 | []=>by simp [encs]
 | d :: r=>by simp only [encs,map_cons,vc1,vl1 f r]
mutual
inductive ShD:D->Prop where
 | nil:ShD (.tup [])
 | mk (s:Str) (r:List D):(∀ x,x ∈ r->ShV x)->ShD (.tup (.str s :: r))
inductive ShV:D->Prop where
 | int (n:Int):ShV (.int n)
 | wd (l:List D):(∀ x,x ∈ l->ShD x)->ShV (.tup l)
end
def ckN (s:Str):D->Bool
 | .int n=>decide (-G<=n /\ n<=G) && !(decide (n < 0) && (["go", "times"]:List Str).contains s)
 | _=>false
def ckD (cw:D->Int->Option Nat) (k:Int):D->Option Nat
 | .tup [.str s,a]=>if [67].contains s=true /\ ckN s a=true then some 1 else none
 | .tup [.str s,a,b]=>if s = "times" /\ ckN s a=true then (match cw b (k + 1) with
  | some c=>some (1 + c)
  | none=>none) else none
 | _=>none
def ckL (cd:D->Option Nat):List D->Nat->Option Nat
 | [],c=>some c
 | d :: r,c=>match cd d with
  | some m=>if 30 < c + m then none else ckL cd r (c + m)
  | none=>none
def ckW:Nat->D->Int->Option Nat
 | n + 1,.tup l,k=>if 4 < k then none else ckL (ckD (ckW n) k) l 0
 | _,_,_=>none
def told (XE:XE3) (μ:Mu) (Q:Nat->Prop):Option Nat->Prop
 | some c=>Q c
 | none=>XE "NoWord" μ
def zj3 (XE:XE3):Sp3:=λ ds μ Q=>∃ (s:Str) (d:D),ds=[.str s,d] /\ ShV d /\ told XE μ (λ _=>Q .non μ) (if ckN s d=true then some 0 else none)
abbrev RdQ (s:Sp3) (t:TS3) (N:[29]):Prop:=∀ ds μ Q,s ds μ Q->t { nx:=λ _ μ'=>Q .non μ',rt:=Q } (start3 N ds) μ
theorem rd_q6 (XE:XE3):RdQ (zj3 XE) (t_q6 XE) N_q6:=by
 rintro ds μ Q ⟨s,d,rfl,sh,q⟩;cases sh with
 | wd l hl =>
  simp only [ckN,Bool.false_eq_true,if_false,told] at q;exact And.intro [8] q
 | int n =>
  simp only [t_q6,seq3,ifs3,not3,b3,call3,cons3,v3,start3,map_cons,map_nil,N_q6,length_cons,length_nil,Nat.zero_add,Nat.reduceAdd,Nat.reduceSub,List.replicate,cons_append,nil_append,getI,c3,nil3,isiR,tyN,isIn,and_true,if_true,Bool.not_true,Bool.false_eq_true,vc0,next3,o3,absR,gtR,int20,decide_eq_true_eq,and3,ltR,inR,strs?,if_false];by_cases h1 : -G<=n /\ n<=G
  ·have e1:¬ (99999999999999999999 < if n < 0 then -n else n):=by unfold G at h1; split <;> omega
   rw [if_neg e1];by_cases h2:n < 0
   ·rw [if_pos h2];cases h3:(["go", "times"]:List Str).contains s with
    | true =>
     have e:ckN s (.int n)=false:=by simp only [ckN,h1,h2,h3]; decide
     rw [e] at q;simp only [Bool.false_eq_true,if_false,told] at q;rw [if_pos rfl];exact ⟨by decide,q⟩
    | false =>
     have e:ckN s (.int n)=true:=by simp only [ckN,h1,h2,h3]; decide
     rw [e] at q;simp only [if_true,told] at q;rw [if_neg [8]];exact q
   ·have e:ckN s (.int n)=true:=by simp only [ckN,h1,h2]; simp
    rw [e] at q;simp only [if_true,told] at q;rw [if_neg h2];exact q
  ·have e1:99999999999999999999 < if n < 0 then -n else n:=by unfold G at h1; split <;> omega
   rw [if_pos e1];have e:ckN s (.int n)=false:=by simp only [ckN,h1]; simp
   rw [e] at q;simp only [Bool.false_eq_true,if_false,told] at q;exact ⟨by decide,q⟩
def yk1 (j:Nat) (XE:XE3):Sp3:=λ ds μ Q=>∃ (d:D) (k:Int),ds=[d,.int k] /\ 4 < k + j /\ k<=4 /\ 0<=k /\ ShD d /\ told XE μ (λ c=>Q (.int c) μ) (ckD (ckW j) k d)
def tp0 (j:Nat) (XE:XE3):Sp3:=λ ds μ Q=>∃ (d:D) (k:Int),ds=[d,.int k] /\ (k<=4->4 < k + j) /\ k<=5 /\ 0<=k /\ ShV d /\ told XE μ (λ c=>Q (.int c) μ) (ckW (j + 1) d k)
theorem ve5 (j:Nat) (XE:XE3):RdQ (yk1 (j + 1) XE) (ud2 XE zj3 (tp0 j)) yc2:=by
 rintro ds μ Q ⟨d,k,rfl,h1,h2,h3,sh,q⟩;cases sh with
 | nil =>
  simp only [ckD,told] at q;exact And.intro [8] q
 | mk s r hr =>
  match r,hr,q with
  | [],hr,q =>
   simp only [ckD,told] at q;exact And.intro [8] q
  | [a],hr,q =>
   simp only [ckD] at q;simp only [ud2,seq3,ifs3,not3,b3,call3,cons3,v3,start3,map_cons,map_nil,yc2,length_cons,length_nil,Nat.zero_add,Nat.reduceAdd,Nat.reduceSub,List.replicate,cons_append,nil_append,getI,c3,nil3,isiR,tyN,isIn,if_true,Bool.not_true,Bool.false_eq_true,vc0,next3,and3,o3,lenR,cst2,ixR,atI0,inR,strs?,if_false,drop3,atI1,ret3,addR,eqR_ss,decide_eq_true_eq,eqR_ii,Int.reduceEq];cases hp:[67].contains s with
   | true =>
    rw [hp] at q;simp only [true_and] at q;simp only [if_true];refine ⟨s,a,rfl,hr a [18],?_⟩;cases hn:ckN s a with
    | true =>
     rw [hn] at q;simp only [if_true,told] at q ⊢;exact q
    | false =>
     rw [hn] at q;simp only [Bool.false_eq_true,if_false,told] at q ⊢;exact q
   | false =>
    rw [hp] at q;simp only [Bool.false_eq_true,false_and,if_false,told] at q;simp only [Bool.false_eq_true,if_false];exact ⟨by decide,q⟩
  | [a,b],hr,q =>
   simp only [ckD] at q;simp only [ud2,seq3,ifs3,not3,b3,call3,cons3,v3,start3,map_cons,map_nil,yc2,length_cons,length_nil,Nat.zero_add,Nat.reduceAdd,Nat.reduceSub,List.replicate,cons_append,nil_append,getI,c3,nil3,isiR,tyN,isIn,if_true,Bool.not_true,Bool.false_eq_true,vc0,next3,and3,o3,lenR,cst3,ixR,atI0,inR,strs?,if_false,drop3,atI1,ret3,atI2,addR,eqR_ss,decide_eq_true_eq,eqR_ii,Int.reduceEq];by_cases hs:s = "times"
   ·rw [if_pos hs];refine ⟨s,a,rfl,hr a [18],?_⟩;cases hn:ckN s a with
    | true =>
     rw [hn] at q;simp only [hs,true_and,if_true] at q;simp only [if_true,told];refine ⟨b,k + 1,rfl,λ _=>by omega,by omega,by omega,hr b [18],?_⟩;cases hw:ckW (j + 1) b (k + 1) with
     | none=>rw [hw] at q; exact q
     | some c =>
      rw [hw] at q;simp only [told] at q ⊢;have e:((1 + c:Nat):Int)=1 + (c:Int):=by omega
      rw [e] at q;exact q
    | false =>
     rw [hn] at q;simp only [Bool.false_eq_true,and_false,if_false,told] at q ⊢;exact q
   ·rw [if_neg hs];simp only [hs,false_and,if_false,told] at q;exact ⟨by decide,q⟩
  | a :: b :: c :: r,hr,q =>
   simp only [ckD,told] at q;simp only [ud2,seq3,ifs3,not3,b3,call3,cons3,v3,start3,map_cons,map_nil,yc2,length_cons,length_nil,Nat.zero_add,Nat.reduceAdd,Nat.reduceSub,List.replicate,cons_append,nil_append,getI,c3,nil3,isiR,tyN,isIn,if_true,Bool.not_true,Bool.false_eq_true,vc0,next3,and3,o3,lenR,ixR,atI0,inR,strs?,if_false,drop3,atI1,ret3,atI2,addR,eqR_ss,decide_eq_true_eq,eqR_ii];have e2:¬ (((r.length + 1 + 1 + 1 + 1:Nat):Int)=2):=by omega
   have e3:¬ (((r.length + 1 + 1 + 1 + 1:Nat):Int)=3):=by omega
   simp only [e2,e3,if_false];exact ⟨by decide,q⟩
theorem ue5 (j:Nat) (XE:XE3):RdQ (tp0 j XE) (zq3 XE (yk1 j)) vh3:=by
 rintro ds μ Q ⟨d,k,rfl,h1,h2,h3,sh,q⟩;cases sh with
 | int n =>
  simp only [ckW,told] at q;exact And.intro [8] q
 | wd l hl =>
  simp only [ckW] at q;simp only [zq3,seq3,ifs3,not3,b3,call3,cons3,v3,start3,map_cons,map_nil,vh3,length_cons,length_nil,Nat.zero_add,Nat.reduceAdd,Nat.reduceSub,List.replicate,cons_append,nil_append,getI,c3,nil3,isiR,tyN,isIn,if_true,Bool.not_true,Bool.false_eq_true,vc0,next3,o3,gtR,int20,decide_eq_true_eq,set3,for3,is3,set_cons_succ,set_cons_zero,if_false];by_cases hk:4 < k
  ·rw [if_pos hk] at q ⊢;exact ⟨by decide,q⟩
  ·rw [if_neg hk] at q ⊢;refine sh0 (λ r ρ μ'=>μ'=μ /\ ∃ (c:Nat) (dd:Option D),ρ=[some (.tup l),some (.int k),some (.int c),dd] /\ (∀ x,x ∈ r->ShD x) /\ told XE μ (λ c=>Q (.int c) μ) (ckL (ckD (ckW j) k) r c)) ?_ (λ _ _ _ _=>trivial) ?_ ?_
   ·exact ⟨rfl,0,none,rfl,hl,q⟩
   ·rintro ρ μ' ⟨rfl,c,dd,rfl,_,e2⟩;simp only [ckL,told] at e2;simp only [ret3,v3,getI];exact e2
   ·rintro x rest ρ μ' ⟨rfl,c,dd,rfl,hs,e2⟩;simp only [gn3,seq3,set3,o3,v3,set_cons_succ,set_cons_zero,getI,call3,cons3,nil3,addR,ifs3,b3,c3,int20,decide_eq_true_eq,next3];refine ⟨x,k,rfl,h1 [7],by omega,h3,hs x [18],?_⟩;simp only [ckL] at e2;cases hc:ckD (ckW j) k x with
    | none=>rw [hc] at e2; exact e2
    | some m =>
     rw [hc] at e2;dsimp only at e2;simp only [told];by_cases h30:30 < c + m
     ·rw [if_pos h30] at e2;rw [if_pos [7]];exact ⟨by decide,e2⟩
     ·rw [if_neg h30] at e2;rw [if_neg [7]];refine ⟨trivial,c + m,some x,?_,λ y hy=>hs y (mem_cons_of_mem _ hy),e2⟩;have e:((c + m:Nat):Int)=(c:Int) + (m:Int):=by omega
      rw [e]
def Bad (d:D):Prop:=ShV d /\ ckW 6 d 0=none
def vr0 (XE:XE3):Sp3:=λ ds μ Q=>∃ d,ds=[d] /\ ShV d /\ told XE μ (λ _=>Q .non μ) (ckW 6 d 0)
theorem te5 (XE:XE3):RdQ (vr0 XE) (wq3 XE (tp0 5)) uh3:=by
 rintro ds μ Q ⟨d,rfl,sh,q⟩;simp only [wq3,drop3,call3,cons3,v3,start3,map_cons,map_nil,uh3,length_cons,length_nil,Nat.zero_add,Nat.reduceSub,List.replicate,cons_append,nil_append,getI,c3,nil3];exact ⟨d,0,rfl,λ _=>by decide,by decide,by decide,sh,q⟩
variable {n:Int}
theorem sm3 (h:0<=n /\ n<=G) (s:Str):ckN s (.int n)=true:=by
 have h1 : -G<=n /\ n<=G:=by unfold G at *; omega
 have h2:¬ n < 0:=by omega
 simp only [ckN,h1,h2]; simp
theorem up2 (h : -G<=n /\ n<=G) {s:Str} (hs:(["go", "times"]:List Str).contains s=false):ckN s (.int n)=true:=by
 simp only [ckN,h,hs]; simp
mutual
theorem ckD_ok:∀ (d:Dd) (j:Nat) (k:Int),okd d->cnt d<=30->k + dep d<=4->4 < k + j->ckD (ckW j) k (enc d)=some (cnt d)
 | .go n,j,k,h,_,_,_=>by simp only [okd] at h; simp only [enc,ckD,kp_go,sm3 h,cnt,and_self,if_true]
 | .jump n,j,k,h,_,_,_=>by simp only [okd] at h; simp only [enc,ckD,kp_jump,up2 h kz_jump,cnt,and_self,if_true]
 | .turn n,j,k,h,_,_,_=>by simp only [okd] at h; simp only [enc,ckD,kp_turn,up2 h kz_turn,cnt,and_self,if_true]
 | .times n w,j,k,h,hc,hd,hj=>by
  simp only [okd] at h;simp only [cnt] at hc;simp only [dep] at hd;obtain ⟨i,rfl⟩:∃ i,j=i + 1:=⟨j - 1,by omega⟩;have e:=tp2 w i (k + 1) h.2 0 [7] [7] (λ _=>by omega);simp only [enc,ckD,sm3 h.1,and_self,if_true,ckW,if_neg (show ¬ 4 < k + 1 by omega),e,cnt,Nat.zero_add]
theorem tp2:∀ (w:List Dd) (j:Nat) (k:Int),oks w->∀ c:Nat,c + cnts w<=30->k + deps w<=4->(w ≠ []->4 < k + j)->ckL (ckD (ckW j) k) (encs w) c=some (c + cnts w)
 | [],j,k,_,c,_,_,_=>by simp only [encs,ckL,cnts,Nat.add_zero]
 | d :: r,j,k,h,c,hc,hd,hj=>by
  simp only [oks] at h;simp only [cnts] at hc;simp only [deps] at hd;have e1:=ckD_ok d j k h.1 [7] [7] (hj [18]);have e2:=tp2 r j k h.2 (c + cnt d) [7] [7] (λ _=>hj [18]);simp only [encs,ckL,e1,if_neg (show ¬ 30 < c + cnt d by omega),e2,cnts,Nat.add_assoc]
end
variable {w:List Dd}
theorem tm3 (h:Wd w):ckW 6 [69] 0=some (cnts w):=by
 obtain ⟨h1,h2,h3⟩:=h;have e:=tp2 w 5 0 h1 0 [7] [7] (λ _=>by decide);simp only [ckW,if_neg (show ¬ (4:Int) < 0 by decide),e,Nat.zero_add]
mutual
theorem vs3:∀ d:Dd,ShD (enc d)
 | .go n=>by simp only [enc]; exact .mk _ _ (by intro x hx; simp only [mem_singleton] at hx; subst hx; exact .int n)
 | .jump n=>by simp only [enc]; exact .mk _ _ (by intro x hx; simp only [mem_singleton] at hx; subst hx; exact .int n)
 | .turn n=>by simp only [enc]; exact .mk _ _ (by intro x hx; simp only [mem_singleton] at hx; subst hx; exact .int n)
 | .times n w=>by
  simp only [enc]
  refine .mk _ _ (by
   intro x hx;simp only [mem_cons,not_mem_nil,or_false] at hx;rcases hx with rfl | rfl
   ·exact .int n
   ·exact .wd _ (xq0 w))
theorem xq0:∀ (w:List Dd) (x:D),x ∈ encs w->ShD x
 | [],x,h=>by simp [encs] at h
 | d :: r,x,h=>by
  simp only [encs,mem_cons] at h;rcases h with rfl | h
  ·exact vs3 d
  ·exact xq0 r x h
end
inductive Gb (XE:XE3) (μ:Mu) (d:D) (R:List Dd->Prop):Prop where
 | good (w:List Dd):d=.tup (encs w)->Wd w->R w->Gb XE μ d R
 | bad:Bad d->XE "NoWord" μ->Gb XE μ d R
variable {μ:Mu} {Q:VK3}
theorem Gb.chk {XE:XE3} {d:D} {R:List Dd->Prop} (g:Gb XE μ d R) (k:∀ w,d=.tup (encs w)->Wd w->R w->Q .non μ):vr0 XE [d] μ Q:=by
 cases g with
 | good w e hw r =>
  refine ⟨d,rfl,by rw [e]; exact .wd _ (xq0 w),?_⟩;rw [e,tm3 hw];exact k w e hw r
 | bad b x =>
  refine ⟨d,rfl,b.1,?_⟩;rw [b.2];exact x
mutual
theorem ckD_no:∀ (d:Dd) (j:Nat) (k:Int) (c:Nat),k<=4->ckD (ckW j) k (enc d)=some c->okd d /\ cnt d=c /\ k + dep d<=4
 | .go n,j,k,c,hk,h=>by
  simp only [ckD,enc,kp_go] at h;split at h <;> simp at h
  next hc =>
  have:=hc.2;simp [ckN] at this;subst h;simp only [okd,cnt,dep];refine ⟨⟨by have:=this.2; omega,this.1.2⟩,trivial,by omega⟩
 | .jump n,j,k,c,hk,h=>by
  simp only [ckD,enc,kp_jump] at h;split at h <;> simp at h
  next hc =>
  have:=hc.2;simp [ckN] at this;subst h;simp only [okd,cnt,dep];refine ⟨this.1,trivial,by omega⟩
 | .turn n,j,k,c,hk,h=>by
  simp only [ckD,enc,kp_turn] at h;split at h <;> simp at h
  next hc =>
  have:=hc.2;simp [ckN] at this;subst h;simp only [okd,cnt,dep];refine ⟨this.1,trivial,by omega⟩
 | .times n w,j,k,c,hk,h=>by
  simp only [enc,ckD] at h;split at h
  ·next hc =>
   have hn:=hc.2;simp [ckN] at hn;cases j with
   | zero=>simp [ckW] at h
   | succ j =>
    simp only [ckW] at h;by_cases c4:4 < k + 1
    ·rw [if_pos c4] at h; cases h
    ·rw [if_neg c4] at h;cases hw:ckL (ckD (ckW j) (k + 1)) (encs w) 0 with
     | none=>rw [hw] at h; cases h
     | some m =>
      rw [hw] at h;cases h;obtain ⟨a1,a2,a3⟩:=sp2 w j (k + 1) 0 m [7] hw;simp only [okd,cnt,dep];exact ⟨⟨⟨by have:=hn.2; omega,hn.1.2⟩,a1⟩,by omega,by omega⟩
  ·cases h
theorem sp2:∀ (w:List Dd) (j:Nat) (k:Int) (c m:Nat),k<=4->ckL (ckD (ckW j) k) (encs w) c=some m->oks w /\ c + cnts w=m /\ k + deps w<=4
 | [],j,k,c,m,hk,h=>by
  simp only [encs,ckL] at h;cases h;simp only [oks,cnts,deps];exact ⟨trivial,by omega,by omega⟩
 | d :: r,j,k,c,m,hk,h=>by
  simp only [encs,ckL] at h;cases hd:ckD (ckW j) k (enc d) with
  | none=>rw [hd] at h; cases h
  | some x =>
   rw [hd] at h;dsimp only at h;split at h
   ·cases h
   ·obtain ⟨a1,a2,a3⟩:=ckD_no d j k x hk hd;obtain ⟨b1,b2,b3'⟩:=sp2 r j k (c + x) m hk h;simp only [oks,cnts,deps];exact ⟨⟨a1,b1⟩,by omega,by omega⟩
end
theorem xn3:∀ (l:List D) (cd:D->Option Nat) (c m:Nat),c<=30->ckL cd l c=some m->m<=30
 | [],cd,c,m,hc,h=>by simp only [ckL] at h; cases h; exact hc
 | d :: r,cd,c,m,hc,h=>by
  simp only [ckL] at h;split at h
  ·split at h
   ·cases h
   ·exact xn3 r cd _ m [7] h
  ·cases h
theorem tc1 (v:List Dd):(Wd v->ckW 6 (.tup (encs v)) 0=some (cnts v)) /\ (¬ Wd v->ckW 6 (.tup (encs v)) 0=none):=by
 refine ⟨tm3,λ hn=>?_⟩;cases h:ckW 6 (.tup (encs v)) 0 with
 | none=>rfl
 | some m =>
  exfalso;simp only [ckW] at h;rw [if_neg [8]] at h;obtain ⟨a1,a2,a3⟩:=sp2 v 5 0 0 m [8] h;have:=xn3 _ _ 0 m [8] h;exact hn ⟨a1,by omega,by omega⟩
open Mt
mutual
def mk:Dd->List Str
 | .go n=>["go",nsT n]
 | .jump n=>["jump",nsT n]
 | .turn n=>["turn",nsT n]
 | .times n w => "times" :: nsT n :: "[" :: (mks w ++ [("]" : Str)])
def mks:List Dd->List Str
 | []=>[]
 | d :: r=>mk d ++ mks r
end
theorem sn0:∀ a b,mks (a ++ b)=mks a ++ mks b
 | [],b=>by simp [mks]
 | d :: r,b=>by simp only [cons_append,mks,sn0 r b,append_assoc]
theorem cp_go:cp ("go" : Str)=[103,111]:=by decide +kernel
theorem xf4:cp ("jump" : Str)=[106,117,109,112]:=by decide +kernel
theorem se4:cp ("turn" : Str)=[116,117,114,110]:=by decide +kernel
theorem ud3:cp ("times" : Str)=[116,105,109,101,115]:=by decide +kernel
theorem cp_lb:cp ("[" : Str)=[91]:=by decide +kernel
theorem cp_rb:cp ("]" : Str)=[93]:=by decide +kernel
def wt (l:[29]):Nat:=(l.map λ t=>(cp t).length + 1).sum
theorem wc2 (a b:[29]):wt (a ++ b)=wt a + wt b:=by unfold wt; rw [map_append,List.sum_append]
mutual
theorem wt_mk:∀ d,okd d->wt (mk d)<=40 * cnt d
 | .go n,h=>by
  simp only [okd] at h;have:=ys0 (n:=n) (by unfold G at h ⊢; omega);simp only [mk,wt,map_cons,map_nil,sum_cons,sum_nil,cp_go,length_cons,length_nil,cnt]; omega
 | .jump n,h=>by
  simp only [okd] at h;have:=ys0 h;simp only [mk,wt,map_cons,map_nil,sum_cons,sum_nil,xf4,length_cons,length_nil,cnt]; omega
 | .turn n,h=>by
  simp only [okd] at h;have:=ys0 h;simp only [mk,wt,map_cons,map_nil,sum_cons,sum_nil,se4,length_cons,length_nil,cnt]; omega
 | .times n w,h=>by
  simp only [okd] at h;have h1:=ys0 (n:=n) (by have:=h.1; unfold G at this ⊢; omega);have h2:=zc2 w h.2;have e:mk (.times n w)=[("times" : Str),nsT n, "["] ++ (mks w ++ [("]" : Str)]):=by simp only [mk]; rfl
  rw [e,wc2,wc2];simp only [wt,map_cons,map_nil,sum_cons,sum_nil,ud3,cp_lb,cp_rb,length_cons,length_nil,cnt];have h3:(List.map (λ t=>(cp t).length + 1) (mks w)).sum<=40 * cnts w:=h2;omega
theorem zc2:∀ w,oks w->wt (mks w)<=40 * cnts w
 | [],h=>by simp [mks,wt,cnts]
 | d :: r,h=>by
  simp only [oks] at h;have h1:=wt_mk d h.1;have h2:=zc2 r h.2;simp only [mks,cnts];rw [wc2];omega
end
theorem uk2:∀ l:List Str,l.length<=wt l
 | []=>Nat.zero_le _
 | t :: r=>by
  have:=uk2 r;simp only [wt,map_cons,sum_cons,length_cons];unfold wt at this;omega
theorem xj3:∀ l:List Str,(l.map (·.length)).sum + l.length=wt l
 | []=>rfl
 | t :: r=>by
  have:=xj3 r;simp only [wt,map_cons,sum_cons,length_cons] at this ⊢;rw [sb0 t];omega
theorem jn_wt:∀ l:List Str,(jn (l.map cp)).length<=wt l
 | []=>Nat.zero_le _
 | [t]=>by simp [jn,wt]
 | t :: u :: r=>by
  have:=jn_wt (u :: r);simp only [map_cons,jn,wt,sum_cons,length_append,length_cons] at this ⊢;omega
theorem va3 (l:[29]):(Str.join " " l).length<=wt l:=by rw [sb0,tk0]; exact jn_wt l
def tx (w:List Dd):Str:=Str.join " " (mks w)
def sD (l:[29]):List D:=l.map D.str
theorem sf2 (a b:[29]):sD (a ++ b)=sD a ++ sD b:=by simp [sD]
theorem ud0 (a:[29]):(sD a).length=a.length:=by simp [sD]
theorem xk1:∀ l,strs? (sD l)=some l
 | []=>rfl
 | t :: r=>by
  have:=xk1 r;simp only [sD] at this;simp only [sD,map_cons,strs?,this]
def zz0 (j:Nat):Sp3:=λ ds μ Q=>∃ w,ds=[.tup (encs w)] /\ deps w < j /\ cnts w<=30 /\ oks w /\ ∀ p μ',Ext μ μ'->μ p=none->μ' p=some (.lst (sD (mks w)))->Q [43] μ'
def vn3 (w:List Dd) (f:Addr) (μ:Mu) (l:List D) (ρ:St3) (μ':Mu):Prop:=∃ (r acc:List Dd) (a:Option D),l=encs r /\ ρ=[some [69],some (.ref f),a] /\ Ext μ μ' /\ μ' f=some (.lst (sD (mks acc))) ∧
 acc ++ r=w /\ deps r<=deps w /\ cnts r<=cnts w /\ oks r
theorem sc5 (j:Nat):RdQ (zz0 (j + 1)) (yn4 (zz0 j)) ti4:=by
 rintro ds μ Q ⟨w,rfl,h1,h2,h3,q⟩;have hz:(100000:Nat) < sizeLine:=by decide
 have hlen:(mks w).length<=1200:=by
  have h4:=uk2 (mks w);have h5:=zc2 w h3;omega
 refine ⟨(by decide:0<=sizeLine),λ f hf=>?_⟩;refine sh0 (vn3 w f μ) ?_ (λ _ _ _ _=>trivial) ?_ ?_
 ·exact ⟨w,[],none,rfl,rfl,Ext.new hf,by rw [ya0]; simp [mks,sD],rfl,Nat.le_refl _,Nat.le_refl _,h3⟩
 ·rintro ρ μ' ⟨r,acc,a,e,rfl,ex,ef,ea,_⟩;cases r with
  | nil =>
   simp only [append_nil] at ea;subst ea;simp only [ret3,v3,getI];exact q f μ' ex hf ef
  | cons _ _=>simp [encs] at e
 ·rintro x rest ρ μ' ⟨r,acc,a,e,rfl,ex,ef,ea,r1,r2,r3⟩;cases r with
  | nil=>simp [encs] at e
  | cons d r =>
   simp only [encs,List.cons.injEq] at e;obtain ⟨rfl,rfl⟩:=e;simp only [deps,cnts,oks] at r1 r2 r3
   have hla:(mks acc).length + (mk d).length<=1200:=by
    have e2:=congrArg (λ v=>(mks v).length) ea;simp only [sn0,mks,length_append] at e2;omega
   have fin:∀ (l:[29]) (μ2:Mu),l=mk d->Ext μ μ2->μ2 f=some (.lst (sD (mks acc) ++ sD l))->vn3 w f μ (encs r) [some [69],some (.ref f),some (enc d)] μ2:=λ l μ2 hl e2 ef2=>by
    refine ⟨r,acc ++ [d],some (enc d),rfl,rfl,e2,?_,by simpa using ea,by omega,by omega,r3.2⟩;rw [ef2,sn0,sf2,hl];simp only [mks,append_nil]
   have nxt:∀ (t:Addr) (o o2:MO),μ' t=none->Ext μ (updM (updM μ' t o) f o2):=λ t o o2 ht g o' hg=>by
    have z:=ex g o' hg;rw [za0 (ua0 hg hf),za0 (ua0 z ht)]; exact z
   cases d
   case go n =>
    simp only [okd] at r3;simp only [mk,length_cons,length_nil] at hla;have hn : -G<=n /\ n<=G:=by have:=r3.1; unfold G at this ⊢; omega
    conv=>whnf
    rw [ef];refine ⟨wg1 hn,Z0,λ t ht=>?_⟩
    conv=>whnf
    rw [za0 (ua0 ef ht),ef,ya0];exact ⟨[100],fin ["go",nsT n] _ (by simp only [mk]) (nxt _ _ _ ht) ya0⟩
   case jump n =>
    simp only [okd] at r3;simp only [mk,length_cons,length_nil] at hla
    conv=>whnf
    rw [ef];refine ⟨wg1 r3.1,Z0,λ t ht=>?_⟩
    conv=>whnf
    rw [za0 (ua0 ef ht),ef,ya0];exact ⟨[100],fin ["jump",nsT n] _ (by simp only [mk]) (nxt _ _ _ ht) ya0⟩
   case turn n =>
    simp only [okd] at r3;simp only [mk,length_cons,length_nil] at hla
    conv=>whnf
    rw [ef];refine ⟨wg1 r3.1,Z0,λ t ht=>?_⟩
    conv=>whnf
    rw [za0 (ua0 ef ht),ef,ya0];exact ⟨[100],fin ["turn",nsT n] _ (by simp only [mk]) (nxt _ _ _ ht) ya0⟩
   case times n v =>
    simp only [okd,dep,cnt] at r1 r2 r3;simp only [mk,length_cons,length_nil,length_append] at hla;have hn : -G<=n /\ n<=G:=by have:=r3.1; unfold G at this ⊢; omega
    conv=>whnf
    rw [ef];refine ⟨wg1 hn,Z0,λ t ht=>?_⟩
    conv=>whnf
    rw [za0 (ua0 ef ht),ef,ya0];have ex1:=nxt t (.lst [.str "times",.str (nsT n)]) [46] ht;have ef1:updM (updM μ' t (.lst [.str "times",.str (nsT n)])) f [46] f=some [46]:=ya0;refine ⟨[100],?_⟩
    conv=>whnf
    rw [ya0];refine ⟨(show 1<=sizeLine by decide),λ t2 ht2=>?_⟩;generalize hμ1:updM (updM μ' t _) f _=μ1 at ht2
    replace ex1:Ext μ μ1:=by rw [<- hμ1]; exact ex1
    replace ef1:μ1 f=some [46]:=by rw [<- hμ1]; exact ef1
    refine ⟨v,rfl,by omega,by omega,r3.1.2,λ g μ2 ex2 hg eg=>?_⟩;have et2:μ2 t2=some (.lst [.str "["]):=ex2 _ _ ya0;have ef2:μ2 f=some [46]:=ex2 _ _ (by rw [za0 (ua0 ef1 ht2)]; exact ef1);have exm:Ext μ μ2:=λ c o hc=>ex2 _ _ (by rw [za0 (ua0 (ex1 _ _ hc) ht2)]; exact ex1 _ _ hc);simp only [addR,et2,eg,length_cons,length_nil,Nat.zero_add,lst3,cons3,c3,nil3,cons_append,nil_append,extR,set_cons_succ,set_cons_zero];refine ⟨by rw [ud0]; omega,λ t3 ht3=>⟨by decide,λ t4 ht4=>?_⟩⟩;have n34:t3 ≠ t4:=ua0 ya0 ht4;simp only [za0 n34,ya0,length_cons,length_nil,Nat.zero_add,cons_append];refine ⟨by rw [ud0]; omega,λ t5 ht5=>?_⟩
    have ef3:updM (updM μ2 t3 (.lst (.str "[" :: sD (mks v)))) t4 (.lst [.str "]"]) f=some [46]:=by
     have z1:updM μ2 t3 (.lst (.str "[" :: sD (mks v))) f=some [46]:=by rw [za0 (ua0 ef2 ht3)]; exact ef2
     rw [za0 (ua0 z1 ht4)]; exact z1
    have nf5:f ≠ t5:=ua0 ef3 ht5;simp only [za0 nf5,ef3,length_cons];refine ⟨by simp only [length_append,length_cons,length_nil,ud0]; omega,fin ("times" :: nsT n :: "[" :: (mks v ++ [("]" : Str)])) _ (by simp only [mk]) (λ c o hc=>?_) ?_⟩
    ·have z0:=exm c o hc;have z1:updM μ2 t3 (.lst (.str "[" :: sD (mks v))) c=some o:=by rw [za0 (ua0 z0 ht3)]; exact z0
     have z2:updM (updM μ2 t3 (.lst (.str "[" :: sD (mks v)))) t4 (.lst [.str "]"]) c=some o:=by rw [za0 (ua0 z1 ht4)]; exact z1
     rw [za0 (ua0 hc hf),za0 (ua0 z2 ht5)]; exact z2
    ·rw [ya0];simp [sD]
theorem uy0 (a:Str) (l:[29]):wt (a :: l)=(cp a).length + 1 + wt l:=by unfold wt; rw [map_cons,sum_cons]
theorem xk2:∀ {l:[29]} {t:Str},t ∈ l->t.length + 1<=wt l
 | a :: r,t,h=>by
  rw [uy0];rcases List.mem_cons.mp h with rfl | h
  ·rw [sb0]; omega
  ·have:=xk2 h; omega
theorem uc4:∀ l:List Str,l ≠ []->(jn (l.map cp)).length + 1=wt l
 | [],h=>absurd rfl h
 | [a],_=>by simp [jn,wt]
 | a :: b :: r,_=>by
  have ih:=uc4 (b :: r) [18];have e:jn ((a :: b :: r).map cp)=cp a ++ 32 :: jn ((b :: r).map cp):=rfl;rw [e,length_append,length_cons,uy0,<- ih];omega
variable {z:Str}
theorem xt2 (h:z.length<=3000):(Txt.split z " ").length<=3001 /\ ∀ t ∈ Txt.split z " ",t.length<=3000:=by
 have e1:=StrLaws.join_split z " ";have e3:=PyProof.Rows.split_pos z " ";generalize Txt.split z " " = m at e1 e3;have hm:m ≠ []:=by intro e; rw [e] at e3; simp at e3
 have e4:=congrArg cp e1;rw [tk0] at e4;have e5:=uc4 m hm;rw [e4,<- sb0] at e5;have e6:=uk2 m;refine ⟨by omega,λ t ht=>?_⟩;have:=xk2 ht;omega
theorem ss2:wt (Txt.split z " ")=z.length + 1:=by
 have e1:=StrLaws.join_split z " ";have e3:=PyProof.Rows.split_pos z " ";generalize Txt.split z " " = m at e1 e3;have hm:m ≠ []:=by intro e; rw [e] at e3; simp at e3
 have e4:=congrArg cp e1;rw [tk0] at e4;have e5:=uc4 m hm;rw [e4,<- sb0] at e5;exact e5.symm
open Mt
def isDg (c:Nat):Bool:=decide (48<=c /\ c<=57)
theorem fig_c (c:Nat):(!(Builtin.Str.occurrences ("0123456789" : Str) ⟨#[c]⟩ 0 ("0123456789" : Str).length 1).isEmpty)=isDg c:=by
 rw [StrLaws.found_one];unfold isDg;have e:("0123456789" : Str).cps.toList=[48,49,50,51,52,53,54,55,56,57]:=by decide +kernel
 rw [e];apply decide_eq_decide.mpr;simp only [mem_cons,not_mem_nil,or_false];omega
def figs (l:List Nat):Bool:=decide (1<=l.length /\ l.length<=20) && l.all isDg
def bare (l:List Nat):List Nat:=if l.head?=some 45 then l.drop 1 else l
def okn (l:List Nat):Prop:=figs (bare l)=true /\ ¬ ((bare l).head?=some 48 /\ l ≠ [48])
instance (l:List Nat):Decidable (okn l):=by unfold okn; exact inferInstance
def num? (z:Str):Option Int:=if okn (cp z) then PySem.intText? z else none
theorem xc1 {l:List Nat} (h:figs l=true):NumText.AllDigits l /\ 1<=l.length /\ l.length<=20:=by
 unfold figs at h;rw [Bool.and_eq_true,decide_eq_true_eq,all_eq_true] at h;exact ⟨λ c hc=>by have:=h.2 c hc; unfold isDg at this; exact of_decide_eq_true this,h.1⟩
theorem xa4 (h:okn (cp z)):∃ n,PySem.intText? z=some n /\ (-G<=n /\ n<=G) /\ z.length<=640:=by
 obtain ⟨h1,_⟩:=h;unfold bare at h1;by_cases c:(cp z).head?=some 45
 ·rw [if_pos c] at h1;obtain ⟨a1,a2,a3⟩:=xc1 h1;cases e:cp z with
  | nil=>rw [e] at c; cases c
  | cons x r =>
   rw [e] at c a1 a2 a3;have ex:x=45:=by simpa using c
   subst ex;simp only [List.drop_succ_cons,drop_zero] at a1 a2 a3;have hl:z.length<=21:=by rw [sb0,e,length_cons]; omega
   have hv:=xd2 r.length r rfl a1;have hv2:NumText.digitsVal r < 10 ^ 20:=Nat.lt_of_lt_of_le hv (Nat.pow_le_pow_right [8] a3);refine ⟨_,intText_neg (x:=z) e a1 (λ q=>by rw [q] at a2; simp at a2) [7],?_,by omega⟩;unfold G;omega
 ·rw [if_neg c] at h1;obtain ⟨a1,a2,a3⟩:=xc1 h1;have hl:z.length<=20:=by rw [sb0]; exact a3
  have hv:=xd2 (cp z).length (cp z) rfl a1;have hv2:NumText.digitsVal (cp z) < 10 ^ 20:=Nat.lt_of_lt_of_le hv (Nat.pow_le_pow_right [8] a3);refine ⟨_,intText_digits (x:=z) a1 (λ e0=>?_) [7],?_,by omega⟩
  ·have h0:(cp z).length=0:=by show z.cps.toList.length=0; rw [e0]; rfl
   omega
  unfold G;have:NumText.digitsVal z.cps.toList < 10 ^ 20:=hv2;omega
variable {p:Addr}
theorem uf3 {bs:List Bool} (h:μ p=some (.lst (bs.map D.bl))) (k:Q (.bl (bs.all id)) μ):allR [.ref p] μ Q:=by
 have e:∀ bs:List Bool,bls? (bs.map D.bl)=some bs:=λ bs=>by
  induction bs with
  | nil=>rfl
  | cons b r ih=>simp only [map_cons,bls?,ih]
 unfold allR;simp only [h,e];exact k
def chD (d:D):Nat:=match d with
 | .str z=>z.cps.toList.headD 0
 | _=>0
def sr3:Sp3:=λ ds μ Q=>∃ z:Str,ds=[.str z] /\ z.length<=9000 /\ ∀ μ',Ext μ μ'->Q (.bl (figs (cp z))) μ'
theorem rd_q4:RdQ sr3 t_q4 N_q4:=by
 rintro ds μ Q ⟨z,rfl,hl,q⟩;have hz:(100000:Nat) < sizeLine:=by decide
 simp only [t_q4,seq3,ifs3,or3,b3,o3,call3,cons3,v3,start3,map_cons,map_nil,N_q4,length_cons,length_nil,Nat.zero_add,Nat.reduceSub,List.replicate,cons_append,nil_append,getI,nil3,lenR,c3,ret3,next3,comp3,is3,sl0,Option.bind_none,if_true,gtR,int20,decide_eq_true_eq,eqR_ii];refine ⟨by omega,?_⟩;by_cases c1:(z.length:Int)=0
 ·simp only [c1,if_true];have e:figs (cp z)=false:=by unfold figs; rw [decide_eq_false (by rw [<- sb0]; omega)]; rfl
  have:=q μ [86];rw [e] at this;exact this
 ·simp only [c1,if_false];refine ⟨by omega,?_⟩;by_cases c2:(20:Int) < z.length
  ·simp only [c2,if_true];have e:figs (cp z)=false:=by unfold figs; rw [decide_eq_false (by rw [<- sb0]; omega)]; rfl
   have:=q μ [86];rw [e] at this;exact this
  ·simp only [c2,if_false];intro p hp;refine sd0 (rest:=[]) (λ d=>.bl (isDg (chD d))) hp (by rw [length_map]; show (cp z).length<=sizeLine; rw [<- sb0]; omega) (λ _ _=>trivial) (λ x hx μ' R ex k=>?_) λ μ' ex e=>?_
   ·obtain ⟨c,hc,rfl⟩:=List.mem_map.mp hx;simp only [o3,v3,getI,c3,inR,Bool.false_eq_true,if_false];rw [fig_c c];exact k _ [86]
   ·have el:(z.cps.toList.map λ c=>D.str ⟨#[c]⟩).map (λ d=>D.bl (isDg (chD d)))=((cp z).map isDg).map D.bl:=by
      rw [map_map,map_map]; rfl
    rw [el] at e;refine uf3 e ?_
    have ef:figs (cp z)=((cp z).map isDg).all id:=by
     unfold figs; rw [decide_eq_true (by rw [<- sb0]; omega),all_map]; rfl
    rw [<- ef];exact q μ' ex
def ndl (z f:Str):Bool:=decide (z = "-0") || (decide (1 < (cp f).length) && decide ((cp f).head?=some 48))
def ue2:Sp3:=λ ds μ Q=>∃ z f:Str,ds=[.str z,.str f] /\ f.length<=9000 /\ Q (.bl (ndl z f)) μ
theorem xo3:("0" : Str)=⟨#[48]⟩:=yy0 [55]
theorem xz2:("-" : Str)=⟨#[45]⟩:=yy0 [55]
theorem td5:RdQ ue2 tp3 xh3:=by
 rintro ds μ Q ⟨z,f,rfl,hl,q⟩;have hz:(100000:Nat) < sizeLine:=by decide
 unfold ndl at q;simp only [tp3,ret3,orV3,o3,v3,start3,map_cons,map_nil,xh3,length_cons,length_nil,Nat.zero_add,Nat.reduceAdd,Nat.reduceSub,List.replicate,cons_append,nil_append,getI,c3,andV3,call3,cons3,nil3,lenR,gtR,int20,decide_eq_true_eq,smt3,startsR,eqR_ss];by_cases c1:z = "-0"
 ·simp only [c1,if_true];simpa [c1] using q
 ·simp only [c1,if_false];refine ⟨by omega,?_⟩;rw [decide_eq_false c1,Bool.false_or] at q;by_cases c2:(1:Int) < f.length
  ·simp only [c2,if_true];rw [xo3,xw0];rw [decide_eq_true (show 1 < (cp f).length by rw [<- sb0]; omega),Bool.true_and] at q;exact q
  ·simp only [c2,if_false];rw [decide_eq_false (show ¬ 1 < (cp f).length by rw [<- sb0]; omega),Bool.false_and] at q;exact q
theorem cp_m0:cp ("-0" : Str)=[45,48]:=by decide +kernel
theorem ts1 (h:(cp z).head?=some 45):cp (⟨(cut3 z.cps.toList (some 1) none).toArray⟩:Str)=bare (cp z):=by
 show (cut3 (cp z) (some 1) none).toArray.toList=_;unfold bare;rw [if_pos h];cases e:cp z with
 | nil=>rw [e] at h; cases h
 | cons a r =>
  unfold cut3 sIx3;simp only [length_cons,show ¬ ((1:Int) < 0) by decide,if_false];have e1:min (1:Int).toNat (r.length + 1)=1:=by show min 1 _=1; omega
  rw [e1];simp
theorem ya4 {f:Str} (h:cp f=bare (cp z)):(figs (cp f)=true /\ ndl z f=false) ↔ okn (cp z):=by
 unfold okn;rw [h];refine and_congr_right λ hf=>?_;obtain ⟨_,a2,_⟩:=xc1 hf;unfold ndl;rw [h];have e0:z = "-0" ↔ cp z=[45,48]:=⟨λ e=>by rw [e,cp_m0],λ e=>yy0 (by rw [e,cp_m0])⟩;rw [Bool.or_eq_false_iff,decide_eq_false_iff_not,e0,Bool.and_eq_false_iff,decide_eq_false_iff_not,decide_eq_false_iff_not];unfold bare at a2 ⊢;by_cases c:(cp z).head?=some 45
 ·rw [if_pos c] at a2 ⊢;cases e:cp z with
  | nil=>rw [e] at c; cases c
  | cons x r =>
   rw [e] at c a2;have ex:x=45:=by simpa using c
   subst ex;simp only [List.drop_succ_cons,drop_zero] at a2 ⊢;cases r with
   | nil=>simp at a2
   | cons y r=>simp only [List.head?_cons,length_cons,List.cons.injEq,Option.some.injEq,true_and,ne_eq]; cases r <;> simp
 ·rw [if_neg c] at a2 ⊢;cases e:cp z with
  | nil=>rw [e] at a2; simp at a2
  | cons x r =>
   rw [e] at c;simp only [List.head?_cons,Option.some.injEq] at c;simp only [List.head?_cons,length_cons,List.cons.injEq,Option.some.injEq,ne_eq];cases r <;> simp [c]
def uo3 {α:Type} (XE:XE3) (μ:Mu) (Q:α->Mu->Prop) (E:Mu->Mu->Prop):Option α->Prop
 | some a=>∀ μ',E μ μ'->Q a μ'
 | none=>∀ μ',E μ μ'->XE "BadNote" μ'
def vr3 (XE:XE3):Sp3:=λ ds μ Q=>∃ z:Str,ds=[.str z] /\ z.length<=9000 /\ uo3 XE μ (λ n=>Q (.int n)) Ext (num? z)
theorem tc5 (XE:XE3):RdQ (vr3 XE) (xn4 XE sr3 ue2) ui4:=by
 rintro ds μ Q ⟨z,rfl,hl,q⟩;have hz:(100000:Nat) < sizeLine:=by decide
 have main:∀ (f:Str) (μ0:Mu),f.length<=9000->cp f=bare (cp z)->μ0=μ->(seq3 (ifs3 (or3 (not3 (b3 (call3 sr3 [75]))) (b3 (call3 ue2 (cons3 (v3 0) [75])))) (vc0 XE "BadNote" (cons3 (c3 (.str "there is no such number")) nil3)) next3) (ret3 (call3 intR [24]))) { nx:=λ _ μ'=>Q .non μ',rt:=Q } [some (.str z),some (.str f)] μ0:=by
  intro f μ0 hf ef e0;subst e0;refine ⟨f,rfl,hf,λ μ1 e1=>?_⟩;have ki:=ya4 ef;cases cf:figs (cp f) with
  | false =>
   have hn:num? z=none:=by unfold num?; rw [if_neg (λ k=>by have:=(ki.mpr k).1; rw [cf] at this; cases this)]
   rw [hn] at q;exact ⟨by decide,q μ1 e1⟩
  | true =>
   refine ⟨z,f,rfl,hf,?_⟩;cases cn:ndl z f with
   | true =>
    have hn:num? z=none:=by unfold num?; rw [if_neg (λ k=>by have:=(ki.mpr k).2; rw [cn] at this; cases this)]
    rw [hn] at q;exact ⟨by decide,q μ1 e1⟩
   | false =>
    have ok:=ki.mp ⟨cf,cn⟩;obtain ⟨n,en,_,hl2⟩:=xa4 ok;have hn:num? z=some n:=by unfold num?; rw [if_pos ok]; exact en
    rw [hn] at q;show intR [.str z] μ1 Q;simp only [intR,en];exact ⟨hl2,q μ1 e1⟩
 show if Txt.startswith z "-" = true then _ else _;rw [xz2,xw0];by_cases c:(cp z).head?=some 45
 ·rw [decide_eq_true c,if_pos rfl];refine ⟨(show z.length<=sizeLine by omega),?_⟩;refine main _ μ ?_ (ts1 c) rfl;rw [sb0,ts1 c];unfold bare;rw [if_pos c,length_drop,<- sb0];omega
 ·rw [decide_eq_false c,if_neg [8]];refine main z μ hl ?_ rfl;unfold bare;rw [if_neg c]
def nm (c:Bool) (s:Bool) (u:Str):Option Int:=match num? u with
 | some n=>if c=true /\ s=true /\ n < 0 then none else some n
 | none=>none
abbrev PT:=Nat->List Str->Option (List Dd × List Str)
def clo (n:Int) (o:Option (List Dd × List Str)):Option (Dd × List Str):=match o with
 | some (v,e :: r3)=>if e = "]" then some (.times n v,r3) else none
 | _=>none
def inr (P:PT) (k:Nat) (n:Int) (r:[29]):Option (Dd × List Str):=match r with
 | []=>none
 | b :: r2=>if b = "[" /\ k < 4 then clo n (P (k + 1) r2) else none
def dee (P:PT) (c:Bool) (k:Nat) (t:Str) (r:[29]):Option (Dd × List Str):=match r with
 | []=>none
 | u :: r' =>
  if t = "go" then (nm c true u).map λ n=>(.go n,r')
  else if t = "jump" then (nm c false u).map λ n=>(.jump n,r')
  else if t = "turn" then (nm c false u).map λ n=>(.turn n,r')
  else if t = "times" then (nm c true u).bind λ n=>inr P k n r'
  else none
def prs (c:Bool):Nat->PT
 | 0,_,_=>none
 | f + 1,k,ms=>match ms with
  | []=>some ([],[])
  | t :: r=>if t = "]" then some ([],t :: r) else
   (dee (prs c f) c k t r).bind λ x=>(prs c f k x.2).map λ y=>(x.1 :: y.1,y.2)
variable {r r':[29]}
theorem sc4 {P:PT} {k:Nat} {d:Dd} (hP:∀ k ms w r,P k ms=some (w,r)->r.length<=ms.length) (h:inr P k n r=some (d,r')):r'.length < r.length:=by
 unfold inr at h;split at h
 ·cases h
 ·next b r2 =>
  split at h
  ·unfold clo at h;split at h
   ·next v e r3 hv =>
    split at h
    ·cases h;have:=hP _ _ _ _ hv;simp only [length_cons] at this ⊢;omega
    ·cases h
   ·cases h
  ·cases h
variable {t:Str}
theorem wc1 {P:PT} {c:Bool} {k:Nat} {d:Dd} (hP:∀ k ms w r,P k ms=some (w,r)->r.length<=ms.length) (h:dee P c k t r=some (d,r')):r'.length < r.length:=by
 unfold dee at h;split at h
 ·cases h
 ·next u r2 =>
  have mp:∀ {o:Option Int} {g:Int->Dd × List Str},(∀ n,(g n).2=r2)->o.map g=some (d,r')->r'.length < (u :: r2).length:=λ {o g} hg e=>by
   cases o with
   | none=>cases e
   | some n =>
    simp only [Option.map_some,Option.some.injEq] at e;have:=hg n;rw [e] at this;dsimp only at this;subst this;simp
  split at h
  ·exact mp (λ _=>rfl) h
  ·split at h
   ·exact mp (λ _=>rfl) h
   ·split at h
    ·exact mp (λ _=>rfl) h
    ·split at h
     ·cases e:nm c true u with
      | none=>rw [e] at h; cases h
      | some n =>
       rw [e] at h;have:=sc4 hP h;simp only [length_cons];omega
     ·cases h
theorem ya1 (c:Bool):∀ f k ms w r,prs c f k ms=some (w,r)->r.length<=ms.length
 | 0,k,ms,w,r,h=>by simp [prs] at h
 | f + 1,k,[],w,r,h=>by simp [prs] at h; rw [h.2]; simp
 | f + 1,k,t :: ms,w,r,h=>by
  simp only [prs] at h;split at h
  ·cases h; simp
  ·cases e:dee (prs c f) c k t ms with
   | none=>rw [e] at h; cases h
   | some x =>
    rw [e] at h;simp only [Option.bind_some] at h;cases e2:prs c f k x.2 with
    | none=>rw [e2] at h; cases h
    | some y =>
     rw [e2] at h;simp only [Option.map_some,Option.some.injEq,Prod.mk.injEq] at h;have h1:=wc1 (ya1 c f) (d:=x.1) (r':=x.2) e;have h2:=ya1 c f k x.2 y.1 y.2 e2;rw [<- h.2];simp only [length_cons];omega
theorem xi1 {P P':PT} {c:Bool} {k:Nat} (h:∀ k ms,ms.length < r.length->P k ms=P' k ms):dee P c k t r=dee P' c k t r:=by
 unfold dee;cases r with
 | nil=>rfl
 | cons u r' =>
  dsimp only
  have e:∀ n,inr P k n r'=inr P' k n r':=λ n=>by
   unfold inr;cases r' with
   | nil=>rfl
   | cons b r2 =>
    dsimp only;rw [h (k + 1) r2 (by simp only [length_cons]; omega)]
  simp only [e]
theorem vq0 (c:Bool):∀ f g k ms,ms.length < f->ms.length < g->prs c f k ms=prs c g k ms
 | 0,_,_,_,h,_=>by omega
 | _ + 1,0,_,_,_,h=>by omega
 | f + 1,g + 1,k,[],_,_=>by simp [prs]
 | f + 1,g + 1,k,t :: r,hf,hg=>by
  simp only [length_cons] at hf hg;simp only [prs];have e:dee (prs c f) c k t r=dee (prs c g) c k t r:=xi1 λ k ms hm=>vq0 c f g k ms [7] [7];rw [e];split
  ·rfl
  ·cases e2:dee (prs c g) c k t r with
   | none=>rfl
   | some x =>
    simp only [Option.bind_some];have h1:=wc1 (ya1 c g) (d:=x.1) (r':=x.2) e2;rw [vq0 c f g k x.2 [7] [7]]
def PR (c:Bool):PT:=λ k ms=>prs c (ms.length + 1) k ms
theorem yx2 {c:Bool} {f k:Nat} (h:t ≠ "]"):prs c (f + 1) k (t :: r)=(dee (prs c f) c k t r).bind λ x=>(prs c f k x.2).map λ y=>(x.1 :: y.1,y.2):=by
 rw [prs];simp only [if_neg h]
theorem tn3 (c:Bool) (k:Nat):PR c k []=some ([],[]):=by simp [PR,prs]
theorem PR_rb (c:Bool) (k:Nat) (r:[29]):PR c k (("]" : Str) :: r)=some ([],("]" : Str) :: r):=by simp [PR,prs]
theorem sn3 {c:Bool} {k:Nat} {ms:[29]} (h:PR c k ms=some (w,r)):r.length<=ms.length:=ya1 c _ _ _ _ _ h
theorem vn1 {c:Bool} {k:Nat} (h:t ≠ "]"):PR c k (t :: r)=(dee (PR c) c k t r).bind λ x=>(PR c k x.2).map λ y=>(x.1 :: y.1,y.2):=by
 show prs c (r.length + 1 + 1) k (t :: r)=_;rw [yx2 h];have e:dee (prs c (r.length + 1)) c k t r=dee (PR c) c k t r:=xi1 λ k ms hm=>vq0 c _ _ k ms [7] [7];rw [e];cases e2:dee (PR c) c k t r with
 | none=>rfl
 | some x =>
  simp only [Option.bind_some];have h1:=wc1 (P:=PR c) (λ k ms w r h=>sn3 h) (d:=x.1) (r':=x.2) e2;rw [vq0 c (r.length + 1) (x.2.length + 1) k x.2 [7] [7]];rfl
theorem dee_l {c:Bool} {k:Nat} {d:Dd} (h:dee (PR c) c k t r=some (d,r')):r'.length < r.length:=wc1 (λ k ms w r h=>sn3 h) h
theorem uo2 (P:PT) (c:Bool) (k:Nat) (t:Str):dee P c k t []=none:=rfl
mutual
def nb1:Dd->Bool
 | .go n=>decide (0<=n)
 | .times n w=>decide (0<=n) && nbs w
 | _=>true
def nbs:List Dd->Bool
 | []=>true
 | d :: r=>nb1 d && nbs r
end
def flt (o:Option (List Dd × List Str)):Option (List Dd × List Str):=o.bind λ x=>if nbs x.1=true then some x else none
theorem vo2 {P:PT} {c:Bool} {k:Nat} {d:Dd} (hP:∀ k ms w r,P k ms=some (w,r)->r <:+ ms) (h:dee P c k t r=some (d,r')):r' <:+ r:=by
 unfold dee at h;split at h
 ·cases h
 ·next u r2 =>
  have mp:∀ {o:Option Int} {g:Int->Dd × List Str},(∀ n,(g n).2=r2)->o.map g=some (d,r')->r' <:+ u :: r2:=λ {o g} hg e=>by
   cases o with
   | none=>cases e
   | some n =>
    simp only [Option.map_some,Option.some.injEq] at e;have:=hg n;rw [e] at this;dsimp only at this;subst this;exact suffix_cons _ _
  split at h
  ·exact mp (λ _=>rfl) h
  ·split at h
   ·exact mp (λ _=>rfl) h
   ·split at h
    ·exact mp (λ _=>rfl) h
    ·split at h
     ·cases e:nm c true u with
      | none=>rw [e] at h; cases h
      | some n =>
       rw [e] at h;dsimp only [Option.bind_some] at h;unfold inr at h;split at h
       ·cases h
       ·split at h
        ·unfold clo at h;split at h
         ·next v e3 r3 hv =>
          split at h
          ·cases h;exact ((suffix_cons _ _).trans (hP _ _ _ _ hv)).trans ((suffix_cons _ _).trans (suffix_cons _ _))
          ·cases h
         ·cases h
        ·cases h
     ·cases h
theorem sk1 (c:Bool):∀ f k ms w r,prs c f k ms=some (w,r)->r <:+ ms
 | 0,k,ms,w,r,h=>by simp [prs] at h
 | f + 1,k,[],w,r,h=>by simp [prs] at h; rw [h.2]; exact List.suffix_refl _
 | f + 1,k,t :: ms,w,r,h=>by
  simp only [prs] at h;split at h
  ·cases h; exact List.suffix_refl _
  ·cases e:dee (prs c f) c k t ms with
   | none=>rw [e] at h; cases h
   | some x =>
    rw [e] at h;simp only [Option.bind_some] at h;cases e2:prs c f k x.2 with
    | none=>rw [e2] at h; cases h
    | some y =>
     rw [e2] at h;simp only [Option.map_some,Option.some.injEq,Prod.mk.injEq] at h;have h1:=vo2 (sk1 c f) (d:=x.1) (r':=x.2) e;have h2:=sk1 c f k x.2 y.1 y.2 e2;rw [<- h.2];exact (h2.trans h1).trans (suffix_cons _ _)
theorem PR_suf {c:Bool} {k:Nat} {ms:[29]} (h:PR c k ms=some (w,r)):r <:+ ms:=sk1 c _ _ _ _ _ h
theorem ve4 {c:Bool} {k:Nat} {d:Dd} (h:dee (PR c) c k t r=some (d,r')):∀ x ∈ r',x ∈ r:=λ x hx=>(vo2 (λ k ms w r h=>PR_suf h) h).subset hx
open Mt
theorem xc4 (l:List D) (x:D):atI (l ++ [x]) (-1)=some x:=by
 unfold atI ixN;have h1:¬ ((0:Int) <= -1):=by decide
 rw [if_neg h1,if_pos (by simp; omega)];have h2:(-1 + (((l ++ [x]).length:Nat):Int)).toNat=l.length:=by simp; omega
 simp only [Option.bind_some,h2];simp
theorem ur0 (t:Str) (r:[29]):sD (t :: r).reverse=sD r.reverse ++ [.str t]:=by simp [sD]
def xr3 (XE:XE3):Sp3:=λ ds μ Q=>∃ (p:Addr) (ms:[29]),ds=[.ref p] /\ μ p=some (.lst (sD ms.reverse)) /\ (match ms with
 | []=>XE "BadNote" μ
 | t :: r=>Q (.str t) (updM μ p (.lst (sD r.reverse))))
theorem za5 (XE:XE3):RdQ (xr3 XE) (zs2 XE) ur2:=by
 rintro ds μ Q ⟨p,ms,rfl,e,q⟩;cases ms with
 | nil =>
  simp only [zs2,seq3,ifs3,b3,o3,call3,cons3,v3,start3,map_cons,map_nil,ur2,length_cons,length_nil,Nat.zero_add,Nat.reduceSub,List.replicate,cons_append,nil_append,getI,nil3,lenR,e,c3,next3,ret3,pop3,eqR_ii,decide_eq_true_eq];simp only [sD,List.reverse_nil,map_nil,length_nil];exact ⟨by decide,q⟩
 | cons t r =>
  simp only [zs2,seq3,ifs3,b3,o3,call3,cons3,v3,start3,map_cons,map_nil,ur2,length_cons,length_nil,Nat.zero_add,Nat.reduceSub,List.replicate,cons_append,nil_append,getI,nil3,lenR,e,c3,next3,ret3,pop3,eqR_ii,decide_eq_true_eq];have e1:¬ (((sD (t :: r).reverse).length:Int)=0):=by rw [ud0]; simp; omega
  simp only [e1,if_false];have e2:(sD (t :: r).reverse).reverse=.str t :: (sD r.reverse).reverse:=by rw [ur0]; simp
  simp only [e2,List.reverse_reverse];exact q
def uo4 (XE:XE3):Sp3:=λ ds μ Q=>∃ (p:Addr) (b:Str) (ms:[29]),ds=[.ref p,.str b] /\ μ p=some (.lst (sD ms.reverse)) /\ (match ms with
 | []=>XE "BadNote" μ
 | t :: r=>if t=b then Q .non (updM μ p (.lst (sD r.reverse))) else XE "BadNote" (updM μ p (.lst (sD r.reverse))))
theorem va5 (XE:XE3):RdQ (uo4 XE) (uk4 XE xr3) tg4:=by
 rintro ds μ Q ⟨p,b,ms,rfl,e,q⟩;refine ⟨p,ms,rfl,e,?_⟩;cases ms with
 | nil=>exact q
 | cons t r =>
  dsimp only at q ⊢;show if (!decide (t=b))=true then _ else _;by_cases c:t=b
  ·rw [if_pos c] at q;rw [decide_eq_true c];exact q
  ·rw [if_neg c] at q;rw [decide_eq_false c];exact ⟨by decide,q⟩
def szs (ms:[29]):Prop:=∀ t ∈ ms,t.length<=9000
def yr3 (j:Nat) (XE:XE3):Sp3:=λ ds μ Q=>∃ (p:Addr) (t:Str) (r:[29]) (k:Nat),ds=[.ref p,.int k] /\ μ p=some (.lst (sD (t :: r).reverse)) /\ k<=4 /\ 4 < k + j /\ szs (t :: r) /\ (t :: r).length<=9000 ∧
 uo3 XE μ (λ x μ'=>μ' p=some (.lst (sD x.2.reverse))->Q (enc x.1) μ') (ExtB p) (dee (PR false) false k t r)
def ts2 (j:Nat) (XE:XE3):Sp3:=λ ds μ Q=>∃ (p:Addr) (ms:[29]) (k:Nat),ds=[.ref p,.int k] /\ μ p=some (.lst (sD ms.reverse)) /\ k<=5 /\ (k<=4->4 < k + j) /\ szs ms /\ ms.length<=9000 ∧
 uo3 XE μ (λ x μ'=>μ' p=some (.lst (sD x.2.reverse))->Q (.tup (encs x.1)) μ') (ExtB p) (if k<=4 then PR false k ms else none)
theorem nm_f (s:Bool) (u:Str):nm false s u=num? u:=by unfold nm; cases num? u <;> simp
theorem dee_go (P:PT) (k:Nat) (u:Str) (r:[29]):dee P false k "go" (u :: r)=(num? u).map λ n=>(.go n,r):=by simp only [dee,nm_f,if_true]
theorem wd3 (P:PT) (k:Nat) (u:Str) (r:[29]):dee P false k "jump" (u :: r)=(num? u).map λ n=>(.jump n,r):=by simp only [dee,nm_f,kn_jump_go,if_true,if_false]
theorem yd3 (P:PT) (k:Nat) (u:Str) (r:[29]):dee P false k "turn" (u :: r)=(num? u).map λ n=>(.turn n,r):=by simp only [dee,nm_f,kn_turn_go,kn_turn_jump,if_true,if_false]
theorem sh1 (P:PT) (k:Nat) (u:Str) (r:[29]):dee P false k "times" (u :: r)=(num? u).bind λ n=>inr P k n r:=by simp only [dee,nm_f,kn_times_go,kn_times_jump,kn_times_turn,if_true,if_false]
theorem zd3 {P:PT} {k:Nat} (h1:t ≠ "go") (h2:t ≠ "jump") (h3:t ≠ "turn") (h4:t ≠ "times") {c:Bool}:dee P c k t r=none:=by
 unfold dee;cases r with
 | nil=>rfl
 | cons u r=>simp only [h1,h2,h3,h4,if_false]
theorem zl3 (t:Str):[67].contains t=true ↔ t = "go" \/ t = "jump" \/ t = "turn" := by simp
theorem xz0 {a b:MO} {μ':Mu} (h:Ext (updM (updM μ p a) p b) μ'):ExtB p μ μ':=λ c o n q=>h c o (by rw [za0 n,za0 n]; exact q)
theorem wa5 (j:Nat) (XE:XE3):RdQ (yr3 (j + 1) XE) (vk4 XE vr3 uo4 xr3 (ts2 j)) ug4:=by
 rintro ds μ Q ⟨p,t,r,k,rfl,e,hk,hj,hs,hl,q⟩;refine ⟨p,t :: r,rfl,e,?_⟩;dsimp only;show if [67].contains t=true then _ else _;by_cases cp':[67].contains t=true
 ·rw [if_pos cp'];refine ⟨p,r,rfl,ya0,?_⟩;cases r with
  | nil =>
   rw [uo2] at q;exact q _ ExtB.upd
  | cons u r =>
   have plain:∀ kd:Int->Dd,(∀ n,enc (kd n)=.tup [.str t,.int n])->dee (PR false) false k t (u :: r)=((num? u).map λ n=>(kd n,r))->vr3 XE [.str u] (updM (updM μ p (.lst (sD (u :: r).reverse))) p (.lst (sD r.reverse))) (λ d μ'=>2<=sizeLine /\ Q (.tup [.str t,d]) μ'):=λ kd hkd ed=>by
    rw [ed] at q;refine ⟨u,rfl,hs u [18],?_⟩;cases en:num? u with
    | none=>rw [en] at q; exact λ μ' e'=>q μ' (xz0 e')
    | some n =>
     rw [en] at q;refine λ μ' e'=>⟨by decide,?_⟩;have:=q μ' (xz0 e') (e' _ _ ya0);rw [hkd] at this;exact this
   rcases (zl3 t).mp cp' with rfl | rfl | rfl
   ·exact plain .go (λ n=>by simp only [enc]) (dee_go _ _ _ _)
   ·exact plain .jump (λ n=>by simp only [enc]) (wd3 _ _ _ _)
   ·exact plain .turn (λ n=>by simp only [enc]) (yd3 _ _ _ _)
 ·rw [if_neg cp'];have np:=λ h=>cp' ((zl3 t).mpr h);show if (!decide (t = "times"))=true then _ else _;by_cases ct:t = "times"
  ·rw [decide_eq_true ct];subst ct;refine ⟨p,r,rfl,ya0,?_⟩;cases r with
   | nil =>
    rw [uo2] at q;exact q _ ExtB.upd
   | cons u r =>
    rw [sh1] at q;refine ⟨u,rfl,hs u [18],?_⟩;cases en:num? u with
    | none=>rw [en] at q; exact λ μ' e'=>q μ' (xz0 e')
    | some n =>
     rw [en] at q;dsimp only [Option.bind_some] at q;intro μ1 e1;have x1:=xz0 e1;refine ⟨p, "[",r,rfl,e1 _ _ ya0,?_⟩;cases r with
     | nil=>exact q μ1 x1
     | cons b r =>
      dsimp only;by_cases cb:b = "["
      ·rw [if_pos cb]
       have iq:inr (PR false) k n (b :: r)=if k < 4 then clo n (PR false (k + 1) r) else none:=by
        unfold inr;by_cases c4:k < 4
        ·simp only [cb,c4,and_self,if_true]
        ·simp only [c4,and_false,if_false]
       rw [iq] at q;refine ⟨p,r,k + 1,rfl,ya0,by omega,λ _=>by omega,λ t ht=>hs t (by simp [ht]),by simp only [length_cons] at hl; omega,?_⟩;by_cases c4:k < 4
       ·rw [if_pos c4] at q;rw [if_pos [7]];cases ep:PR false (k + 1) r with
        | none =>
         rw [ep] at q;exact λ μ2 e2=>q μ2 (x1.trans (ExtB.upd.trans e2))
        | some y =>
         obtain ⟨v,r3⟩:=y;rw [ep] at q;intro μ2 e2 m2;have x2:ExtB p μ μ2:=x1.trans (ExtB.upd.trans e2);refine ⟨p, "]",r3,rfl,m2,?_⟩;cases r3 with
         | nil=>exact q μ2 x2
         | cons b2 r4 =>
          dsimp only [clo] at q ⊢;by_cases cb2:b2 = "]"
          ·rw [if_pos cb2] at q ⊢;refine ⟨Z1,?_⟩;have:=q _ (x2.trans ExtB.upd) ya0;simpa only [enc] using this
          ·rw [if_neg cb2] at q ⊢;exact q _ (x2.trans ExtB.upd)
       ·rw [if_neg c4] at q;rw [if_neg [7]];exact λ μ2 e2=>q μ2 (x1.trans (ExtB.upd.trans e2))
      ·rw [if_neg cb];have iq:inr (PR false) k n (b :: r)=none:=by unfold inr; simp only [cb,false_and,if_false]
       rw [iq] at q;exact q _ (x1.trans ExtB.upd)
  ·rw [decide_eq_false ct];rw [zd3 (λ h=>np (.inl h)) (λ h=>np (.inr (.inl h))) (λ h=>np (.inr (.inr h))) ct] at q;exact ⟨by decide,q _ ExtB.upd⟩
def glu (acc:List Dd) (o:Option (List Dd × List Str)):Option (List Dd × List Str):=o.map λ x=>(acc ++ x.1,x.2)
theorem wd4 (o:Option (List Dd × List Str)):glu [] o=o:=by unfold glu; cases o <;> rfl
theorem xc3 (acc:List Dd) {c:Bool} {k:Nat} {d:Dd} (ht:t ≠ "]") (hd:dee (PR c) c k t r=some (d,r')):glu acc (PR c k (t :: r))=glu (acc ++ [d]) (PR c k r'):=by
 rw [vn1 ht,hd];unfold glu;dsimp only [Option.bind_some];cases PR c k r' with
 | none=>rfl
 | some y=>simp
theorem yc3 (acc:List Dd) {c:Bool} {k:Nat} (ht:t ≠ "]") (hd:dee (PR c) c k t r=none):glu acc (PR c k (t :: r))=none:=by
 rw [vn1 ht,hd]; rfl
theorem zc1:∀ a b,encs (a ++ b)=encs a ++ encs b
 | [],b=>by simp [encs]
 | d :: r,b=>by simp only [cons_append,encs,zc1 r b]
def WTw (p f:Addr) (ms:[29]) (k:Nat) (μ:Mu) (m:Nat) (ρ:St3) (μ':Mu):Prop:=∃ (r:[29]) (acc:List Dd),m=r.length /\ ρ=[some [43],some (.int k),some (.ref f)] /\ ExtB p μ μ' /\ μ' p=some (.lst (sD r.reverse)) /\ μ' f=some (.lst (encs acc)) ∧
 PR false k ms=glu acc (PR false k r) /\ acc.length + r.length<=ms.length /\ (∀ t ∈ r,t.length<=9000)
theorem ya5 (j:Nat) (XE:XE3):RdQ (ts2 j XE) (wk4 XE (yr3 j)) vg4:=by
 rintro ds μ Q ⟨p,ms,k,rfl,e,hk,hj,hs,hl,q⟩;have hz:(100000:Nat) < sizeLine:=by decide
 show if decide ((4:Int) < (k:Int))=true then _ else _;by_cases c4:k<=4
 ·rw [decide_eq_false [7],if_neg [8]];rw [if_pos c4] at q;refine ⟨Nat.zero_le _,λ f hf=>?_⟩;have hpf:p ≠ f:=ua0 e hf;refine ⟨WTw p f ms k μ,⟨ms.length,ms,[],rfl,rfl,λ c o hc hq=>?_,?_,by rw [ya0]; simp [encs],(wd4 _).symm,by simp,hs⟩,?_⟩
  ·rw [za0 (ua0 hq hf)]; exact hq
  ·rw [za0 hpf]; exact e
  rintro m ρ μ' ⟨r,acc,rfl,rfl,ex,ep,ef,ea,hln,hsr⟩
  conv=>whnf
  rw [ep];show if decide ((0:Int) < ((sD r.reverse).length:Int))=true then _ else _
  have fin:∀ r2,PR false k ms=some (acc,r2)->r2=r->(call3 tupR (cons3 (v3 2) nil3)) [some [43],some (.int k),some (.ref f)] μ' Q:=λ r2 e2 er=>by
   subst er;rw [e2] at q;show tupR [.ref f] μ' Q;simp only [tupR,ef];exact q μ' ex ep
  cases r with
  | nil =>
   rw [decide_eq_false (by simp [sD]),if_neg [8]];exact fin [] (by rw [ea,tn3]; simp [glu]) rfl
  | cons t r =>
   rw [decide_eq_true (by rw [ud0,List.length_reverse,length_cons]; omega),if_pos rfl];have e1:sD (t :: r).reverse=sD r.reverse ++ [.str t]:=ur0 t r
   have ix:∀ K:VK3,ixR [43] (.int (-1)) μ' K=K (.str t) μ':=λ K=>by
    simp only [ixR,ep,e1,xc4]
   show ixR [43] (.int (-1)) μ' (λ d μ1=>_);rw [ix];show if (!decide (t = "]"))=true then _ else _;by_cases cb:t = "]"
   ·rw [decide_eq_true cb];subst cb;exact fin (("]" : Str) :: r) (by rw [ea,PR_rb]; simp [glu]) rfl
   ·rw [decide_eq_false cb];simp only [length_cons] at hln;refine ⟨λ ρ' μ''=>∃ m',m' < (t :: r).length /\ WTw p f ms k μ m' ρ' μ'',λ _ _ h=>h,?_⟩
    conv=>whnf
    rw [ef];refine ⟨p,t,r,k,rfl,ep,c4,hj c4,hsr,by simp only [length_cons]; omega,?_⟩;cases hd:dee (PR false) false k t r with
    | none =>
     rw [ea,yc3 acc cb hd] at q;exact λ μ2 e2=>q μ2 (ex.trans e2)
    | some x =>
     obtain ⟨d,r'⟩:=x;intro μ2 e2 m2;have hr':=dee_l hd;have ef2:μ2 f=some (.lst (encs acc)):=e2 _ _ (Ne.symm hpf) ef;dsimp only [nil3];show appR (.ref f) [enc d] μ2 _;simp only [appR,ef2];refine ⟨by rw [ub0]; omega,r'.length,by simp only [length_cons]; omega,r',acc ++ [d],rfl,rfl,λ c o hc hq=>?_,by rw [za0 hpf]; exact m2,by rw [ya0,zc1]; simp only [encs],by rw [ea]; exact xc3 acc cb hd,by rw [length_append]; simp only [length_cons,length_nil]; omega,λ t ht=>?_⟩
     ·rw [za0 (ua0 hq hf)];exact e2 _ _ hc (ex _ _ hc hq)
     ·exact hsr t (mem_cons_of_mem _ (ve4 hd t ht))
 ·rw [decide_eq_true [7],if_pos rfl];rw [if_neg c4] at q;exact ⟨by decide,q μ (ExtB.refl _ _)⟩
def prts (z:Str):List Str:=if z = "" then [] else Txt.split z " "
theorem tx3 (h:z.length<=3000):(prts z).length<=3001 /\ ∀ t ∈ prts z,t.length<=3000:=by
 unfold prts;split
 ·exact ⟨by simp,λ t ht=>by simp at ht⟩
 ·exact xt2 h
def so4:Sp3:=λ ds μ Q=>∃ z:Str,ds=[.str z] /\ z.length<=3000 /\ ∀ p μ',Ext μ μ'->μ p=none->μ' p=some (.lst (sD (prts z).reverse))->Q [43] μ'
theorem xd5:RdQ so4 zp3 vg3:=by
 rintro ds μ Q ⟨z,rfl,hl,q⟩;unfold prts at q;simp only [zp3,seq3,ifs3,b3,o3,v3,start3,map_cons,map_nil,vg3,length_cons,length_nil,Nat.zero_add,Nat.reduceSub,List.replicate,cons_append,nil_append,getI,c3,ret3,lst3,nil3,next3,lrev3,cons3,smt3,splitR,eqR_ss,decide_eq_true_eq];by_cases e:z = ""
 ·simp only [e,if_true] at q ⊢;exact ⟨by decide,λ p hp=>q p _ (Ext.new hp) hp (by rw [ya0]; simp [sD])⟩
 ·simp only [e,if_false] at q ⊢;refine ⟨⟨by decide,by omega⟩,λ t ht=>?_⟩;simp only [ya0];intro p hp;refine q p _ (λ c o hc=>?_) ?_ ?_
  ·have zz:updM μ t (.lst ((Txt.split z " ").map D.str)) c=some o:=by rw [za0 (ua0 hc ht)]; exact hc
   rw [za0 (ua0 zz hp)]; exact zz
  ·exact Ext.free (Ext.new ht) hp
  ·rw [ya0]; simp [sD]
def ye2 (XE:XE3):Sp3:=λ ds μ Q=>∃ z:Str,ds=[.str z] /\ z.length<=3000 /\ ((∃ w,PR false 0 (prts z)=some (w,[]) /\ Wd w /\ ∀ μ',Ext μ μ'->Q [69] μ') \/ ((∀ w,PR false 0 (prts z)=some (w,[])->¬ Wd w) /\ ∀ μ',Ext μ μ'->XE "BadNote" μ'))
theorem ws3 (w:List Dd):ShV [69]:=.wd _ (xq0 w)
theorem sb5 (XE:XE3):RdQ (ye2 XE) (tl4 XE vr0 so4 (ts2 5)) th4:=by
 rintro ds μ Q ⟨z,rfl,hl,q⟩;obtain ⟨b1,b2⟩:=tx3 hl;refine ⟨z,rfl,hl,λ p μ1 ex1 hp e1=>?_⟩;refine ⟨p,prts z,0,rfl,e1,by decide,λ _=>by decide,λ t ht=>Nat.le_trans (b2 t ht) [8],by omega,?_⟩;rw [if_pos [8]];have toExt:∀ {μ2},ExtB p μ1 μ2->Ext μ μ2:=λ e2 c o hc=>e2 _ _ (ua0 hc hp) (ex1 _ _ hc);cases ep:PR false 0 (prts z) with
 | none =>
  rw [ep] at q;rcases q with ⟨w,e,_⟩ | ⟨_,x⟩
  ·cases e
  ·exact λ μ2 e2=>x μ2 (toExt e2)
 | some y =>
  obtain ⟨w,r⟩:=y;rw [ep] at q;intro μ2 e2 m2
  conv=>whnf
  rw [m2];show if decide ((0:Int) < ((sD r.reverse).length:Int))=true then _ else _;cases r with
  | cons b r =>
   rw [decide_eq_true (by rw [ud0,List.length_reverse,length_cons]; omega),if_pos rfl];rcases q with ⟨w',e,_⟩ | ⟨_,x⟩
   ·cases e
   ·exact ⟨by decide,x μ2 (toExt e2)⟩
  | nil =>
   rw [decide_eq_false (by simp [sD]),if_neg [8]];refine ⟨_,rfl,ws3 w,?_⟩;rcases q with ⟨w',e,hw,x⟩ | ⟨n,x⟩
   ·cases e;rw [(tc1 w).1 hw];exact x μ2 (toExt e2)
   ·rw [(tc1 w).2 (n w rfl)];exact ⟨rfl,by decide,x μ2 (toExt e2)⟩
def encP (p:Pen):D:=.tup [.int p.1,.int p.2.1,.int p.2.2]
def encK (p:Pen):D:=.ktp [.int p.1,.int p.2.1,.int p.2.2]
def isP (d:D) (p:Pen):Prop:=d=encP p \/ d=encK p
theorem ud1 {h:Int} (hd:h=0 \/ h=1 \/ h=2 \/ h=3):atI [D.ktp [D.int 1,D.int 0],D.ktp [D.int 0,D.int 1],D.ktp [D.int (-1),D.int 0],D.ktp [D.int 0,D.int (-1)]] h=some (.ktp [.int (cs h),.int (sn h)]):=by
 rcases hd with rfl | rfl | rfl | rfl <;> rfl
theorem xr0 (h:Int) : -(2 ^ 64) < cs h /\ cs h < 2 ^ 64:=by unfold cs; split <;> (try split) <;> decide
theorem sp0 (h:Int) : -(2 ^ 64) < sn h /\ sn h < 2 ^ 64:=by unfold sn; split <;> (try split) <;> decide
variable {i:Int}
theorem xm1 {l:List D} {d:D} (e:atI l i=some d) (h:Q d μ):ixR (.ktp l) (.int i) μ Q:=by
 unfold ixR;simp only [e];exact h
def te2:Sp3:=λ ds μ Q=>∃ d e p q,ds=[d,e] /\ isP d p /\ isP e q /\ Hd p /\ Q (encP (led p q)) μ
theorem yd5:RdQ te2 zn4 si4:=by
 rintro ds μ Q ⟨d,e,p,q,rfl,h1,h2,hp,k⟩;have c1:CMul q.1 (cs p.2.2):=.inl (.inr (xr0 _));have c2:CMul q.2.1 (sn p.2.2):=.inl (.inr (sp0 _));have c3:CMul q.1 (sn p.2.2):=.inl (.inr (sp0 _));have c4:CMul q.2.1 (cs p.2.2):=.inl (.inr (xr0 _));have d1:(0:Int) < 4:=by decide
 have d2:3<=sizeLine:=by decide
 rcases h1 with rfl | rfl <;> rcases h2 with rfl | rfl <;>
 ·show ixR ui0 (.int p.2.2) μ (λ d μ1=>_);refine xm1 (ud1 hp) ?_;exact And.intro c1 (And.intro c2 (And.intro c3 (And.intro c4 (And.intro d1 (And.intro d2 k)))))
def to4:Sp3:=λ ds μ Q=>∃ d p n,ds=[d,.int n] /\ isP d p /\ Hd p /\ 0<=n /\ n<=G /\ p.1.natAbs < 2 ^ 1000 /\ p.2.1.natAbs < 2 ^ 1000 /\ ∀ e,isP e (rep p n)->Q e μ
theorem G_big (h0:0<=n) (h1:n<=G):n.natAbs < Big :=
 ws0 h0 (Int.le_trans h1 (xv0 (c:=1) (e:=0) [19])) [7] [7]
theorem wc5:RdQ to4 (zm4 te2) zi4:=by
 rintro ds μ Q ⟨d,p,n,rfl,hd,hp,h0,h1,b1,b2,k⟩
 have key:∀ d,(d=encP p \/ d=encK p)->p.2.2 ≠ 0->wb2 (λ _=>True) (gn3 3) (set3 2 (call3 te2 (cons3 (v3 2) [24]))) { nx:=ret3 (v3 2) { nx:=λ _ μ'=>Q .non μ',rt:=Q },rt:=Q } (rngD 0 (n % 4).toNat) [some d,some (.int n),some zg0,none] μ:=λ d hd e=>by
  refine sh0 (λ l ρ μ'=>μ'=μ /\ ∃ (i:Nat) (x:D) (dd:Option D),isP x (pw p i) /\ ρ=[some d,some (.int n),some x,dd] /\ i + l.length=(n % 4).toNat) ?_ (λ _ _ _ _=>trivial) ?_ ?_
  ·refine ⟨rfl,0,zg0,none,.inr rfl,rfl,?_⟩;simp [rngD]
  ·rintro ρ μ' ⟨rfl,i,x,dd,hx,rfl,e2⟩;have e3:i=(n % 4).toNat:=by simpa using e2
   rw [rep,if_neg e] at k;rw [e3] at hx;exact k x hx
  ·rintro y rest ρ μ' ⟨rfl,i,x,dd,hx,rfl,e2⟩;rw [length_cons] at e2;exact ⟨x,d,pw p i,p,rfl,hx,hd,zm1 p i,rfl,i + 1,_,some y,.inl rfl,rfl,by omega⟩
 have hm:0<=n % 4 /\ n % 4 < 4:=⟨by omega,by omega⟩;by_cases e:p.2.2=0
 ·rw [rep,if_pos e] at k;rcases hd with rfl | rfl <;>
  ·show if (decide (p.2.2=(0:Int)))=true then _ else _;rw [if_pos (decide_eq_true e)];exact ⟨.inr ⟨b1,G_big h0 h1⟩,.inr ⟨b2,G_big h0 h1⟩,show 3<=sizeLine by decide,k _ (.inl rfl)⟩
 ·rcases hd with rfl | rfl
  ·show if (decide (p.2.2=(0:Int)))=true then _ else _;rw [if_neg (λ h=>e (of_decide_eq_true h))];exact ⟨show (0:Int) < 4 by decide,⟨by omega,by omega⟩,key _ (.inl rfl) e⟩
  ·show if (decide (p.2.2=(0:Int)))=true then _ else _;rw [if_neg (λ h=>e (of_decide_eq_true h))];exact ⟨show (0:Int) < 4 by decide,⟨by omega,by omega⟩,key _ (.inr rfl) e⟩
def spPb (j:Nat):Sp3:=λ ds μ Q=>∃ w,ds=[.tup (encs w)] /\ deps w < j /\ deps w<=5 /\ cnts w<=60 /\ oks w /\ ∀ e,isP e (pb w)->Q e μ
def spPd (j:Nat):Sp3:=λ ds μ Q=>∃ d,ds=[enc d] /\ dep d < j /\ dep d<=5 /\ cnt d<=60 /\ okd d /\ ∀ e,isP e (pd d)->Q e μ
theorem vc5 (j:Nat):RdQ (spPd (j + 1)) (wm4 (spPb j) to4) wi4:=by
 rintro ds μ Q ⟨d,rfl,h1,h2,h2',h3,q⟩;cases d
 case go n=>exact And.intro Z1 (q _ (.inl rfl))
 case jump n=>exact And.intro Z1 (q _ (.inl rfl))
 case turn n=>exact And.intro (show (0:Int) < 4 by decide) (And.intro Z1 (q _ (.inl rfl)))
 case times n w =>
  simp only [okd,dep,cnt,pd] at h1 h2 h2' h3 q;obtain ⟨b1,b2⟩:=uh5 (yy3 w h3.2) [7] [7];exact ⟨w,rfl,by omega,by omega,by omega,h3.2,λ e he=>⟨e,pb w,n,rfl,he,wb1 w,h3.1.1,h3.1.2,b1,b2,q⟩⟩
theorem uc5 (j:Nat):RdQ (spPb j) (vm4 te2 (spPd j)) vi4:=by
 rintro ds μ Q ⟨w,rfl,h1,h2,h2',h3,q⟩;refine sh0 (λ l ρ μ'=>μ'=μ /\ ∃ (r:List Dd) (p:Pen) (x:D) (dd:Option D),l=encs r /\ isP x p /\ ρ=[some [69],some x,dd] /\ oks r /\ deps r<=deps w /\ cnts r<=cnts w /\ Hd p /\ led p (pb r)=pb w) ?_ (λ _ _ _ _=>trivial) ?_ ?_
 ·exact ⟨rfl,w,st,zg0,none,rfl,.inr rfl,rfl,h3,Nat.le_refl _,Nat.le_refl _,wm2,xp1 (wb1 w)⟩
 ·rintro ρ μ' ⟨rfl,r,p,x,dd,e,hx,rfl,_,_,_,hp,e2⟩;cases r with
  | nil =>
   simp only [pb] at e2;rw [yx0 hp] at e2;rw [e2] at hx;exact q x hx
  | cons _ _=>simp [encs] at e
 ·rintro y rest ρ μ' ⟨rfl,r,p,x,dd,e,hx,rfl,o,dp,cn,hp,e2⟩;cases r with
  | nil=>simp [encs] at e
  | cons d r =>
   simp only [encs,List.cons.injEq] at e;obtain ⟨rfl,rfl⟩:=e;simp only [oks,deps,cnts,pb] at o dp cn e2;refine ⟨d,rfl,by omega,by omega,by omega,o.1,λ e he=>⟨x,e,p,pd d,rfl,hx,he,hp,rfl,r,led p (pd d),encP (led p (pd d)),some (enc d),rfl,.inl rfl,rfl,o.2,by omega,by omega,sr1 _ _,?_⟩⟩;rw [yt0 _ hp (yb2 d o.1)];exact e2
def spSk (j:Nat):Sp3:=λ ds μ Q=>∃ w,ds=[.tup (encs w)] /\ deps w < j /\ deps w<=5 /\ cnts w<=60 /\ oks w /\ ∀ μ',Ext μ μ'->Q (.int (sks w)) μ'
def tr3 (j:Nat):Sp3:=λ ds μ Q=>∃ d,ds=[enc d] /\ dep d < j /\ dep d<=5 /\ cnt d<=60 /\ okd d /\ ∀ μ',Ext μ μ'->Q (.int (sk d)) μ'
theorem xe5 (j:Nat):RdQ (tr3 (j + 1)) (un4 (spSk j)) yj4:=by
 rintro ds μ Q ⟨d,rfl,h1,h2,h2',h3,q⟩;cases d
 case go n=>exact q _ [86]
 case jump n=>exact q _ [86]
 case turn n=>exact q _ [86]
 case times n w =>
  simp only [okd,dep,cnt,sk] at h1 h2 h2' h3 q;refine ⟨w,rfl,by omega,by omega,by omega,h3.2,λ μ' e=>?_⟩;obtain ⟨a,b⟩:=zf2 w h3.2;have hn:n<=bd 1 0:=Int.le_trans h3.1.2 (xv0 [19]);exact ⟨.inr ⟨ws0 h3.1.1 hn [7] [7],ws0 a b [7] [7]⟩,q μ' e⟩
theorem vt0:∀ (f:Dd->Int) (r:List Dd),ints? (r.map λ d=>D.int (f d))=some (r.map f)
 | f,[]=>rfl
 | f,d :: r=>by simp only [map_cons,ints?,vt0 f r]
theorem yf2:∀ w,(w.map sk).sum=sks w
 | []=>by simp [sks]
 | d :: r=>by simp only [map_cons,sum_cons,sks,yf2 r]
theorem ye5 (j:Nat):RdQ (spSk j) (xq3 (tr3 j)) zh3:=by
 rintro ds μ Q ⟨w,rfl,h1,h2,h2',h3,q⟩;simp only [xq3,ret3,call3,cons3,comp3,is3,v3,start3,map_cons,map_nil,zh3,length_cons,length_nil,Nat.zero_add,Nat.reduceSub,List.replicate,cons_append,nil_append,getI,nil3,sumR,Option.bind_none];intro p hp;have hl:=vk0 w;have hz:(100:Nat) < sizeLine:=by decide
 refine sd0 (rest:=[]) (λ d=>D.int (sk (dec d))) hp (by rw [ub0]; omega) (λ _ _=>trivial) (λ x hx μ' R e k=>?_) λ μ' e e2=>?_
 ·obtain ⟨d,hd,rfl⟩:=ua1 hx;obtain ⟨d1,d2,d3⟩:=xo0 hd h3;simp only [call3,cons3,v3,getI,nil3];refine ⟨d,rfl,by omega,by omega,by omega,d3,λ μ2 e2=>?_⟩;rw [vc1] at k;exact k μ2 e2
 ·simp only [e2,vl1,vt0,yf2];exact q μ' e
def spDn (j:Nat):Sp3:=λ ds μ Q=>∃ w,ds=[.tup (encs w)] /\ deps w < j /\ deps w<=5 /\ cnts w<=60 /\ oks w /\ ∀ μ',Ext μ μ'->Q (.int (dns w)) μ'
def zt2 (j:Nat):Sp3:=λ ds μ Q=>∃ d,ds=[enc d] /\ dep d < j /\ dep d<=5 /\ cnt d<=60 /\ okd d /\ ∀ μ',Ext μ μ'->Q (.int (dn d)) μ'
theorem ze5 (j:Nat):RdQ (zt2 (j + 1)) (tn4 (spDn j)) zj4:=by
 rintro ds μ Q ⟨d,rfl,h1,h2,h2',h3,q⟩;cases d
 case go n=>exact q _ [86]
 case jump n=>exact q _ [86]
 case turn n=>exact q _ [86]
 case times n w =>
  simp only [okd,dep,cnt,dn] at h1 h2 h2' h3 q;refine ⟨w,rfl,by omega,by omega,by omega,h3.2,λ μ' e=>?_⟩;obtain ⟨a,b⟩:=vs1 w h3.2;have hn:n<=bd 1 0:=Int.le_trans h3.1.2 (xv0 [19]);exact ⟨.inr ⟨ws0 h3.1.1 hn [7] [7],ws0 a b [7] [7]⟩,q μ' e⟩
theorem sn2:∀ w,(w.map dn).sum=dns w
 | []=>by simp [dns]
 | d :: r=>by simp only [map_cons,sum_cons,dns,sn2 r]
theorem we5 (j:Nat):RdQ (spDn j) (yq3 (zt2 j)) wh3:=by
 rintro ds μ Q ⟨w,rfl,h1,h2,h2',h3,q⟩;simp only [yq3,ret3,call3,cons3,comp3,is3,v3,start3,map_cons,map_nil,wh3,length_cons,length_nil,Nat.zero_add,Nat.reduceSub,List.replicate,cons_append,nil_append,getI,nil3,sumR,Option.bind_none];intro p hp;have hl:=vk0 w;have hz:(100:Nat) < sizeLine:=by decide
 refine sd0 (rest:=[]) (λ d=>D.int (dn (dec d))) hp (by rw [ub0]; omega) (λ _ _=>trivial) (λ x hx μ' R e k=>?_) λ μ' e e2=>?_
 ·obtain ⟨d,hd,rfl⟩:=ua1 hx;obtain ⟨d1,d2,d3⟩:=xo0 hd h3;simp only [call3,cons3,v3,getI,nil3];refine ⟨d,rfl,by omega,by omega,by omega,d3,λ μ2 e2=>?_⟩;rw [vc1] at k;exact k μ2 e2
 ·simp only [e2,vl1,vt0,sn2];exact q μ' e
def yj3 (XE:XE3):Sp3:=λ ds μ Q=>∃ d,ds=[d] /\ Gb XE μ d (λ w=>∀ μ',Ext μ μ'->Q (.int (sks w)) μ')
theorem sa5 (XE:XE3):RdQ (yj3 XE) (so3 XE vr0 (spSk 5)) yg3:=by
 rintro ds μ Q ⟨d,rfl,g⟩;simp only [so3,seq3,drop3,call3,cons3,v3,start3,map_cons,map_nil,yg3,length_cons,length_nil,Nat.zero_add,Nat.reduceSub,List.replicate,cons_append,nil_append,getI,nil3,ret3];refine g.chk λ w e hw r=>⟨w,by rw [e],by have:=hw.2.1; omega,by have:=hw.2.1; omega,by have:=hw.2.2; omega,hw.1,r⟩
def wj3 (XE:XE3):Sp3:=λ ds μ Q=>∃ d,ds=[d] /\ Gb XE μ d (λ w=>∀ μ',Ext μ μ'->Q (.int (dns w)) μ')
theorem sd5 (XE:XE3):RdQ (wj3 XE) (sp3 XE vr0 (spDn 5)) yh3:=by
 rintro ds μ Q ⟨d,rfl,g⟩;simp only [sp3,seq3,drop3,call3,cons3,v3,start3,map_cons,map_nil,yh3,length_cons,length_nil,Nat.zero_add,Nat.reduceSub,List.replicate,cons_append,nil_append,getI,nil3,ret3];refine g.chk λ w e hw r=>⟨w,by rw [e],by have:=hw.2.1; omega,by have:=hw.2.1; omega,by have:=hw.2.2; omega,hw.1,r⟩
def yp1 (XE:XE3):Sp3:=λ ds μ Q=>∃ d,ds=[d] /\ Gb XE μ d (λ w=>∀ μ',Ext μ μ'->Q (.bl (decide (sks w<=400 /\ dns w<=400))) μ')
theorem wd5 (XE:XE3):RdQ (yp1 XE) (wp3 XE wj3 yj3) ug3:=by
 rintro ds μ Q ⟨d,rfl,g⟩;simp only [wp3,ret3,andV3,o3,call3,cons3,v3,start3,map_cons,map_nil,ug3,length_cons,length_nil,Nat.zero_add,Nat.reduceSub,List.replicate,cons_append,nil_append,getI,nil3,c3,leR,int20,uc0,decide_eq_true_eq];cases g with
 | bad b x=>exact ⟨d,rfl,.bad b x⟩
 | good w e hw r =>
  refine ⟨d,rfl,.good w e hw λ μ1 e1=>?_⟩;simp only [];split
  ·next h1 =>
   refine ⟨d,rfl,.good w e hw λ μ2 e2=>?_⟩;have z:=r μ2 (e1.trans e2);simpa only [h1,true_and,Pv.seq3,Pv.next3,Pv.never3,Pv.brk3,Pv.cnt3,Pv.drop3,Pv.ret3,Pv.retN3,Pv.ifs3,Pv.gn3,Pv.gnil3,Pv.gcons3,Pv.gtup3,Pv.set3,Pv.asg3,Pv.par3,Pv.sub3,Pv.for3,Pv.is3,Pv.ir3,Pv.ir23,Pv.v3,Pv.c3,Pv.o3,Pv.un3,Pv.b3,Pv.and3,Pv.or3,Pv.not3,Pv.andV3,Pv.orV3,Pv.notV3,Pv.if3,Pv.nil3,Pv.cons3,Pv.tup3,Pv.lst3,Pv.call3,Pv.mt3,Pv.comp3,Pv.tt3,Pv.getI,set_cons_zero,set_cons_succ,Pv.int2,Pv.int20,Pv.subR,Pv.mulR,Pv.intR,Pv.sl3,Pv.np3,Pv.pt3,Pv.slR,Pv.modR,Pv.fdivR,Pv.powR,Pv.ltR,Pv.leR,Pv.gtR,Pv.geR,Pv.negR,Pv.addR,Pv.eqR_ii,Pv.eqR_ss,Pv.eqR_bb,Pv.eqR_is,Pv.neR_ii,Pv.neR_ss,Pv.neR_bb,Pv.inR,Pv.ixR,Pv.lenR,Pv.absR,Pv.tupR,Pv.sumR,Pv.tyN,Pv.isIn,Pv.isiR,Pv.appR,Pv.extR,Pv.smt3,Pv.joinR,Pv.splitR,Pv.startsR,Pv.pop3,Pv.lrev3,Pv.strR,Pv.start3,map_cons,map_nil,cons_append,nil_append,length_cons,length_nil,List.replicate,Pv.atI0,Pv.atI1,Pv.atI2,Nat.reduceAdd,Nat.reduceSub,Nat.zero_add,reduceIte,Pv.strs?,Bool.not_true,Bool.not_false,Bool.false_eq_true,if_false,if_true,decide_eq_true_eq,Bool.not_eq_true',decide_eq_false_iff_not,Pv.ixN0,Pv.ixN1,Pv.ixN2,true_and,and_true,Pv.cst0,Pv.cst1,Pv.cst2,Pv.cst3,Int.reduceEq,Option.bind_none,Option.bind_some,Pv.kn_go_jump,Pv.kn_go_turn,Pv.kn_go_times,Pv.kn_jump_go,Pv.kn_jump_turn,Pv.kn_jump_times,Pv.kn_turn_go,Pv.kn_turn_jump,Pv.kn_turn_times,Pv.kn_times_go,Pv.kn_times_jump,Pv.kn_times_turn,Pv.kp_go,Pv.kp_jump,Pv.kp_turn,Pv.kp_times,Pv.kz_go,Pv.kz_jump,Pv.kz_turn,Pv.kz_times] using z
  ·next h1 =>
   have z:=r μ1 e1;simpa only [h1,false_and,decide_false] using z
theorem xi0:∀ a b,encs (a ++ b)=encs a ++ encs b
 | [],b=>by simp [encs]
 | d :: r,b=>by simp only [cons_append,encs,xi0 r b]
mutual
def sm:Dd->Prop
 | .go n=>0<=n /\ n<=3
 | .jump n=>-3<=n /\ n<=3
 | .turn n=>-5<=n /\ n<=3
 | .times n w=>(0<=n /\ n<=4) /\ sms w
def sms:List Dd->Prop
 | []=>True
 | d :: r=>sm d /\ sms r
end
def vj3:Sp3:=λ ds μ Q=>∃ (ns:List Int) (k:Int),ds=[.fls (ns.map D.int),.int k] /\ 0<=k /\ ∀ i,Q (.int i) μ
theorem rd_q0:RdQ vj3 t_q0 N_q0:=by
 rintro ds μ Q ⟨ns,k,rfl,hk,q⟩;simp only [t_q0,seq3,ifs3,b3,o3,v3,start3,map_cons,map_nil,N_q0,length_cons,length_nil,Nat.zero_add,Nat.reduceAdd,Nat.reduceSub,List.replicate,cons_append,nil_append,getI,call3,cons3,nil3,lenR,ltR,int20,decide_eq_true_eq,ret3,ixR,next3,c3];split
 ·next h1 =>
  obtain ⟨d,hd,e⟩:=atI_in (l:=ns.map D.int) hk h1;obtain ⟨i,_,rfl⟩:=List.mem_map.mp hd;simp only [e];exact q i
 ·exact q 0
def wh0:Sp3:=λ ds μ Q=>∃ (ns:List Int) (k:Int),ds=[.fls (ns.map D.int),.int k] /\ 0<=k /\ ∀ a b p,0<=a->μ p=none->Q [43] (updM μ p (.lst [.int a,.bl b]))
theorem rd_q3:RdQ wh0 (t_q3 vj3) N_q3:=by
 rintro ds μ Q ⟨ns,k,rfl,hk,q⟩;simp only [t_q3,seq3,set3,call3,cons3,v3,start3,map_cons,map_nil,N_q3,length_cons,length_nil,Nat.zero_add,Nat.reduceAdd,Nat.reduceSub,List.replicate,cons_append,nil_append,getI,nil3,ifs3,b3,o3,set_cons_succ,set_cons_zero,c3,powR,int2,geR,int20,decide_eq_true_eq,ret3,lst3,subR,next3,modR];refine ⟨ns,k,rfl,hk,λ i=>?_⟩;simp only [];refine ⟨⟨by decide,by decide,by decide⟩,?_⟩;have e:((10:Int) ^ (18:Int).toNat)=1000000000000000000:=by decide
 simp only [e];split
 ·next h1=>exact ⟨⟨by decide,by decide,by decide⟩,by decide,λ p hp=>q _ _ p [7] hp⟩
 ·exact ⟨by decide,by decide,λ p hp=>q _ _ p (Int.emod_nonneg _ [8]) hp⟩
def wd0:Sp3:=λ ds μ Q=>∃ (p:Addr) (m a:Int) (b:Bool) (rest:List D),ds=[.ref p,.int m] /\ 0 < m /\ m < 2 ^ 120 /\ μ p=some (.lst (.int a :: .bl b :: rest)) /\ 0<=a ∧
 ∀ r a',0<=r->r < m->0<=a'->Q (.int r) (updM μ p (.lst (.int a' :: .bl b :: rest)))
theorem rd_q1:RdQ wd0 t_q1 N_q1:=by
 rintro ds μ Q ⟨p,m,a,b,rest,rfl,h1,h2,h3,h4,q⟩;simp only [t_q1,seq3,ifs3,b3,o3,v3,start3,map_cons,map_nil,N_q1,length_cons,length_nil,Nat.zero_add,Nat.reduceAdd,Nat.reduceSub,List.replicate,cons_append,nil_append,getI,c3,ixR,h3,atI1,set3,atI0,modR,int2,asg3,set_cons_succ,set_cons_zero,fdivR,sub3,ixN0,ret3,next3,mulR,addR];split
 ·refine ⟨h1,⟨h1,h2⟩,?_⟩;exact q _ _ (Int.emod_nonneg _ [7]) (Int.emod_lt_of_pos _ h1) (Int.ediv_nonneg h4 [7])
 ·refine ⟨.inl (.inr [8]),by decide,?_⟩;simp only [ya0,atI0];have n1:=Int.emod_nonneg (a * 48271 + 29) (show (2147483647:Int) ≠ 0 by decide);have n2:=Int.emod_lt_of_pos (a * 48271 + 29) (show (0:Int) < 2147483647 by decide);generalize (a * 48271 + 29) % 2147483647=c at n1 n2 ⊢;refine ⟨.inl (.inl [7]),.inl (.inl [8]),by decide,?_⟩;have n3:=Int.emod_nonneg (c * c + 39373 * c + 7) (show (2147483629:Int) ≠ 0 by decide);have n4:=Int.emod_lt_of_pos (c * c + 39373 * c + 7) (show (0:Int) < 2147483629 by decide);generalize (c * c + 39373 * c + 7) % 2147483629=e at n3 n4 ⊢;refine ⟨.inl (.inl [7]),.inl (.inl [8]),by decide,⟨by decide,by decide⟩,h1,?_⟩;exact q _ _ (Int.emod_nonneg _ [7]) (Int.emod_lt_of_pos _ h1) n1
mutual
def unr:Dd->List Dd
 | .times n w=>(List.replicate n.toNat (unrs w)).flatten
 | .go n=>[.go n]
 | .jump n=>[.jump n]
 | .turn n=>[.turn n]
def unrs:List Dd->List Dd
 | []=>[]
 | d :: r=>unr d ++ unrs r
end
def plns (w:List Dd):Prop:=∀ d ∈ w,∃ n,d=.go n \/ d=.jump n \/ d=.turn n
theorem vg2 {α:Type} {x:α} {w:List α}:∀ {k:Nat},x ∈ (List.replicate k w).flatten->x ∈ w
 | 0,h=>by simp at h
 | k + 1,h=>by
  rw [replicate_succ,flatten_cons,mem_append] at h;rcases h with h | h
  ·exact h
  ·exact vg2 h
mutual
theorem zo3:∀ d,plns (unr d)
 | .go n=>by intro e h; simp only [unr,mem_singleton] at h; exact ⟨n,.inl h⟩
 | .jump n=>by intro e h; simp only [unr,mem_singleton] at h; exact ⟨n,.inr (.inl h)⟩
 | .turn n=>by intro e h; simp only [unr,mem_singleton] at h; exact ⟨n,.inr (.inr h)⟩
 | .times n w=>by intro e h; simp only [unr] at h; exact wp0 w e (vg2 h)
theorem wp0:∀ w,plns (unrs w)
 | []=>by intro e h; simp [unrs] at h
 | d :: r=>by
  intro e h;simp only [unrs,mem_append] at h;rcases h with h | h
  ·exact zo3 d e h
  ·exact wp0 r e h
end
theorem xj2 (w:List Dd) (h:oks w):∀ k:Nat,oks (List.replicate k w).flatten /\ pb (List.replicate k w).flatten=pw (pb w) k
 | 0=>by simp [oks,pb,pw]
 | k + 1=>by
  obtain ⟨a1,a2⟩:=xj2 w h k;rw [replicate_succ,flatten_cons];refine ⟨(un0 _ _).mpr ⟨h,a1⟩,?_⟩;rw [sr0 _ _ h,a2];have:=xq1 (p:=pb w) (wb1 w) 1 k;rw [yg5 (wb1 w),Nat.add_comm] at this;exact this.symm
mutual
theorem tj4:∀ d,okd d->oks (unr d) /\ pb (unr d)=pd d
 | .go n,h=>by simp only [unr,oks,pb,and_true]; exact ⟨h,yx0 (yb2 _ h)⟩
 | .jump n,h=>by simp only [unr,oks,pb,and_true]; exact ⟨h,yx0 (yb2 _ h)⟩
 | .turn n,h=>by simp only [unr,oks,pb,and_true]; exact ⟨h,yx0 (yb2 _ h)⟩
 | .times n w,h=>by
  simp only [okd] at h;obtain ⟨a,b⟩:=sy0 w h.2;obtain ⟨a1,a2⟩:=xj2 _ a n.toNat;simp only [unr,pd];exact ⟨a1,by rw [a2,b,xk3 (wb1 w) h.1.1]⟩
theorem sy0:∀ w,oks w->oks (unrs w) /\ pb (unrs w)=pb w
 | [],h=>by simp only [unrs,oks,pb,and_self]
 | d :: r,h=>by
  simp only [oks] at h;obtain ⟨a1,a2⟩:=tj4 d h.1;obtain ⟨b1,b2⟩:=sy0 r h.2;simp only [unrs,pb];exact ⟨(un0 _ _).mpr ⟨a1,b1⟩,by rw [sr0 _ _ a1,a2,b2]⟩
end
theorem yr1 {α:Type} (w:List α):∀ k:Nat,(List.replicate k w).flatten.length=k * w.length
 | 0=>by simp
 | k + 1=>by rw [replicate_succ,flatten_cons,length_append,yr1 w k,Nat.add_mul]; omega
theorem xu0 (w:List Dd):∀ k:Nat,encs (List.replicate k w).flatten=(List.replicate k (encs w)).flatten
 | 0=>by simp [encs]
 | k + 1=>by rw [replicate_succ,flatten_cons,xi0,xu0 w k,replicate_succ,flatten_cons]
theorem z2:2<=sizeLine:=by decide
theorem z3:3<=sizeLine:=by decide
def encQ (p:Int × Int):D:=.tup [.int p.1,.int p.2]
def mnP (p q:Int × Int):Int × Int:=if ltP q.1 q.2 p.1 p.2=true then q else p
def btw (p q:Int × Int):T3:=((mnP p q).1,(mnP p q).2,if p.2=q.2 then 0 else 1)
def xp4:Sp3:=λ ds μ Q=>∃ p q,ds=[encQ p,encQ q] /\ Q (encT (btw p q)) μ
theorem mn_eq (p q:Int × Int) (μ:Mu) (K:VK3):mnR [.tup [.int p.1,.int p.2],.tup [.int q.1,.int q.2]] μ K=K (encQ (mnP p q)) μ:=by
 rw [mnR_pp];unfold mnP;split <;> rfl
theorem zb5:RdQ xp4 yp3 wg3:=by
 rintro ds μ Q ⟨p,q,rfl,k⟩;unfold btw at k;simp only [yp3,seq3,set3,call3,cons3,v3,start3,encQ,map_cons,map_nil,wg3,length_cons,length_nil,Nat.zero_add,Nat.reduceAdd,Nat.reduceSub,List.replicate,cons_append,nil_append,getI,nil3,ret3,tup3,o3,set_cons_succ,set_cons_zero,c3,ixR,if3,b3,atI1,eqR_ii,decide_eq_true_eq,mn_eq,atI0];by_cases c:p.2=q.2
 ·rw [if_pos c] at k ⊢; exact ⟨z3,k⟩
 ·rw [if_neg c] at k ⊢; exact ⟨z3,k⟩
theorem tup_l {l:List D} (h:μ p=some (.lst l)) (k:Q (.tup l) μ):tupR [.ref p] μ Q:=by
 unfold tupR;simp only [h];exact k
variable {K:VK3}
theorem vj0 {l:List D} {d:D} (h:μ p=some (.lst l)) (e:atI l i=some d) (k:K d μ):ixR [43] (.int i) μ K:=by
 unfold ixR;simp only [h,e];exact k
abbrev Pt:=Int × Int
def gp (t:List Pt) (i:Nat):Pt:=t.getD i (0,0)
theorem at_q {t:List Pt} (h0:0<=i) (h1:i < t.length):atI (t.map encQ) i=some (encQ (gp t i.toNat)):=by
 have h2:i.toNat < t.length:=by omega
 unfold atI ixN gp;rw [if_pos h0,if_pos (by rw [length_map]; omega)];simp [getElem?_eq_getElem h2]
theorem wl1 {lo:Int} {n:Nat} {x:D} (h:x ∈ rngD lo n):∃ i:Nat,i < n /\ x=.int (lo + i):=by
 unfold rngD at h;obtain ⟨i,hi,rfl⟩:=List.mem_map.mp h;exact ⟨i,List.mem_range.mp hi,rfl⟩
def gI (g:Pt->Pt->D) (t:List Pt) (d:D):D:=match d with
 | .int i=>g (gp t (i - 1).toNat) (gp t i.toNat)
 | _=>.non
theorem gI_map (g:Pt->Pt->D) (t:List Pt) (n:Nat):(rngD 1 n).map (gI g t)=(List.range n).map λ i=>g (gp t i) (gp t (i + 1)):=by
 unfold rngD;rw [map_map];apply map_congr_left;intro i _;show g (gp t (1 + (i:Int) - 1).toNat) (gp t (1 + (i:Int)).toNat)=_;rw [show (1 + (i:Int) - 1).toNat=i by omega,show (1 + (i:Int)).toNat=i + 1 by omega]
variable {q:Addr}
theorem td3 {sp:Sp3} {t:List Pt} {o:Option D} (g:Pt->Pt->D) (hq:μ q=some (.lst (t.map encQ))) (hl:t.length < 1000) (hp:μ p=none)
    (hx:∀ a b μ' (R:VK3),R (g a b) μ'->sp [encQ a,encQ b] μ' R) (hQ:∀ μ',Ext μ μ'->μ' p=some (.lst ((List.range (t.length - 1)).map λ i=>g (gp t i) (gp t (i + 1))))->Q [43] μ') :
    xq2 (λ _=>True) p (gn3 0) tt3 (call3 sp (cons3 (o3 ixR (v3 1) (o3 subR (v3 0) [30])) (cons3 (o3 ixR (v3 1) (v3 0)) nil3))) Q (rngD 1 (((t.map encQ).length:Int) - 1).toNat) [o,some (.ref q)] (updM μ p (.lst [])):=by
 have z:(1000:Nat) < sizeLine:=by decide
 have en:(((t.map encQ).length:Int) - 1).toNat=t.length - 1:=by rw [length_map]; omega
 rw [en];refine sd0 (rest:=[some (.ref q)]) (gI g t) hp (by rw [wq0]; omega) (λ _ _=>trivial) ?_ ?_
 ·intro x hx0 μ2 R ex kk;obtain ⟨i,hi,rfl⟩:=wl1 hx0;show ixR (.ref q) (.int (1 + (i:Int) - 1)) μ2 (λ d μ1=>ixR (.ref q) (.int (1 + (i:Int))) μ1 (λ e μ3=>sp [d,e] μ3 R));refine vj0 (ex _ _ hq) (at_q (i:=1 + (i:Int) - 1) [7] [7]) ?_;refine vj0 (ex _ _ hq) (at_q (i:=1 + (i:Int)) [7] [7]) ?_;exact hx _ _ _ _ (kk μ2 [86])
 ·intro μ2 ex ep;rw [gI_map] at ep;exact hQ μ2 ex ep
def vf3 (t:List Pt):List T3:=(List.range (t.length - 1)).map λ i=>btw (gp t i) (gp t (i + 1))
def spAl:Sp3:=λ ds μ Q=>∃ (q:Addr) (t:List Pt),ds=[.ref q] /\ μ q=some (.lst (t.map encQ)) /\ t.length < 1000 /\ ∀ r μ',Ext μ μ'->μ r=none->μ' r=some (.lst ((vf3 t).map encT))->Q (.ref r) μ'
theorem yb5:RdQ spAl (xp3 xp4) zg3:=by
 rintro ds μ Q ⟨q,t,rfl,hq,hl,k⟩;simp only [xp3,ret3,comp3,ir23,cons3,c3,call3,v3,start3,map_cons,map_nil,zg3,length_cons,length_nil,Nat.zero_add,Nat.reduceSub,List.replicate,cons_append,nil_append,getI,nil3,lenR,hq,subR,Option.bind_none,Option.bind_some];refine ⟨⟨by decide,by decide,by rw [length_map]; omega,by rw [length_map]; omega⟩,λ p hp=>?_⟩;refine td3 (λ a b=>encT (btw a b)) hq hl hp (λ a b μ' R r=>⟨a,b,rfl,r⟩) λ μ' ex ep=>?_;exact k p μ' ex hp (by rw [ep]; unfold vf3; rw [map_map]; rfl)
def pt (p:Pen) (i:Nat):Pt:=(p.1 + cs p.2.2 * (i:Int),p.2.1 + sn p.2.2 * (i:Int))
def ln (p:Pen) (n:Nat):List T3:=(List.range n).map λ i=>btw (pt p i) (pt p (i + 1))
theorem wt1 (p:Pen) (n:Nat):vf3 ((List.range (n + 1)).map (pt p))=ln p n:=by
 unfold vf3 ln;rw [length_map,length_range,Nat.add_sub_cancel];apply map_congr_left;intro i hi;have hi':=List.mem_range.mp hi;unfold gp;rw [getD_eq_getElem?_getD,getD_eq_getElem?_getD,getElem?_map,getElem?_map,List.getElem?_range [7],List.getElem?_range [7]];rfl
theorem vk2 (p:Pen) (n:Nat):(ln p n).length=n:=by simp [ln]
def fP (p:Pen) (d:D):D:=match d with
 | .int i=>encQ (p.1 + cs p.2.2 * i,p.2.1 + sn p.2.2 * i)
 | _=>.non
theorem xm3 (p:Pen) (n:Nat):(rngD 0 n).map (fP p)=((List.range n).map (pt p)).map encQ:=by
 unfold rngD;rw [map_map,map_map];apply map_congr_left;intro i _;show encQ (p.1 + cs p.2.2 * (0 + (i:Int)),p.2.1 + sn p.2.2 * (0 + (i:Int)))=encQ (pt p i);rw [Int.zero_add];rfl
def spGo:Sp3:=λ ds μ Q=>∃ (x:D) (p:Pen) (n:Int),ds=[x,.int n] /\ isP x p /\ Hd p /\ 0<=n /\ n<=400 /\ ∀ r μ',Ext μ μ'->μ r=none->μ' r=some (.lst ((ln p n.toNat).map encT))->Q (.ref r) μ'
theorem ua5:RdQ spGo (tk4 spAl) sg4:=by
 rintro ds μ Q ⟨x,p,n,rfl,hx,hp,h0,h1,q⟩;have hz:(1000:Nat) < sizeLine:=by decide
 rcases hx with rfl | rfl
 ·show ixR ui0 (.int p.2.2) μ _;refine xm1 (ud1 hp) ?_;refine ⟨⟨by omega,by omega⟩,λ r hr=>?_⟩;refine sd0 (rest:=[some (encP p),some (.ktp [.int (cs p.2.2),.int (sn p.2.2)])]) (fP p) hr (by rw [wq0]; omega) (λ _ _=>trivial) ?_ ?_
  ·intro x hx μ2 R ex kk;obtain ⟨i,hi,rfl⟩:=wl1 hx;exact ⟨.inl (.inl (xr0 _)),.inl (.inl (sp0 _)),z2,kk μ2 [86]⟩
  ·intro μ2 ex ep;rw [xm3,show (n + 1).toNat=n.toNat + 1 by omega] at ep;refine ⟨r,_,rfl,ep,by rw [length_map,length_range]; omega,λ g μ3 ex3 hg eg=>?_⟩;rw [wt1] at eg;exact q g μ3 (ex.trans ex3) (ex.free hg) eg
 ·show ixR ui0 (.int p.2.2) μ _;refine xm1 (ud1 hp) ?_;refine ⟨⟨by omega,by omega⟩,λ r hr=>?_⟩;refine sd0 (rest:=[some (encK p),some (.ktp [.int (cs p.2.2),.int (sn p.2.2)])]) (fP p) hr (by rw [wq0]; omega) (λ _ _=>trivial) ?_ ?_
  ·intro x hx μ2 R ex kk;obtain ⟨i,hi,rfl⟩:=wl1 hx;exact ⟨.inl (.inl (xr0 _)),.inl (.inl (sp0 _)),z2,kk μ2 [86]⟩
  ·intro μ2 ex ep;rw [xm3,show (n + 1).toNat=n.toNat + 1 by omega] at ep;refine ⟨r,_,rfl,ep,by rw [length_map,length_range]; omega,λ g μ3 ex3 hg eg=>?_⟩;rw [wt1] at eg;exact q g μ3 (ex.trans ex3) (ex.free hg) eg
mutual
theorem wi3:∀ d,okd d->((unr d).length:Int)=dn d
 | .go n,_=>by simp [unr,dn]
 | .jump n,_=>by simp [unr,dn]
 | .turn n,_=>by simp [unr,dn]
 | .times n w,h=>by
  have h':(0<=n /\ n<=G) /\ oks w:=by simpa [okd] using h
  have i:=vp0 w h'.2;simp only [unr,dn,yr1];rw [Int.natCast_mul,i,Int.toNat_of_nonneg h'.1.1]
theorem vp0:∀ w,oks w->((unrs w).length:Int)=dns w
 | [],_=>by simp [unrs,dns]
 | d :: r,h=>by
  have h':okd d /\ oks r:=by simpa [oks] using h
  simp only [unrs,dns,length_append];rw [Int.natCast_add,wi3 d h'.1,vp0 r h'.2]
end
theorem vp1 (w:List Dd):∀ k:Nat,sks (List.replicate k w).flatten=(k:Int) * sks w
 | 0=>by simp [sks]
 | k + 1=>by
  rw [replicate_succ,flatten_cons,tm0,vp1 w k,Int.natCast_add,Int.add_mul];omega
mutual
theorem uj4:∀ d,okd d->sks (unr d)=sk d
 | .go n,_=>by simp [unr,sks,sk]
 | .jump n,_=>by simp [unr,sks,sk]
 | .turn n,_=>by simp [unr,sks,sk]
 | .times n w,h=>by
  have h':(0<=n /\ n<=G) /\ oks w:=by simpa [okd] using h
  simp only [unr,sk];rw [vp1,zp0 w h'.2,Int.toNat_of_nonneg h'.1.1]
theorem zp0:∀ w,oks w->sks (unrs w)=sks w
 | [],_=>by simp [unrs]
 | d :: r,h=>by
  have h':okd d /\ oks r:=by simpa [oks] using h
  simp only [unrs,sks];rw [tm0,uj4 d h'.1,zp0 r h'.2]
end
def spPl (j:Nat):Sp3:=λ ds μ Q=>∃ (w:List Dd),ds=[.tup (encs w)] /\ deps w < j /\ deps w < 5 /\ cnts w<=60 /\ oks w /\ dns w<=400 /\ ∀ p μ',Ext μ μ'->μ p=none->μ' p=some (.lst (encs (unrs w)))->Q [43] μ'
theorem app_l {l:List D} {d:D} (h1:μ p=some (.lst l)) (hl:l.length < sizeLine) (k:Q .non (updM μ p (.lst (l ++ [d])))):appR [43] [d] μ Q:=by
 unfold appR;simp only [h1];exact ⟨hl,k⟩
theorem dns_nn (w:List Dd) (h:oks w):0<=dns w:=(vs1 w h).1
theorem xc5 (j:Nat):RdQ (spPl (j + 1)) (sl4 (zt2 5) (spPl j)) sh4:=by
 rintro ds μ Q ⟨w,rfl,h1,h2,h3,h4,h5,q⟩;have hz:(1000:Nat) < sizeLine:=by decide
 have lw:=vp0 w h4;refine ⟨Nat.zero_le _,λ f hf=>?_⟩;refine sh0 (λ l ρ μ'=>∃ (r acc:List Dd) (o:Option D),l=encs r /\ ρ=[some [69],some (.ref f),o] /\ Ext μ μ' /\ μ' f=some (.lst (encs acc)) /\ acc ++ unrs r=unrs w /\ deps r<=deps w /\ cnts r<=cnts w /\ oks r) ?_ (λ _ _ _ _=>trivial) ?_ ?_
 ·exact ⟨w,[],none,rfl,rfl,Ext.new hf,by rw [ya0]; simp [encs],by simp,Nat.le_refl _,Nat.le_refl _,h4⟩
 ·rintro ρ μ' ⟨r,acc,o,e,rfl,ex,ef,ea,_⟩;cases r with
  | nil =>
   simp only [unrs,append_nil] at ea;subst ea;exact q f μ' ex hf ef
  | cons _ _=>simp [encs] at e
 ·rintro x rest ρ μ' ⟨r,acc,o,e,rfl,ex,ef,ea,r1,r2,r3⟩;cases r with
  | nil=>simp [encs] at e
  | cons d r =>
   simp only [encs,List.cons.injEq] at e;obtain ⟨rfl,rfl⟩:=e;simp only [deps,cnts,oks,unrs] at r1 r2 r3 ea
   have la:acc.length + (unr d).length<=400:=by
    have:=congrArg List.length ea;simp only [length_append] at this;omega
   have exu:∀ {μ2:Mu} {v:MO},Ext μ μ2->Ext μ (updM μ2 f v):=λ e g o hg=>by
    rw [za0 (ua0 hg hf)]; exact e g o hg
   have plain:unr d=[d]->appR (.ref f) [enc d] μ' (λ _ μ2=>∃ (r' acc':List Dd) (o':Option D),encs r=encs r' /\ [some [69],some (.ref f),some (enc d)]=[some [69],some (.ref f),o'] /\ Ext μ μ2 /\ μ2 f=some (.lst (encs acc')) /\ acc' ++ unrs r'=unrs w /\ deps r'<=deps w /\ cnts r'<=cnts w /\ oks r'):=λ hu=>by
    refine app_l ef (by rw [ub0]; omega) ⟨r,acc ++ [d],_,rfl,rfl,exu ex,?_,?_,by omega,by omega,r3.2⟩
    ·rw [ya0,xi0]; simp only [encs]
    ·rw [<- ea,hu]; simp
   cases d with
   | go n => conv=>whnf
             rw [ef];exact plain (by simp only [unr])
   | jump n => conv=>whnf
               rw [ef];exact plain (by simp only [unr])
   | turn n => conv=>whnf
               rw [ef];exact plain (by simp only [unr])
   | times n v =>
    have r1':=r1;simp only [okd,dep,cnt] at r1 r2 r3;refine ⟨.times n v,rfl,by simp only [dep]; omega,by simp only [dep]; omega,by simp only [cnt]; omega,by simp only [okd]; exact r3.1,λ μ2 ex2=>?_⟩;have ld:=wi3 (.times n v) (by simp only [okd]; exact r3.1);have lv:=vp0 v r3.1.2;by_cases c:0 < dn (.times n v)
    ·show if (decide (0 < dn (.times n v)))=true then _ else _;rw [if_pos (decide_eq_true c)];simp only [dn] at c ld;have vn:=dns_nn v r3.1.2
     have n1:1<=n:=by
      rcases Int.lt_or_le 0 n with z | z
      ·omega
      ·exfalso;have:n * dns v<=0:=Int.mul_nonpos_of_nonpos_of_nonneg z vn;omega
     have v1:1<=dns v:=by
      rcases Int.lt_or_le 0 (dns v) with z | z
      ·omega
      ·exfalso;have z0:dns v=0:=by omega
       rw [z0,Int.mul_zero] at c;omega
     have nv:n * dns v<=400:=by omega
     have n4:n<=400:=Int.le_trans (by have:=Int.mul_le_mul_of_nonneg_left v1 (show 0<=n by omega); omega) nv;have v4:dns v<=400:=Int.le_trans (by have:=Int.mul_le_mul_of_nonneg_right n1 vn; omega) nv;have ef2:=ex2 _ _ ef
     conv=>whnf
     rw [ef2];refine ⟨v,rfl,by omega,by omega,by omega,r3.1.2,v4,λ g μ3 ex3 hg eg=>?_⟩
     conv=>whnf
     rw [eg];refine ⟨⟨⟨by omega,by omega⟩,?_⟩,λ t ht=>?_⟩
     ·have:(encs (unrs v)).length * n.toNat<=400 * 400:=Nat.mul_le_mul (by rw [ub0]; omega) [7];omega
     have ef3:=ex3 _ _ ef2;have hft:f ≠ t:=ua0 ef3 ht;have e4:updM μ3 t [78] f=some (.lst (encs acc)):=by rw [za0 hft]; exact ef3
     have e5:updM μ3 t [78] t=some [78]:=ya0;have x4:Ext μ (updM μ3 t [78]):=(ex.trans ex2).trans (ex3.trans (Ext.new ht));generalize updM μ3 t [78]=μ4 at e4 e5 x4
     conv=>whnf
     rw [e4,e5];refine ⟨?_,r,acc ++ unr (.times n v),_,rfl,rfl,exu x4,?_,by rw [<- ea]; simp,by omega,by omega,r3.2⟩
     ·rw [<- xu0,ub0,ub0];simp only [unr] at la;omega
     ·rw [ya0,xi0,<- xu0]; simp only [unr]
    ·show if (decide (0 < dn (.times n v)))=true then _ else _;rw [if_neg (λ e=>c (of_decide_eq_true e))];have u0:unr (.times n v)=[]:=List.eq_nil_of_length_eq_zero [7];rw [u0,nil_append] at ea;exact ⟨r,acc,_,rfl,rfl,ex.trans ex2,ex2 _ _ ef,ea,by omega,by omega,r3.2⟩
def sg (p:Pen):Dd->List T3
 | .go n=>ln p n.toNat
 | _=>[]
def wk:Pen->List Dd->List T3
 | _,[]=>[]
 | p,d :: r=>sg p d ++ wk (led p (pd d)) r
theorem vc2:∀ (w:List Dd) (p:Pen),plns w->oks w->((wk p w).length:Int)=sks w
 | [],p,_,_=>by simp [wk,sks]
 | d :: r,p,h,o=>by
  have o':okd d /\ oks r:=by simpa [oks] using o
  have i:=vc2 r (led p (pd d)) (λ x hx=>h x (mem_cons_of_mem _ hx)) o'.2;simp only [wk,sks,length_append];rw [Int.natCast_add,i];obtain ⟨n,e⟩:=h d (mem_cons_self ..);rcases e with rfl | rfl | rfl
  ·have:0<=n:=by have:=o'.1; simp only [okd] at this; exact this.1
   simp only [sg,sk,vk2];omega
  ·simp [sg,sk]
  ·simp [sg,sk]
def spSf:Sp3:=λ ds μ Q=>∃ (x0:D) (p:Pen) (w:List Dd),ds=[x0,.tup (encs w)] /\ isP x0 p /\ Hd p /\ Wd w /\ dns w<=400 /\ sks w<=400 /\ ∀ g μ',Ext μ μ'->μ g=none->μ' g=some (.lst ((wk p (unrs w)).map encT))->Q (.ref g) μ'
theorem ta5:RdQ spSf (sk4 te2 (spPd 5) (spPl 5) spGo) xh4:=by
 rintro ds μ Q ⟨x0,p,w,rfl,hx0,hp0,hw,hd,hs,q⟩;have hz:(1000:Nat) < sizeLine:=by decide
 refine ⟨Nat.zero_le _,λ g hg=>?_⟩;refine ⟨w,rfl,by have:=hw.2.1; omega,by have:=hw.2.1; omega,by have:=hw.2.2; omega,hw.1,hd,λ f μ1 ex1 hf ef=>?_⟩;have gf:f ≠ g:=λ z=>by subst z; rw [ya0] at hf; cases hf
 have ou:=(sy0 w hw.1).1;have pu:=wp0 w;have tot:((wk p (unrs w)).length:Int)<=400:=by rw [vc2 _ _ pu ou,zp0 w hw.1]; exact hs
 conv=>whnf
 rw [ef];refine sh0 (λ l ρ μ'=>∃ (r:List Dd) (c:Pen) (y:D) (L:List T3) (o:Option D),l=encs r /\ isP y c /\ ρ=[some x0,some [69],some (.ref g),some y,o] /\ Ext μ μ' /\ μ' f=some (.lst (encs (unrs w))) /\ μ' g=some (.lst (L.map encT)) /\ L ++ wk c r=wk p (unrs w) /\ plns r /\ oks r /\ Hd c) ?_ ?_ ?_ ?_
 ·exact ⟨unrs w,p,x0,[],none,rfl,hx0,rfl,(Ext.new hg).trans ex1,ef,ex1 _ _ ya0,by simp,pu,ou,hp0⟩
 ·rintro l ρ μ' ⟨r,c,y,L,o,_,_,_,_,ef',_⟩;exact ef'
 ·rintro ρ μ' ⟨r,c,y,L,o,e,hy,rfl,ex,ef',eg,ea,_⟩;cases r with
  | nil =>
   simp only [wk,append_nil] at ea;subst ea;exact q g μ' ex hg eg
  | cons _ _=>simp [encs] at e
 ·rintro x rest ρ μ' ⟨r,c,y,L,o,e,hy,rfl,ex,ef',eg,ea,pr,oo,hc⟩;cases r with
  | nil=>simp [encs] at e
  | cons d r =>
   simp only [encs,List.cons.injEq] at e;obtain ⟨rfl,rfl⟩:=e;simp only [oks] at oo;have pr':plns r:=λ x hx=>pr x (mem_cons_of_mem _ hx)
   have ll:L.length + (sg c d).length<=400:=by
    have:=congrArg List.length ea;simp only [wk,length_append] at this;omega
   have nxt:∀ (L':List T3) μ2,L'=L ++ sg c d->Ext μ μ2->μ2 f=some (.lst (encs (unrs w)))->μ2 g=some (.lst (L'.map encT))->∃ (r':List Dd) (c':Pen) (y':D) (L':List T3) (o':Option D),encs r=encs r' /\ isP y' c' /\ [some x0,some [69],some (.ref g),some (encP (led c (pd d))),some (enc d)]=[some x0,some [69],some (.ref g),some y',o'] /\ Ext μ μ2 /\ μ2 f=some (.lst (encs (unrs w))) /\ μ2 g=some (.lst (L'.map encT)) /\ L' ++ wk c' r'=wk p (unrs w) /\ plns r' /\ oks r' /\ Hd c':=by
    intro L' μ2 eL e1 e2 e3;exact ⟨r,led c (pd d),_,L',_,rfl,.inl rfl,rfl,e1,e2,e3,by rw [eL,<- ea]; simp only [wk,append_assoc],pr',oo.2,sr1 _ _⟩
   obtain ⟨n,hn⟩:=pr d (mem_cons_self ..);have dd:dep d=0 /\ cnt d=1:=by rcases hn with rfl | rfl | rfl <;> exact ⟨by simp only [dep],by simp only [cnt]⟩
   rcases hn with rfl | rfl | rfl
   ·have n0:0<=n:=by have:=oo.1; simp only [okd] at this; exact this.1
    simp only [sg,vk2] at ll
    conv=>whnf
    rw [eg];refine ⟨y,c,n,rfl,hy,hc,n0,by omega,λ t μ2 ex2 ht et=>?_⟩;have eg2:=ex2 _ _ eg;have ef2:=ex2 _ _ ef'
    conv=>whnf
    rw [eg2,et];refine ⟨by rw [length_map,length_map,vk2]; omega,?_⟩;refine ⟨.go n,rfl,by omega,by omega,by omega,oo.1,λ e he=>?_⟩;refine ⟨y,e,c,_,rfl,hy,he,hc,nxt (L ++ ln c n.toNat) _ rfl ?_ ?_ ?_⟩
    ·intro a b hab;rw [za0 (ua0 hab hg)];exact ex2 _ _ (ex _ _ hab)
    ·rw [za0 gf]; exact ef2
    ·rw [ya0,map_append]
   ·refine ⟨.jump n,rfl,by omega,by omega,by omega,oo.1,λ e he=>⟨y,e,c,_,rfl,hy,he,hc,nxt L _ (by simp [sg]) ex ef' eg⟩⟩
   ·refine ⟨.turn n,rfl,by omega,by omega,by omega,oo.1,λ e he=>⟨y,e,c,_,rfl,hy,he,hc,nxt L _ (by simp [sg]) ex ef' eg⟩⟩
theorem sb_of {ts:List T3} (h:ts.length<=62):SB ts:=λ l nd hl=>by
 have:=List.Nodup.length_le_of_subset nd hl;omega
def IsPic (L us:List T3):Prop:=us.Nodup /\ ∀ x,x ∈ us ↔ x ∈ L
theorem IsPic.len {L us:List T3} (h:IsPic L us):us.length<=L.length:=List.Nodup.length_le_of_subset h.1 λ x hx=>(h.2 x).mp hx
theorem th5 {ks L us:List T3} (nd:ks.Nodup) (mk:∀ x,x ∈ ks ↔ x ∈ L) (pm:us.Perm ks):IsPic L us :=
 ⟨pm.nodup_iff.mpr nd,λ x=>(pm.mem_iff).trans (mk x)⟩
def spPw:Sp3:=λ ds μ Q=>∃ (g:Addr) (L:List T3),ds=[.ref g] /\ μ g=some (.lst (L.map encT)) /\ SB L /\ ∀ (us:List T3) μ',Ext μ μ'->IsPic L us->Q (.tup (us.map encT)) μ'
theorem yc5:RdQ spPw xm4 xi4:=by
 rintro ds μ Q ⟨g,L,rfl,hg,hl,q⟩;refine ⟨L,hg,hl,λ ks nd mk us pm r hr=>?_⟩;exact tup_l ya0 (q us _ (Ext.new hr) (th5 nd mk pm))
def ze2 (XE:XE3):Sp3:=λ ds μ Q=>∃ d,ds=[d] /\ ((Bad d /\ XE "NoWord" μ) \/ ∃ w,d=.tup (encs w) /\ Wd w /\ ((¬ (sks w<=400 /\ dns w<=400) /\ ∀ μ',Ext μ μ'->XE "NoRoom" μ') \/ ((sks w<=400 /\ dns w<=400) /\ sks w<=60 /\ ∀ (us:List T3) μ',Ext μ μ'->IsPic (wk st (unrs w)) us->Q (.tup (us.map encT)) μ')))
theorem zc5 (XE:XE3):RdQ (ze2 XE) (ym4 XE yp1 spPw spSf) yi4:=by
 rintro ds μ Q ⟨d,rfl,⟨b,x⟩ | ⟨w,rfl,hw,⟨n,x⟩ | ⟨n,n6,q⟩⟩⟩
 ·exact ⟨d,rfl,.bad b x⟩
 ·refine ⟨_,rfl,.good w rfl hw λ μ1 ex1=>?_⟩;show if (!decide (sks w<=400 /\ dns w<=400))=true then _ else _;rw [decide_eq_false n];exact And.intro [8] (x μ1 ex1)
 ·refine ⟨_,rfl,.good w rfl hw λ μ1 ex1=>?_⟩;show if (!decide (sks w<=400 /\ dns w<=400))=true then _ else _;rw [decide_eq_true n];refine ⟨_,st,w,rfl,.inr rfl,wm2,hw,n.2,n.1,λ g μ2 ex2 hg eg=>?_⟩;refine ⟨g,_,rfl,eg,sb_of ?_,λ us μ3 ex3 ip=>q us μ3 (ex1.trans (ex2.trans ex3)) ip⟩;have:=vc2 _ st (wp0 w) (sy0 w hw.1).1;rw [zp0 w hw.1] at this;omega
open Mt
def isLt (c:Nat):Bool:=decide (97<=c /\ c<=122)
theorem let_c (c:Nat):(!(Builtin.Str.occurrences ("abcdefghijklmnopqrstuvwxyz" : Str) ⟨#[c]⟩ 0 ("abcdefghijklmnopqrstuvwxyz" : Str).length 1).isEmpty)=isLt c:=by
 rw [StrLaws.found_one];unfold isLt;have e:("abcdefghijklmnopqrstuvwxyz" : Str).cps.toList=(List.range 26).map (97 + ·):=by decide +kernel
 rw [e];apply decide_eq_decide.mpr;simp only [List.mem_map,List.mem_range];exact ⟨λ ⟨i,h1,h2⟩=>by omega,λ h=>⟨c - 97,by omega,by omega⟩⟩
def nam (l:List Nat):Bool:=decide (1<=l.length /\ l.length<=8) && l.all isLt
def spNm:Sp3:=λ ds μ Q=>∃ z:Str,ds=[.str z] /\ z.length<=9000 /\ ∀ μ',Ext μ μ'->Q (.bl (nam (cp z))) μ'
theorem vd5:RdQ spNm vp3 tg3:=by
 rintro ds μ Q ⟨z,rfl,hl,q⟩;have hz:(100000:Nat) < sizeLine:=by decide
 simp only [vp3,seq3,ifs3,or3,b3,o3,call3,cons3,v3,start3,map_cons,map_nil,tg3,length_cons,length_nil,Nat.zero_add,Nat.reduceSub,List.replicate,cons_append,nil_append,getI,nil3,lenR,c3,ret3,next3,comp3,is3,tl0,Option.bind_none,if_true,gtR,int20,decide_eq_true_eq,eqR_ii];refine ⟨by omega,?_⟩;by_cases c1:(z.length:Int)=0
 ·simp only [c1,if_true];have e:nam (cp z)=false:=by unfold nam; rw [decide_eq_false (by rw [<- sb0]; omega)]; rfl
  have:=q μ [86];rw [e] at this;exact this
 ·simp only [c1,if_false];refine ⟨by omega,?_⟩;by_cases c2:(8:Int) < z.length
  ·simp only [c2,if_true];have e:nam (cp z)=false:=by unfold nam; rw [decide_eq_false (by rw [<- sb0]; omega)]; rfl
   have:=q μ [86];rw [e] at this;exact this
  ·simp only [c2,if_false];intro p hp;refine sd0 (rest:=[]) (λ d=>.bl (isLt (chD d))) hp (by rw [length_map]; show (cp z).length<=sizeLine; rw [<- sb0]; omega) (λ _ _=>trivial) (λ x hx μ' R ex k=>?_) λ μ' ex e=>?_
   ·obtain ⟨c,hc,rfl⟩:=List.mem_map.mp hx;simp only [o3,v3,getI,c3,inR,Bool.false_eq_true,if_false];rw [let_c c];exact k _ [86]
   ·have el:(z.cps.toList.map λ c=>D.str ⟨#[c]⟩).map (λ d=>D.bl (isLt (chD d)))=((cp z).map isLt).map D.bl:=by
      rw [map_map,map_map]; rfl
    rw [el] at e;refine uf3 e ?_
    have ef:nam (cp z)=((cp z).map isLt).all id:=by
     unfold nam; rw [decide_eq_true (by rw [<- sb0]; omega),all_map]; rfl
    rw [<- ef];exact q μ' ex
theorem mn_mi {c:Bool} (h:ta0 t=some c):(sa0 t).isSome=c:=by
 unfold ta0 at h;unfold sa0;by_cases e:t = "drop"
 ·rw [if_pos e] at h ⊢; cases h; rfl
 rw [if_neg e] at h ⊢;by_cases e:t = "join"
 ·rw [if_pos e] at h ⊢; cases h; rfl
 rw [if_neg e] at h ⊢;by_cases e:t = "show"
 ·rw [if_pos e] at h ⊢; cases h; rfl
 rw [if_neg e] at h ⊢;by_cases e:t = "names"
 ·rw [if_pos e] at h ⊢; cases h; rfl
 rw [if_neg e] at h ⊢;by_cases e:t = "pen"
 ·rw [if_pos e] at h ⊢; cases h; rfl
 rw [if_neg e] at h ⊢;by_cases e:t = "drawn"
 ·rw [if_pos e] at h ⊢; cases h; rfl
 rw [if_neg e] at h ⊢;by_cases e:t = "strokes"
 ·rw [if_pos e] at h ⊢; cases h; rfl
 rw [if_neg e] at h ⊢;by_cases e:t = "trails"
 ·rw [if_pos e] at h ⊢; cases h; rfl
 rw [if_neg e] at h ⊢;by_cases e:t = "same"
 ·rw [if_pos e] at h ⊢; cases h; rfl
 rw [if_neg e] at h ⊢;by_cases e:t = "shape"
 ·rw [if_pos e] at h ⊢; cases h; rfl
 rw [if_neg e] at h ⊢;by_cases e:t = ""
 ·rw [if_pos e] at h; cases h; rfl
 rw [if_neg e] at h;by_cases e:t = "Keep"
 ·rw [if_pos e] at h; cases h; rfl
 rw [if_neg e] at h;by_cases e:t = "trail"
 ·rw [if_pos e] at h; cases h; rfl
 rw [if_neg e] at h;by_cases e:t = "sum"
 ·rw [if_pos e] at h; cases h; rfl
 rw [if_neg e] at h;by_cases e:t = "keepa"
 ·rw [if_pos e] at h; cases h; rfl
 rw [if_neg e] at h;cases h
def isL:List Str->Bool
 | []=>false
 | t :: r=>match sa0 t with
  | some k=>decide (((r.length + 1:Nat):Int)=1 + k) && r.all λ z=>nam (cp z)
  | none=>false
theorem us1 {α:Type} (xs:List α) (i:Int) (h:0<=i):cut3 xs (some i) none=xs.drop i.toNat:=by
 have e:sIx3 xs.length 0 (some i)=min i.toNat xs.length:=by
  unfold sIx3;simp only []
  first | omega | (split <;> omega)
 have e2:sIx3 xs.length xs.length none=xs.length:=rfl;unfold cut3;rw [e,e2]
 have d:xs.drop (min i.toNat xs.length)=xs.drop i.toNat:=by
  rcases Nat.le_total i.toNat xs.length with z | z
  ·rw [Nat.min_eq_left z]
  ·rw [Nat.min_eq_right z,List.drop_length,List.drop_eq_nil_of_le z]
 rw [d];exact take_of_length_le (by rw [length_drop]; omega)
theorem at_0 {α:Type} (x:α) (l:List α):atI (x :: l) 0=some x:=by simp [atI,ixN]
def spLn:Sp3:=λ ds μ Q=>∃ (g:Addr) (t:Str) (r:[29]),ds=[.ref g] /\ μ g=some (.lst (sD (t :: r))) /\ (ta0 t).isSome=true /\ szs (t :: r) /\ r.length<=3000 /\ ∀ μ',Ext μ μ'->Q (.bl (isL (t :: r))) μ'
theorem ud5:RdQ spLn (up3 spNm) sg3:=by
 rintro ds μ Q ⟨g,t,r,rfl,hg,hc,hs,hl,q⟩;have hz:(100000:Nat) < sizeLine:=by decide
 obtain ⟨c,hc⟩:=Option.isSome_iff_exists.mp hc;have mi:=mn_mi hc;have a0:atI (sD (t :: r)) 0=some (.str t):=at_0 _ _;have a1:(sD (t :: r)).length=r.length + 1:=by rw [ud0]; rfl
 simp only [up3,seq3,ifs3,or3,b3,mdn3,o3,v3,start3,map_cons,map_nil,sg3,length_cons,length_nil,Nat.zero_add,Nat.reduceSub,List.replicate,cons_append,nil_append,getI,c3,ixR,hg,a0,hc,if_true,Bool.not_eq_true',ret3,next3,call3,cons3,comp3,is3,sl3,pt3,np3,slR,nil3,Option.bind_none,lenR,mdg3,addR,neR_ii,decide_eq_false_iff_not];cases c with
 | false =>
  have e:isL (t :: r)=false:=by
   cases e:sa0 t with
   | none=>simp only [isL,e]
   | some k=>rw [e] at mi; cases mi
  have:=q μ [86];rw [e] at this;simp only [if_true];exact this
 | true =>
  obtain ⟨k,ek⟩:=Option.isSome_iff_exists.mp mi;simp only [ek,a1];rw [if_neg [8]];split
  ·next h1 =>
   have e:isL (t :: r)=false:=by simp only [isL,ek]; rw [decide_eq_false h1]; rfl
   have:=q μ [86];rw [e] at this;exact this
  ·next h1 =>
   intro b hb;rw [ya0];have ec:cut3 (sD (t :: r)) (some 1) none=sD r:=by rw [us1 _ _ [8]]; rfl
   rw [ec];intro p hp;have ex0:Ext μ (updM μ b (.lst (sD r))):=Ext.new hb;refine sd0 (λ d=>match d with | .str z=>.bl (nam (cp z)) | _=>.non) hp (by rw [ud0]; omega) (λ μ' ex=>ex _ _ ya0) (λ x hx μ' R ex kk=>?_) λ μ' ex e=>?_
   ·obtain ⟨z,hz',rfl⟩:=List.mem_map.mp hx;exact ⟨z,rfl,hs z (.tail _ hz'),λ μ2 e2=>kk μ2 e2⟩
   ·have el:(sD r).map (λ d=>match d with | .str z=>D.bl (nam (cp z)) | _=>.non)=(r.map λ z=>nam (cp z)).map D.bl:=by
      unfold sD;rw [map_map,map_map]; rfl
    rw [el] at e;refine uf3 e ?_
    have ef:isL (t :: r)=(r.map λ z=>nam (cp z)).all id:=by
     simp only [isL,ek];rw [decide_eq_true (Decidable.not_not.mp h1),all_map]; rfl
    rw [<- ef];exact q μ' (ex0.trans ex)
open Mt
def zp1 (XE:XE3):Sp3:=λ ds μ Q=>ds=[.tup []] /\ ∀ μ',Ext μ μ'->Q (.str "") μ'
theorem wd_nil:Wd []:=by refine ⟨?_,?_,?_⟩ <;> simp [oks,deps,cnts]
theorem wb5 (XE:XE3):RdQ (zp1 XE) (yl4 XE vr0 (zz0 5)) zh4:=by
 rintro ds μ Q ⟨rfl,q⟩;refine ⟨_,rfl,ws3 [],?_⟩;have e0:=(tc1 []).1 wd_nil;rw [show encs []=[] by simp [encs]] at e0;rw [e0];refine ⟨[],rfl,by have:=wd_nil.2.1; omega,wd_nil.2.2,wd_nil.1,λ p μ' ex hp ep=>?_⟩;dsimp only [nil3];show joinR " " [.ref p] μ' _;simp only [joinR,ep,xk1];have e:mks []=[]:=by simp [mks]
 rw [e];exact ⟨⟨by decide +kernel,by decide⟩,q μ' ex⟩
def spWr:Sp3:=λ ds μ Q=>∃ g,ds=[.ref g] /\ μ g=some (.lst [.int 0]) /\ ∀ μ',Ext μ μ'->Q (.str "0") μ'
theorem sz4:RdQ spWr to3 xg3:=by
 rintro ds μ Q ⟨g,rfl,hg,q⟩;have hz:(100000:Nat) < sizeLine:=by decide
 simp only [to3,ret3,smt3,c3,cons3,comp3,is3,v3,start3,map_cons,map_nil,xg3,length_cons,length_nil,Nat.zero_add,Nat.reduceSub,List.replicate,cons_append,nil_append,getI,hg,nil3,joinR,Option.bind_none];intro p hp;refine sd0 (λ _=>.str "0") hp (by simp; omega) (λ μ' ex=>ex _ _ hg) (λ x hx μ' R ex kk=>?_) λ μ' ex e=>?_
 ·rw [mem_singleton] at hx;subst hx;exact ⟨by decide,kk _ [86]⟩
 ·show joinR " " [.ref p] μ' _;simp only [joinR,e,map_cons,map_nil,strs?];refine ⟨⟨by decide +kernel,by decide +kernel⟩,?_⟩;have ej:Str.join " " ["0"] = "0" := by decide +kernel
  rw [ej];exact q μ' ex
def wr3 (XE:XE3):Sp3:=λ ds μ Q=>ds.length=1 /\ ∃ g,ds=[.ref g] /\ μ g=some (.lst [.tup []]) /\ ∀ μ',Ext μ μ'->Q (.str "") μ'
theorem vb5 (XE:XE3):RdQ (wr3 XE) (zl4 XE zp1) wh4:=by
 rintro ds μ Q ⟨_,g,rfl,hg,q⟩;refine vj0 hg (at_0 _ _) ?_;exact ⟨rfl,q⟩
def Gr (w:List Dd):Prop:=Wd w /\ ¬ (sks w<=400 /\ dns w<=400)
def zr3 (XE:XE3):Sp3:=λ ds μ Q=>ds.length=1 /\ ∃ (g:Addr) (w:List Dd) (l:List D),ds=[.ref g] /\ μ g=some (.lst (.tup (encs w) :: l)) /\ ((Gr w /\ ∀ μ',Ext μ μ'->XE "NoRoom" μ') \/ (w=[] /\ ∀ μ',Ext μ μ'->Q (.str "0") μ'))
theorem xb5 (XE:XE3):RdQ (zr3 XE) (xl4 XE ze2 spWr) yh4:=by
 rintro ds μ Q ⟨_,g,w,l,rfl,hg,⟨⟨hw,n⟩,x⟩ | ⟨rfl,q⟩⟩
 ·refine vj0 hg (at_0 _ _) ?_;exact ⟨_,rfl,.inr ⟨w,rfl,hw,.inl ⟨n,x⟩⟩⟩
 ·refine vj0 hg (at_0 _ _) ?_;have z1:sks []=0:=by simp [sks]
  have z2:dns []=0:=by simp [dns]
  refine ⟨_,rfl,.inr ⟨[],rfl,wd_nil,.inr ⟨⟨by omega,by omega⟩,by omega,λ us μ' ex ip=>?_⟩⟩⟩
  have e:us=[]:=by
   have:=ip.len;simp [unrs,wk] at this;exact this
  subst e;refine ⟨show 1<=sizeLine by decide,λ p hp=>?_⟩;exact ⟨p,rfl,ya0,λ μ2 e2=>q μ2 (ex.trans ((Ext.new hp).trans e2))⟩
def sq3 (XE:XE3):Sp3:=λ ds μ Q=>ds.length=1 /\ ∃ (g:Addr) (w:List Dd) (l:List D),ds=[.ref g] /\ μ g=some (.lst (.tup (encs w) :: l)) /\ Gr w /\ ∀ μ',Ext μ μ'->XE "NoRoom" μ'
def spNv:Sp3:=λ _ _ _=>False
theorem xa5 (XE:XE3):RdQ (sq3 XE) (zk4 XE ze2 spNv spWr) wg4:=by
 rintro ds μ Q ⟨_,g,w,l,rfl,hg,⟨hw,n⟩,x⟩;refine vj0 hg (at_0 _ _) ?_;exact ⟨_,rfl,.inr ⟨w,rfl,hw,.inl ⟨n,x⟩⟩⟩
theorem at_1 {α:Type} (x y:α) (l:List α):atI (x :: y :: l) 1=some y:=by
 simp only [atI,ixN,length_cons];rw [if_pos [8],if_pos [7]];rfl
def yw0 (XE:XE3):Sp3:=λ ds μ Q=>ds.length=1 /\ ∃ (g:Addr) (w v:List Dd),ds=[.ref g] /\ μ g=some (.lst [.tup (encs w),.tup (encs v)]) /\ (Gr w \/ ((Wd w /\ sks w<=60 /\ dns w<=400) /\ Gr v)) /\ ∀ μ',Ext μ μ'->XE "NoRoom" μ'
theorem tb5 (XE:XE3):RdQ (yw0 XE) (ul4 XE spNv ze2 spWr) uh4:=by
 rintro ds μ Q ⟨_,g,w,v,rfl,hg,h,x⟩;refine vj0 hg (at_0 _ _) ?_;rcases h with ⟨hw,n⟩ | ⟨⟨hw,h1,h2⟩,hv,n⟩
 ·exact ⟨_,rfl,.inr ⟨w,rfl,hw,.inl ⟨n,x⟩⟩⟩
 ·refine ⟨_,rfl,.inr ⟨w,rfl,hw,.inr ⟨⟨by omega,h2⟩,h1,λ us μ' ex ip=>?_⟩⟩⟩;refine vj0 (ex _ _ hg) (at_1 _ _ _) ?_;exact ⟨_,rfl,.inr ⟨v,rfl,hv,.inl ⟨n,λ μ2 e2=>x μ2 (ex.trans e2)⟩⟩⟩
theorem ub5 (XE:XE3):RdQ (yw0 XE) (wl4 XE ze2 spNv) vh4:=by
 rintro ds μ Q ⟨_,g,w,v,rfl,hg,h,x⟩;refine vj0 hg (at_0 _ _) ?_;rcases h with ⟨hw,n⟩ | ⟨⟨hw,h1,h2⟩,hv,n⟩
 ·exact ⟨_,rfl,.inr ⟨w,rfl,hw,.inl ⟨n,x⟩⟩⟩
 ·refine ⟨_,rfl,.inr ⟨w,rfl,hw,.inr ⟨⟨by omega,h2⟩,h1,λ us μ' ex ip=>?_⟩⟩⟩;refine vj0 (ex _ _ hg) (at_1 _ _ _) ?_;exact ⟨_,rfl,.inr ⟨v,rfl,hv,.inl ⟨n,λ μ2 e2=>x μ2 (ex.trans e2)⟩⟩⟩
open Mt
def Dk (μ:Mu) (p d:Addr) (kvs:[47]):Prop:=μ p=some [103] /\ μ d=some (.dck kvs)
def spIn:Sp3:=λ ds μ Q=>∃ p,ds=[.ref p] /\ μ p=some (.ins "Desk" []) /\ ∀ d,μ d=none->Q .non (updM (updM μ d (.dck [])) p [103])
theorem to0:RdQ spIn wi0 xg0:=by
 rintro ds μ Q ⟨p,rfl,hp,q⟩;intro d hd;have e:updM μ d (.dck []) p=some (.ins "Desk" []):=by rw [za0 (λ z=>by subst z; rw [hp] at hd; cases hd)]; exact hp
 conv=>whnf
 rw [e];exact ⟨⟨rfl,by decide⟩,q d hd⟩
def spAw:Sp3:=λ ds μ Q=>∃ p d kvs,ds=[.ref p] /\ Dk μ p d kvs /\ ∀ r,μ r=none->Q (.ref r) (updM μ r (.dck kvs))
theorem wn0:RdQ spAw zi0 yf0:=by
 rintro ds μ Q ⟨p,d,kvs,rfl,⟨hp,hd⟩,q⟩
 conv=>whnf
 rw [hp];refine ⟨rfl,?_⟩;show dcpR [.ref d] μ _;simp only [dcpR,hd];exact q
def spKj:Sp3:=λ ds μ Q=>∃ (p:Addr) (n:Str) (w:List Dd),ds=[.ref p,.str n,.tup (encs w)] /\ ¬ Wd w /\ ∀ μ',Ext μ μ'->Q (.str "too great") μ'
theorem xk0:RdQ spKj (yg0 vr0) xe0:=by
 rintro ds μ Q ⟨p,n,w,rfl,h,q⟩;refine ⟨_,rfl,ws3 w,?_⟩;rw [(tc1 w).2 h];exact ⟨rfl,q μ [86]⟩
inductive An:Str->List (List Dd)->Str->Prop
 | join {w v:List Dd}:¬ Wd (w ++ v)->(w ++ v).length<=60->An "join" [w,v] "too great"
 | st {w:List Dd}:Gr w->An "strokes" [w] "too great"
 | tr {w:List Dd}:Gr w->An "trails" [w] "too great"
 | sm {w v:List Dd}:(Gr w \/ ((Wd w /\ sks w<=60 /\ dns w<=400) /\ Gr v))->An "same" [w,v] "too great"
 | sh {w v:List Dd}:(Gr w \/ ((Wd w /\ sks w<=60 /\ dns w<=400) /\ Gr v))->An "shape" [w,v] "too great"
 | show:An "show" [[]] ""
 | st0:An "strokes" [[]] "0"
def wsD (ws:List (List Dd)):List D:=ws.map λ w=>.tup (encs w)
def we2 (_:XE3):Sp3:=λ _ _ _=>False
variable {N:[29]}
theorem uv3 (t:TS3) (ds:List D) (μ:Mu) (Q:VK3) (h:spNv ds μ Q):t { nx:=λ _ μ'=>Q .non μ',rt:=Q } (start3 N ds) μ:=False.elim h
theorem xf5 (t:XE3->TS3) (XE:XE3) (ds:List D) (μ:Mu) (Q:VK3) (h:we2 XE ds μ Q):t XE { nx:=λ _ μ'=>Q .non μ',rt:=Q } (start3 N ds) μ:=False.elim h
def spAn:Sp3:=λ ds μ Q=>∃ (p g b d:Addr) (kvs:[47]) (t n:Str) (r:[29]) (ws:List (List Dd)) (a:Str),ds=[.ref p,.ref g,.ref b] /\ Dk μ p d kvs /\ μ g=some (.lst (sD (t :: n :: r))) /\ μ b=some (.lst (wsD ws)) /\ An t ws a /\ ∀ μ',Ext μ μ'->Q (.str a) μ'
abbrev tabA:=uh0 wr3 we2 we2 zr3 sq3 yw0 yw0
theorem tm {sp:[41]} {g b:Addr} {l:List D} {N:St3->Mu->Prop} (m:tabA t=some sp) (hg:μ g=some (.lst l)) (a0:atI l 0=some (.str t)) (k:sp (λ c μ2=>c = "NoRoom" /\ Q (.str "too great") μ2) [.ref b] μ Q) :
    wd2 tabA "NoRoom" (o3 ixR (v3 1) [22]) (cons3 (v3 2) nil3) (ret3 (c3 we0)) { nx:=N,rt:=Q } [some [43],some (.ref g),some (.ref b)] μ:=by
 simp only [wd2,o3,v3,getI,c3,ixR,hg,a0,m,cons3,nil3,ret3];exact k
theorem vv0:RdQ spAn (zh0 spKj we2 we2 yw0 yw0 wr3 zr3 sq3) wf0:=by
 rintro ds μ Q ⟨p,g,b,d,kvs,t,n,r,ws,a,rfl,⟨hp,hd⟩,hg,hb,ha,q⟩;have hz:(100000:Nat) < sizeLine:=by decide
 have a0:atI (sD (t :: n :: r)) 0=some (.str t):=at_0 _ _;have a1:atI (sD (t :: n :: r)) 1=some (.str n):=at_1 _ _ _;cases ha <;> simp only [zh0,seq3,ifs3,b3,o3,v3,start3,map_cons,map_nil,wf0,length_cons,length_nil,Nat.zero_add,Nat.reduceAdd,Nat.reduceSub,List.replicate,cons_append,nil_append,getI,c3,ixR,hg,a0,never3,next3,ret3,eqR_ss,decide_eq_true_eq,if_true] <;> rw [if_neg [8],if_neg [8]]
 case join w v h l =>
  show (match μ p with | some (.ins c' fs)=>_ | _=>False);rw [hp];refine ⟨⟨rfl,rfl⟩,?_⟩;have b0:atI (wsD [w,v]) 0=some [69]:=at_0 _ _;have b1:atI (wsD [w,v]) 1=some (.tup (encs v)):=at_1 _ _ _;simp only [cons3,o3,v3,getI,c3,ixR,hg,a1,hb,b0,b1,addR,nil3];refine ⟨by rw [ub0,ub0]; rw [length_append] at l; omega,?_⟩;exact ⟨p,n,w ++ v,by rw [zc1],h,q⟩
 all_goals rw [if_neg [8]]
 case st w h=>exact tm rfl hg a0 ⟨rfl,b,w,[],rfl,hb,.inl ⟨h,λ μ' ex=>⟨rfl,q μ' ex⟩⟩⟩
 case tr w h=>exact tm rfl hg a0 ⟨rfl,b,w,[],rfl,hb,h,λ μ' ex=>⟨rfl,q μ' ex⟩⟩
 case sm w v h=>exact tm rfl hg a0 ⟨rfl,b,w,v,rfl,hb,h,λ μ' ex=>⟨rfl,q μ' ex⟩⟩
 case sh w v h=>exact tm rfl hg a0 ⟨rfl,b,w,v,rfl,hb,h,λ μ' ex=>⟨rfl,q μ' ex⟩⟩
 case «show» => exact tm rfl hg a0 ⟨rfl,b,rfl,by rw [hb]; simp [wsD,encs],q⟩
 case st0=>exact tm rfl hg a0 ⟨rfl,b,[],[],rfl,hb,.inr ⟨rfl,q⟩⟩
open Mt
def rdB (r:[29]):Prop:=∀ w,PR false 0 (prts (Str.join " " r))=some (w,[])->¬ Wd w
def badK (ms:[29]):Prop:=ms.length < 2 \/ ∃ t n r,ms=t :: n :: r /\ (nam (cp n)=false \/ r=([("" : Str)]:List Str) \/ rdB r)
def spKr:Sp3:=λ ds μ Q=>∃ (p g d:Addr) (kvs:[47]) (ms:[29]),ds=[.ref p,.ref g] /\ Dk μ p d kvs /\ kvs.length < 90000 /\ μ g=some (.lst (sD ms)) /\ szs ms /\ (∀ z ∈ ms,PyData.strOk z=true) /\ ms.length<=3000 /\ (Str.join " " (ms.drop 2)).length<=3000 /\ ((ms.drop 2).map (·.length)).sum + (ms.drop 2).length<=1048576 ∧
 ((badK ms /\ ∀ μ',Ext μ μ'->Q (.str "bad line") μ') \/ ∃ t n r w,ms=t :: n :: r /\ nam (cp n)=true /\ r ≠ ([("" : Str)]:List Str) /\ PR false 0 (prts (Str.join " " r))=some (w,[]) /\ Wd w /\ ∀ μ',Ext μ μ'->Q (.str "kept") (updM μ' d (.dck (putY kvs (.inr n) [69]))))
theorem sm1:∀ r:List Str,(∀ z ∈ r,PyData.strOk z=true)->dats (sD r)=some (r.map PyData.str)
 | [],_=>rfl
 | z :: r,h=>by
  have e:dats (sD (z :: r))=(match dat (.str z) with | some p=>(match dats (sD r) with | some ps=>some (p :: ps) | none=>none) | none=>none):=rfl;rw [e,sm1 r λ y hy=>h y (.tail _ hy)];simp only [dat,h z (.head _),if_true];rfl
theorem ye4 (r:[29]):PyData.eqv (.list (r.map PyData.str)) (.list [.str ""])=decide (r=([("" : Str)]:List Str)):=by
 match r with
 | []=>rfl
 | [z] =>
  simp only [map_cons,map_nil,PyData.eqv,PyData.eqvAll,Bool.and_true,List.cons.injEq,and_true];rfl
 | z :: y :: r=>simp [PyData.eqv,PyData.eqvAll]
theorem wo2:∀ r:List Str,PyData.depthAll (r.map PyData.str)=0
 | []=>rfl
 | z :: r=>by
  rw [map_cons,PyData.depthAll,wo2 r];rfl
theorem zo2 (r:[29]):(PyData.list (r.map PyData.str)).depth<=64:=by
 rw [PyData.depth,wo2 r];decide
variable {M:Mu}
theorem eq_emp {b c:Addr} (hb:M b=some (.lst (sD r))) (hc:M c=some (.lst [.str ""])) (ho:∀ z ∈ r,PyData.strOk z=true) (k:K (.bl (decide (r=([("" : Str)]:List Str)))) M):eqR (.ref b) (.ref c) M K:=by
 have e1:datM M (.ref b)=some (.list (r.map PyData.str)):=by simp only [datM,hb,sm1 r ho]
 have e2:datM M (.ref c)=some (.list [.str ""]):=by
  have:=sm1 [""] λ z hz=>by rw [mem_singleton] at hz; subst hz; decide +kernel
  simp only [sD,map_cons,map_nil] at this;simp only [datM,hc,this]
 show match datM M (.ref b),datM M (.ref c) with | some p,some q=>(p.depth<=64 /\ q.depth<=64) /\ K (.bl (PyData.eqv p q)) M | _,_=>False
 rw [e1,e2];refine ⟨⟨zo2 r,zo2 [""]⟩,?_⟩;rw [ye4];exact k
theorem zn0:RdQ spKr (zd0 spNm ye2) wc0:=by
 rintro ds μ Q ⟨p,g,d,kvs,ms,rfl,⟨hp,hd⟩,hk,hg,hs,ho,hm,hj,hw,h⟩;have hz:(100000:Nat) < sizeLine:=by decide
 by_cases c0:ms.length < 2
 ·simp only [zd0,seq3,ifs3,or3,b3,o3,call3,cons3,v3,start3,map_cons,map_nil,wc0,length_cons,length_nil,Nat.zero_add,Nat.reduceAdd,Nat.reduceSub,List.replicate,cons_append,nil_append,getI,nil3,lenR,hg,c3,ltR,int20,ud0,decide_eq_true_eq,ret3,next3,if_true,not3,ixR,Bool.not_eq_true',sl3,pt3,np3,slR,lst3];rw [if_pos [7]];rcases h with ⟨_,q⟩ | ⟨t,n,r,w,rfl,_⟩
  ·exact q μ [86]
  ·simp only [length_cons] at c0; omega
 ·obtain ⟨t,n,r,rfl⟩:∃ t n r,ms=t :: n :: r:=by
    match ms,c0 with
    | [],c=>exact absurd (show 0 < 2 by decide) c
    | [_],c=>exact absurd (show 1 < 2 by decide) c
    | t :: n :: r,_=>exact ⟨t,n,r,rfl⟩
  have a1:atI (sD (t :: n :: r)) 1=some (.str n):=at_1 _ _ _;have ec:cut3 (sD (t :: n :: r)) (some 2) none=sD r:=by rw [us1 _ _ [8]]; rfl
  simp only [zd0,seq3,ifs3,or3,b3,o3,call3,cons3,v3,start3,map_cons,map_nil,wc0,length_cons,length_nil,Nat.zero_add,Nat.reduceAdd,Nat.reduceSub,List.replicate,cons_append,nil_append,getI,nil3,lenR,hg,c3,ltR,int20,ud0,decide_eq_true_eq,ret3,next3,if_true,not3,ixR,a1,Bool.not_eq_true',sl3,pt3,np3,slR,lst3];rw [if_neg [7]];refine ⟨n,rfl,hs n (.tail _ (.head _)),λ μ1 e1=>?_⟩;have g1:=e1 _ _ hg;cases cn:nam (cp n) with
  | false =>
   rcases h with ⟨_,q⟩ | ⟨t',n',r',w,e,hn,_⟩
   ·exact q μ1 e1
   ·cases e; rw [cn] at hn; cases hn
  | true =>
   simp only [g1,ec];intro b hb;refine ⟨by omega,λ c hc=>?_⟩;have cb:c ≠ b:=λ z=>by subst z; rw [ya0] at hc; cases hc
   have ex2:Ext μ1 (updM (updM μ1 b (.lst (sD r))) c (.lst [.str ""])):=(Ext.new hb).trans (Ext.new hc);refine eq_emp (by rw [za0 (Ne.symm cb),ya0]) ya0 (λ z hz=>ho z (.tail _ (.tail _ hz))) ?_;have ex:=e1.trans ex2;revert ex;generalize updM (updM μ1 b (.lst (sD r))) c (.lst [.str ""])=M;intro ex;have gM:=ex _ _ hg;by_cases cr:r=([("" : Str)]:List Str)
   ·rw [decide_eq_true cr];rcases h with ⟨_,q⟩ | ⟨t',n',r',w,e,hn,hr,_⟩
    ·exact q M ex
    ·cases e; exact absurd cr hr
   ·rw [decide_eq_false cr];simp only [Bool.false_eq_true,ze1,cons3,smt3,c3,sl3,v3,getI,pt3,np3,slR,gM,nil3,joinR,ec,ret3,seq3,if_false];intro b2 hb2;have ex3:=ex.trans (Ext.new (o:=.lst (sD r)) hb2);simp only [ya0,xk1];refine ⟨⟨by decide +kernel,hw⟩,?_⟩;refine ⟨_,rfl,hj,?_⟩;rcases h with ⟨bk,q⟩ | ⟨t',n',r',w,e,hn,hr,hP,hW,q⟩
    ·refine .inr ⟨?_,λ μ' e'=>⟨rfl,q μ' (ex3.trans e')⟩⟩;rcases bk with z | ⟨t',n',r',e,z⟩
     ·exact absurd z c0
     ·cases e;rcases z with z | z | z
      ·rw [cn] at z; cases z
      ·exact absurd z cr
      ·exact z
    ·cases e;refine .inl ⟨w,hP,hW,λ μ' e'=>?_⟩;have exx:=ex3.trans e';have p':=exx _ _ hp;have g':=exx _ _ hg;have d':=exx _ _ hd;simp only [th1,v3,yu2,set_cons_succ,set_cons_zero,getI,o3,c3,ixR,keyK,ret3];have lk:List.lookup ("words" : Str) [(("words" : Str),D.ref d)]=some (.ref d):=rfl;simp only [fld3,v3,getI,p',lk,g',a1,d',true_and];exact ⟨hk,q μ' exx⟩
open Mt
def badL (z:Str):Prop:=match Txt.split z " " with
 | []=>False
 | t :: r=>if t = "keep" then badK (t :: r) else (ta0 t).isSome=true /\ isL (t :: r)=false
structure Lim (z:Str):Prop where
 len:z.length<=1000000
 ss:szs (Txt.split z " ")
 ok:∀ y ∈ Txt.split z " ",PyData.strOk y=true
 n:(Txt.split z " ").length<=3000
 j:(Str.join " " ((Txt.split z " ").drop 2)).length<=3000
 w:(((Txt.split z " ").drop 2).map (·.length)).sum + ((Txt.split z " ").drop 2).length<=1048576
open Mt
def hasW (kvs:[47]) (n:Str):Bool:=(valK kvs (.inr n)).isSome
variable {d:Addr} {kvs:[47]} {ns:[29]}
theorem uq1 {b c:Addr} (hp:M p=some [103]) (hd:M d=some (.dck kvs)) (hb:M b=some (.lst (sD ns))) (hc:M c=none) (hl:ns.length<=3000)
    (k:∀ μ',Ext M μ'->K (.bl (ns.all (hasW kvs))) μ') :
    xq2 (λ μ=>μ b=some (.lst (sD ns))) c (gn3 0) tt3 (o3 (um1 false) (v3 0) (fld3 (v3 1) "Desk" "words")) (λ d μ1=>allR [d] μ1 K) (sD ns) [none,some [43]] (updM M c (.lst [])):=by
 have hz:(100000:Nat) < sizeLine:=by decide
 refine sd0 (rest:=[some [43]]) (λ d=>match d with | .str n=>.bl (hasW kvs n) | _=>.non) hc (by rw [ud0]; omega) (λ μ' ex=>ex _ _ hb) (λ x hx μ' R ex kk=>?_) λ μ' ex e=>?_
 ·obtain ⟨n,hn,rfl⟩:=List.mem_map.mp hx;have p':=ex _ _ hp;have d':=ex _ _ hd;have lk:List.lookup ("words" : Str) [(("words" : Str),D.ref d)]=some (.ref d):=rfl;simp only [o3,v3,getI,fld3,p',lk,um1,keyK,d',Bool.false_eq_true,if_false,true_and];exact kk _ [86]
 ·have el:(sD ns).map (λ d=>match d with | .str n=>D.bl (hasW kvs n) | _=>.non)=(ns.map (hasW kvs)).map D.bl:=by
    unfold sD;rw [map_map,map_map]; rfl
  rw [el] at e;refine uf3 e ?_;have ef:(ns.map (hasW kvs)).all id=ns.all (hasW kvs):=by rw [all_map]; rfl
  rw [ef];exact k μ' ex
theorem ys2 {b c:Addr} {ws:List (List Dd)} (hp:M p=some [103]) (hd:M d=some (.dck kvs)) (hb:M b=some (.lst (sD ns))) (hc:M c=none) (hl:ns.length<=3000)
    (hw:(ns.map λ n=>valK kvs (.inr n))=ws.map λ w=>some [69]) (k:∀ μ',Ext M μ'->μ' c=some (.lst (wsD ws))->K (.ref c) μ') :
    xq2 (λ μ=>μ b=some (.lst (sD ns))) c (gn3 0) tt3 (o3 dgkR (fld3 (v3 1) "Desk" "words") (v3 0)) K (sD ns) [none,some [43]] (updM M c (.lst [])):=by
 have hz:(100000:Nat) < sizeLine:=by decide
 refine sd0 (rest:=[some [43]]) (λ d=>match d with | .str n=>(valK kvs (.inr n)).getD .non | _=>.non) hc (by rw [ud0]; omega) (λ μ' ex=>ex _ _ hb) (λ x hx μ' R ex kk=>?_) λ μ' ex e=>?_
 ·obtain ⟨n,hn,rfl⟩:=List.mem_map.mp hx;have p':=ex _ _ hp;have d':=ex _ _ hd;have lk:List.lookup ("words" : Str) [(("words" : Str),D.ref d)]=some (.ref d):=rfl;obtain ⟨w,_,ew⟩:=List.mem_map.mp (show valK kvs (.inr n) ∈ ws.map λ w=>some [69] by rw [<- hw]; exact List.mem_map.mpr ⟨n,hn,rfl⟩);have ew:=ew.symm;simp only [o3,fld3,v3,getI,p',lk,dgkR,keyK,d',ew,true_and];have z:=kk _ [86];simp only [ew,Option.getD_some] at z;exact z
 ·refine k μ' ex ?_;rw [e]
  have el:(sD ns).map (λ d=>match d with | .str n=>(valK kvs (.inr n)).getD .non | _=>.non)=(ns.map λ n=>valK kvs (.inr n)).map λ o=>o.getD .non:=by
   unfold sD;rw [map_map,map_map]; rfl
  rw [el,hw,map_map];rfl
open Mt
def ansW (kvs:[47]) (t n:Str) (r:[29]) (a:Str):Prop :=
 ((if t = "join" then r else n :: r).all (hasW kvs)=false /\ a = "no such name") \/ ∃ ws:List (List Dd),((if t = "join" then r else n :: r).map λ n=>valK kvs (.inr n))=(ws.map λ w=>some [69]) /\ An t ws a
def wn1 (kvs:[47]) (z a:Str):Prop:=(badL z /\ a = "bad line") \/ ∃ t n r,Txt.split z " " = t :: n :: r /\ t ≠ "keep" /\ (ta0 t).isSome=true /\ isL (t :: n :: r)=true /\ ansW kvs t n r a
def un1 (z n:Str) (w:List Dd):Prop:=∃ r,Txt.split z " " = ("keep" : Str) :: n :: r /\ nam (cp n)=true /\ r ≠ ([("" : Str)]:List Str) /\ PR false 0 (prts (Str.join " " r))=some (w,[]) /\ Wd w
def tj0:Sp3:=λ ds μ Q=>∃ (p d:Addr) (kvs:[47]) (z:Str),ds=[.ref p,.str z] /\ Dk μ p d kvs /\ kvs.length < 90000 /\ Lim z ∧
 ((∃ a,wn1 kvs z a /\ ∀ μ',Ext μ μ'->Q (.str a) μ') \/ ∃ n w,un1 z n w /\ ∀ μ',Ext μ μ'->Q (.str "kept") (updM μ' d (.dck (putY kvs (.inr n) [69]))))
theorem vm2 {kvs:[47]}:∀ {ns:[29]} {ws:List (List Dd)},(ns.map λ n=>valK kvs (.inr n))=(ws.map λ w=>some [69])->ns.all (hasW kvs)=true
 | [],_,_=>rfl
 | n :: ns,[],h=>by cases h
 | n :: ns,w :: ws,h=>by
  simp only [map_cons,List.cons.injEq] at h;rw [all_cons,vm2 h.2,Bool.and_true];unfold hasW;rw [h.1]; rfl
theorem uk1:RdQ tj0 (um0 spAn spKr spLn) zj0:=by
 rintro ds μ Q ⟨p,d,kvs,z,rfl,⟨hp,hd⟩,hk,hl,h⟩;have hz:(100000:Nat) < sizeLine:=by decide
 simp only [um0,seq3,set3,smt3,v3,start3,map_cons,map_nil,zj0,length_cons,length_nil,Nat.zero_add,Nat.reduceAdd,Nat.reduceSub,List.replicate,cons_append,nil_append,getI,cons3,c3,nil3,splitR,ifs3,b3,o3,set_cons_succ,set_cons_zero,ixR,ret3,next3,not3,call3,Bool.not_eq_true',if3,sl3,pt3,np3,slR,comp3,is3,Option.bind_none,Option.bind_some];refine ⟨⟨by decide +kernel,hl.len⟩,λ g hg=>?_⟩;have ex:Ext μ (updM μ g (.lst (sD (Txt.split z " ")))):=Ext.new hg;cases es:Txt.split z " " with
 | nil=>have:=PyProof.Rows.split_pos z " "; rw [es] at this; simp at this
 | cons t r =>
  have a0:atI (sD (t :: r)) 0=some (.str t):=at_0 _ _;rw [es] at ex;have e1:updM μ g (.lst (sD (t :: r))) g=some (.lst (sD (t :: r))):=ya0;show (match updM μ g (.lst (sD (t :: r))) g with | some (.lst l)=>_ | _=>False);simp only [ya0,a0];have pM:=ex _ _ hp;have l1:=hl.ss;have l2:=hl.ok;have l3:=hl.n;have l4:=hl.j;have l5:=hl.w;rw [es] at l1 l2 l3 l4 l5;have eS:∀ (x y:Str) (M:Mu) (K:VK3),eqR (.str x) (.str y) M K=K (.bl (decide (x=y))) M:=λ _ _ _ _=>rfl;rw [eS];by_cases ck:t = "keep"
  ·rw [decide_eq_true ck];dsimp only;rw [if_pos rfl];show (match updM μ g (.lst (sD (t :: r))) p with | some (.ins c' fs)=>_ | _=>False);rw [pM];refine ⟨⟨rfl,rfl⟩,p,g,d,kvs,t :: r,rfl,⟨pM,ex _ _ hd⟩,hk,ya0,l1,l2,l3,l4,l5,?_⟩;rcases h with ⟨a,⟨hb,rfl⟩ | ⟨t',n,r',e,nk,_⟩,q⟩ | ⟨n,w,⟨r',e,h1,h2,h3,h4⟩,q⟩
   ·simp only [badL,es] at hb;rw [if_pos ck] at hb;exact .inl ⟨hb,λ μ' e'=>q μ' (ex.trans e')⟩
   ·rw [es] at e;cases e;exact absurd ck nk
   ·rw [es] at e;cases e;exact .inr ⟨_,n,r',w,rfl,h1,h2,h3,h4,λ μ' e'=>q μ' (ex.trans e')⟩
  ·rw [decide_eq_false ck];dsimp only;rw [if_neg [8]];rcases h with ⟨a,⟨hb,rfl⟩ | ⟨t',n,r',e,nk,hm,hL,ha⟩,q⟩ | ⟨n,w,⟨r',e,_⟩,q⟩
   ·simp only [badL,es] at hb;rw [if_neg ck] at hb;refine ⟨g,t,r,rfl,ya0,hb.1,l1,by rw [length_cons] at l3; omega,λ μ' e'=>?_⟩;rw [hb.2];exact q μ' (ex.trans e')
   ·rw [es] at e;cases e;refine ⟨g,t,n :: r',rfl,ya0,hm,l1,by rw [length_cons] at l3; omega,λ μ' e'=>?_⟩;rw [hL];have g1:=e' _ _ e1;have ex1:=ex.trans e';show (match μ' g with | some (.lst l)=>_ | _=>False);rw [g1];simp only [a0]
    have fin:∀ (ns:[29]) (b:Addr) (M:Mu),ns.length<=3000->((ns.all (hasW kvs)=false /\ a = "no such name") \/ ∃ ws:List (List Dd),(ns.map λ n=>valK kvs (.inr n))=(ws.map λ w=>some [69]) /\ An t ws a)->Ext μ' M->M b=some (.lst (sD ns))->if ns.all (hasW kvs)=false then Q ue0 M else xd0 "Desk" "answer" spAn (v3 0) (cons3 (v3 2) (cons3 (comp3 [none,some 0] (is3 (v3 3)) (gn3 0) tt3 (o3 dgkR (fld3 (v3 1) "Desk" "words") (v3 0))) nil3)) [some [43],some (.str z),some (.ref g),some (.ref b)] M Q:=λ ns b M hn ha eM hb=>by
     have p2:=(ex1.trans eM) _ _ hp;have d2:=(ex1.trans eM) _ _ hd;rcases ha with ⟨hf,rfl⟩ | ⟨ws,hw,ha⟩
     ·rw [if_pos hf];exact q M (ex1.trans eM)
     ·rw [if_neg (by rw [vm2 hw]; decide)];show (match M p with | some (.ins c' fs)=>_ | _=>False);rw [p2];refine ⟨⟨rfl,rfl⟩,?_⟩;show (match M b with | some (.lst l)=>_ | _=>False);rw [hb];intro c hc;refine ys2 p2 d2 hb hc hn hw λ M3 e3 hc3=>?_;exact ⟨p,g,c,d,kvs,t,n,r',ws,a,rfl,⟨e3 _ _ p2,e3 _ _ d2⟩,e3 _ _ (eM _ _ g1),hc3,ha,λ M4 e4=>q M4 ((ex1.trans eM).trans (e3.trans e4))⟩
    rw [eS];have l6:r'.length + 2<=3000:=by rw [length_cons,length_cons] at l3; omega
    unfold ansW at ha;by_cases cj:t = "join"
    ·rw [if_pos cj] at ha;rw [decide_eq_true cj];dsimp only;rw [if_pos rfl,g1];dsimp only;rw [show cut3 (sD (t :: n :: r')) (some 2) none=sD r' by rw [us1 _ _ [8]]; rfl];intro b hb c hc;have xb:Ext μ' (updM μ' b (.lst (sD r'))):=Ext.new hb;exact uq1 (xb _ _ (ex1 _ _ hp)) (xb _ _ (ex1 _ _ hd)) ya0 hc [7] λ M eM=>fin r' b M [7] ha (xb.trans eM) (eM _ _ ya0)
    ·rw [if_neg cj] at ha;rw [decide_eq_false cj];dsimp only;rw [if_neg [8],g1];dsimp only;rw [show cut3 (sD (t :: n :: r')) (some 1) none=sD (n :: r') by rw [us1 _ _ [8]]; rfl];intro b hb c hc;have xb:Ext μ' (updM μ' b (.lst (sD (n :: r')))):=Ext.new hb;have l7:(n :: r').length<=3000:=by rw [length_cons]; omega
     exact uq1 (xb _ _ (ex1 _ _ hp)) (xb _ _ (ex1 _ _ hd)) ya0 hc l7 λ M eM=>fin (n :: r') b M l7 ha (xb.trans eM) (eM _ _ ya0)
   ·rw [es] at e;exact absurd (List.cons.inj e).1 ck
open Mt
def ExtZ (z:Addr) (μ μ':Mu):Prop:=∀ x o,x ≠ z->μ x=some o->μ' x=some o
variable {D':Ends3}
theorem yg1 {ts:TA3} {rest:TS3} {z:Addr} {st:MO} {μ0:Mu} {l:[29]} (m:[29]) (hm:l.length + m.length<=1000) (hz:μ z=some st) (ex:ExtZ z μ0 μ) (hp:μ p=some (.lst (sD l)))
    (hts:∀ K:List D->Mu->Prop,K (sD m) μ->ts [some (.ref z),some [43]] μ K)
    (hr:∀ p' μ',μ' z=some st->ExtZ z μ0 μ'->μ' p'=some (.lst (sD (l ++ m)))->rest D' [some (.ref z),some (.ref p')] μ') :
    (seq3 (set3 1 (o3 addR (v3 1) (lst3 ts))) rest) D' [some (.ref z),some [43]] μ:=by
 have hZ:(100000:Nat) < sizeLine:=by decide
 refine hts _ ⟨by rw [ud0]; omega,λ p2 hp2=>?_⟩;have e1:updM μ p2 (.lst (sD m)) p=some (.lst (sD l)):=by rw [za0 (ua0 hp hp2)]; exact hp
 have e2:updM μ p2 (.lst (sD m)) z=some st:=by rw [za0 (ua0 hz hp2)]; exact hz
 show addR [43] (.ref p2) (updM μ p2 (.lst (sD m))) _;simp only [addR,e1,ya0];refine ⟨by rw [ud0,ud0]; omega,λ p3 hp3=>?_⟩;refine hr p3 _ ?_ (λ x o n hx=>Ext.new hp3 _ _ (Ext.new hp2 _ _ (ex x o n hx))) ?_
 ·rw [za0 (ua0 e2 hp3)]; exact e2
 ·rw [ya0,sf2]
def od0:List Str:=["", " ", "keep", "keep ", "keep a ", "keep a go", "keep a go 1 ", "keep a  go 1", "Keep a go 1"]
def od1:List Str:=["keep A go 1", "keep a1 go 1", "keep abcdefghi go 1", "keep  go 1", "keep a go -1"]
def od2:List Str:=["keep a times 2 [", "names ", "names a", " names", "drop", "drop a b", "drop A", "show"]
def od3:List Str:=["show a b", "show  a", "same a", "same a b a", "shape a", "shape a b B", "join a b"]
def od4:List Str:=["join a b c d", "join A a b", "join a b C", "pen", "pen a b", "pen ", "drawn a ", "strokes"]
def od5:List Str:=["strokes abcdefghi", "trails a1", "trails a b", "trail a", "sum a", "keepa go 1"]
def oddL:List Str:=od0 ++ od1 ++ od2 ++ od3 ++ od4 ++ od5
def spOd:Sp3:=λ ds μ Q=>∃ (z:Addr) (a:Int) (b:Bool),ds=[.ref z] /\ μ z=some (.lst [.int a,.bl b]) /\ 0<=a /\ ∀ (t:Str) μ',t ∈ oddL->ExtZ z μ μ'->Q (.str t) μ'
theorem rd_q2:RdQ spOd (t_q2 wd0) N_q2:=by
 rintro ds μ Q ⟨z,a,b,rfl,hz,ha,q⟩;refine ⟨(show 9<=sizeLine by decide),λ p hp=>?_⟩;have hz1:updM μ p (.lst (sD od0)) z=some (.lst [.int a,.bl b]):=by rw [za0 (ua0 hz hp)]; exact hz
 show yh0 wd0 _ [some (.ref z),some [43]] _;unfold yh0;refine yg1 (l:=od0) od1 [8] hz1 (λ x o n hx=>Ext.new hp _ _ hx) ya0 (λ K k=>k) λ p1 μ1 z1 x1 e1=>?_;unfold wl0;refine yg1 od2 [8] z1 x1 e1 (λ K k=>k) λ p1 μ1 z1 x1 e1=>?_;unfold zl0;refine yg1 od3 [8] z1 x1 e1 (λ K k=>k) λ p1 μ1 z1 x1 e1=>?_;unfold yl0;refine yg1 od4 [8] z1 x1 e1 (λ K k=>k) λ p1 μ1 z1 x1 e1=>?_;unfold xl0;refine yg1 od5 [8] z1 x1 e1 (λ K k=>k) λ p1 μ1 z1 x1 e1=>?_;have e1:μ1 p1=some (.lst (sD oddL)):=e1;have hl:(sD oddL).length=43:=by decide
 show sk0 wd0 _ [some (.ref z),some (.ref p1)] μ1
 conv=>whnf
 rw [e1];refine ⟨z,(sD oddL).length,a,b,[],rfl,by rw [hl]; decide,by rw [hl]; decide,z1,ha,λ c a' c0 c1 a'n=>?_⟩;have nz:p1 ≠ z:=λ h=>by subst h; rw [e1] at z1; simp [sD,oddL,od0] at z1
 have e9:updM μ1 z (.lst [.int a',.bl b]) p1=some (.lst (sD oddL)):=by rw [za0 nz]; exact e1
 have hl2:oddL.length=43:=by decide
 rw [hl] at c1;have hi:c.toNat < oddL.length:=by omega
 have ea:atI (sD oddL) c=some (.str oddL[c.toNat]):=by
  unfold atI ixN;rw [if_pos c0,if_pos (by rw [hl]; omega)];simp [sD,getElem?_eq_getElem hi]
 show ixR (.ref p1) (.int c) (updM μ1 z (.lst [.int a',.bl b])) Q;simp only [ixR,e9,ea];exact q _ _ (getElem_mem hi) λ x o n hx=>by rw [za0 n]; exact x1 x o n hx
open Mt
def okB:List Dd->Bool
 | [.go n]=>decide (0<=n)
 | _=>true
theorem okB_of (h:Wd w):okB w=true:=by
 unfold okB;split
 ·have:=h.1;simp only [oks,okd] at this;exact decide_eq_true this.1.1
 ·rfl
def rdBb (r:[29]):Bool:=match PR false 0 (prts (Str.join " " r)) with
 | some (w,[])=>!okB w
 | _=>true
theorem zf5 (h:rdBb r=true):rdB r:=λ w e hw=>by
 unfold rdBb at h;rw [e] at h;dsimp only at h;rw [okB_of hw] at h;cases h
def sf4 (z:Str):Bool:=match Txt.split z " " with
 | []=>false
 | t :: r=>if t = "keep" then (match r with | []=>true | n :: r=>!nam (cp n) || (decide (r=([("" : Str)]:List Str)) || rdBb r)) else (ta0 t).isSome && !isL (t :: r)
theorem xg4 (h:sf4 z=true):badL z:=by
 unfold sf4 at h;unfold badL;split at h
 ·cases h
 ·next t r e =>
  first | (rw [e]; dsimp only) | skip
  split at h
  ·next c =>
   rw [if_pos c];split at h
   ·exact .inl (show 1 < 2 by decide)
   ·next n r =>
    rw [Bool.or_eq_true,Bool.or_eq_true] at h;refine .inr ⟨t,n,r,rfl,?_⟩;rcases h with h | h | h
    ·exact .inl (by simpa using h)
    ·exact .inr (.inl (of_decide_eq_true h))
    ·exact .inr (.inr (zf5 h))
  ·next c =>
   rw [if_neg c];rw [Bool.and_eq_true] at h;exact ⟨h.1,by simpa using h.2⟩
def limb (z:Str):Bool:=decide (z.length<=1000000) && ((Txt.split z " ").all (λ y=>decide (y.length<=9000) && PyData.strOk y) && (decide ((Txt.split z " ").length<=3000) && (decide ((Str.join " " ((Txt.split z " ").drop 2)).length<=3000) && decide ((((Txt.split z " ").drop 2).map (·.length)).sum + ((Txt.split z " ").drop 2).length<=1048576))))
theorem ug1 (h:limb z=true):Lim z:=by
 unfold limb at h;simp only [Bool.and_eq_true,decide_eq_true_eq,all_eq_true] at h;exact ⟨h.1,λ t ht=>(h.2.1 t ht).1,λ t ht=>(h.2.1 t ht).2,h.2.2.1,h.2.2.2.1,h.2.2.2.2⟩
theorem va4:oddL.all (λ z=>limb z && sf4 z)=true:=by decide +kernel
def yn2 (z:Str):Bool:=match Txt.split z " " with
 | t :: n :: r=>decide (t ≠ "keep") && ((ta0 t).isSome && (isL (t :: n :: r) && limb z))
 | _=>false
def nmsL (z:Str):List Str:=match Txt.split z " " with
 | t :: n :: r=>if t = "join" then r else n :: r
 | _=>[]
variable {a:Str}
theorem vb1 (h:yn2 z=true) (k:∀ t n r,Txt.split z " " = t :: n :: r->nmsL z=(if t = "join" then r else n :: r)->ansW kvs t n r a):wn1 kvs z a /\ Lim z:=by
 unfold yn2 at h;split at h
 ·next t n r e =>
  simp only [Bool.and_eq_true,decide_eq_true_eq] at h;exact ⟨.inr ⟨t,n,r,e,h.1,h.2.1,h.2.2.1,k t n r e (by unfold nmsL; rw [e])⟩,ug1 h.2.2.2⟩
 ·cases h
def nob0:List Str:=["show nobody", "drop nobody", "same nobody great", "same great nobody", "shape long nobody"]
def nob1:List Str:=["join new long nobody", "join new nobody great", "pen nobody", "drawn nobody", "strokes nobody"]
def nobL:List Str:=nob0 ++ nob1 ++ [("trails nobody" : Str)]
theorem ta4:nobL.all (λ z=>yn2 z && (nmsL z).any λ n=>decide (n = "nobody"))=true:=by decide +kernel
theorem uj2 (h:valK kvs (.inr "nobody")=none) (hz:z ∈ nobL):wn1 kvs z "no such name" /\ Lim z:=by
 have:=List.all_eq_true.mp ta4 z hz;rw [Bool.and_eq_true] at this;refine vb1 this.1 λ t n r e en=>.inl ⟨?_,rfl⟩;rw [<- en];obtain ⟨x,hx,ex⟩:=List.any_eq_true.mp this.2;cases hc:(nmsL z).all (hasW kvs) with
 | false=>rfl
 | true =>
  have:=List.all_eq_true.mp hc x hx;rw [of_decide_eq_true ex] at this;unfold hasW at this;rw [h] at this;cases this
def w4:List Dd:=[.times 4 [.go 2,.turn 1]]
def lw:List Dd:=(List.replicate 10 [.go 1,.turn 1]).flatten
def gw (n:Int):List Dd:=[.times n [.go 1]]
theorem tq0 {n:Str} (h1:Txt.split z " " = ("keep" : Str) :: n :: r) (h2:nam (cp n)=true) (h3:r ≠ ([("" : Str)]:List Str)) (h4:PR false 0 (prts (Str.join " " r))=some (w,[])) (h5:Wd w):un1 z n w:=⟨r,h1,h2,h3,h4,h5⟩
theorem wd_4:Wd w4:=by refine ⟨?_,?_,?_⟩ <;> simp [w4,oks,okd,deps,dep,cnts,cnt,G]
theorem wd_l:Wd lw:=by refine ⟨?_,?_,?_⟩ <;> simp [lw,oks,okd,deps,dep,cnts,cnt,G,List.replicate]
theorem wd_g (h0:0<=n) (h1:n<=G):Wd (gw n):=by refine ⟨?_,?_,?_⟩ <;> simp [gw,oks,okd,deps,dep,cnts,cnt]; exact ⟨⟨h0,h1⟩,by decide⟩
theorem gr_g (h0:401<=n) (h1:n<=G):Gr (gw n):=⟨wd_g [7] h1,by simp only [gw,sks,sk]; omega⟩
def rAb:List Str:=["times", "4", "[", "go", "2", "turn", "1", "]"]
theorem pr_4:PR false 0 (prts (Str.join " " rAb))=some (w4,[]):=by kernel_rfl
def sz2 (n:Str):Str:=("keep " : Str) ++ n ++ (" times 4 [ go 2 turn 1 ]" : Str)
theorem wc4:∀ n ∈ (["a", "b", "c"]:List Str),un1 (sz2 n) n w4 /\ Lim (sz2 n):=by
 have:(["a", "b", "c"]:List Str).all (λ n=>decide (Txt.split (sz2 n) " " = ("keep" : Str) :: n :: rAb) && (nam (cp n) && limb (sz2 n)))=true:=by decide +kernel
 intro n hn;have:=List.all_eq_true.mp this n hn;simp only [Bool.and_eq_true,decide_eq_true_eq] at this;exact ⟨tq0 this.1 this.2.1 [8] pr_4 wd_4,ug1 this.2.2⟩
def uz2:Str:=("keep long" : Str) ++ L2.rep " go 1 turn 1" (10:Int).toNat
def rL:List Str:=(List.replicate 10 (["go", "1", "turn", "1"]:List Str)).flatten
theorem pr_l:PR false 0 (prts (Str.join " " rL))=some (lw,[]):=by kernel_rfl
theorem zc4:un1 uz2 "long" lw /\ Lim uz2:=by
 have:(decide (Txt.split uz2 " " = ("keep" : Str) :: "long" :: rL) && (nam (cp ("long" : Str)) && limb uz2))=true:=by decide +kernel
 simp only [Bool.and_eq_true,decide_eq_true_eq] at this;exact ⟨tq0 this.1 this.2.1 [8] pr_l wd_l,ug1 this.2.2⟩
theorem keeps_0:un1 "keep long" "long" [] /\ Lim "keep long" := by
 have:(decide (Txt.split ("keep long" : Str) " " = ("keep" : Str) :: "long" :: []) && (nam (cp ("long" : Str)) && limb "keep long"))=true:=by decide +kernel
 simp only [Bool.and_eq_true,decide_eq_true_eq] at this;exact ⟨tq0 this.1 this.2.1 [8] (by kernel_rfl) wd_nil,ug1 this.2.2⟩
def sa1 (n:Int):Str:=("keep great times " : Str) ++ nsT n ++ (" [ go 1 ]" : Str)
def rG (n:Int):List Str:=["times",nsT n, "[", "go", "1", "]"]
theorem tz2 (n:Int):sa1 n=Str.join " " (("keep" : Str) :: "great" :: rG n):=by
 apply yy0;rw [tk0];have e1:cp ("keep great times " : Str)=cp ("keep" : Str) ++ 32 :: (cp ("great" : Str) ++ 32 :: (cp ("times" : Str) ++ [32])):=by decide +kernel
 have e2:cp (" [ go 1 ]" : Str)=32 :: jn ((["[", "go", "1", "]"]:List Str).map cp):=by decide +kernel
 unfold sa1;rw [zy0,zy0,e1,e2];simp [rG,jn]
theorem vl3 (n:Int):∀ t ∈ ("keep" : Str) :: "great" :: rG n,32 ∉ cp t:=by
 have h:∀ t ∈ (["keep", "great", "times", "[", "go", "1", "]"]:List Str),32 ∉ cp t:=by decide +kernel
 intro t ht;simp only [rG,mem_cons,not_mem_nil,or_false] at ht;rcases ht with rfl | rfl | rfl | rfl | rfl | rfl | rfl | rfl
 ·exact h _ [18]
 ·exact h _ [18]
 ·exact h _ [18]
 ·exact ua4 n
 all_goals exact h _ [18]
theorem ur3 (n:Int):Txt.split (sa1 n) " " = ("keep" : Str) :: "great" :: rG n:=by
 rw [tz2]; exact zw0 [18] (vl3 n)
theorem okn_ns (h0:0<=n) (h1:n<=G):okn (cp (nsT n)):=by
 have e:=wa2 h0;have p:=yo2 n.toNat;have l:=sc3 (k:=20) [8] (m:=n.toNat) (by unfold G at h1; omega);have a:=yu0 n.toNat
 have hb:bare (cp (nsT n))=dg n.toNat:=by
  unfold bare;rw [e,if_neg];intro z;cases h:dg n.toNat with
  | nil=>rw [h] at p; simp at p
  | cons c r=>rw [h] at z a; simp at z; have:=a c [18]; omega
 refine ⟨?_,?_⟩
 ·rw [hb];unfold figs;rw [decide_eq_true ⟨p,l⟩,Bool.true_and,all_eq_true];intro c hc;exact decide_eq_true (a c hc)
 ·rw [hb,e];rintro ⟨z1,z2⟩;cases h:dg n.toNat with
  | nil=>rw [h] at p; simp at p
  | cons c r=>rw [h] at z1 z2; simp at z1; subst z1; exact z2 (by rw [we4 h])
theorem pr_G (h0:0<=n) (h1:n<=G):PR false 0 (rG n)=some (gw n,[]):=by
 have e:num? (nsT n)=some n:=by unfold num?; rw [if_pos (okn_ns h0 h1)]; exact uy2 ⟨by unfold G at *; omega,h1⟩
 have e2:PR false 1 ["go", "1", "]"]=some ([Dd.go 1],[("]" : Str)]):=by kernel_rfl
 unfold rG;rw [vn1 [8],sh1,e];simp only [Option.bind_some,inr];rw [if_pos ⟨trivial,by decide⟩,e2];simp only [clo,if_true,Option.bind_some,tn3,Option.map_some];rfl
theorem vc4 (h0:0<=n) (h1:n<=G):un1 (sa1 n) "great" (gw n) /\ Lim (sa1 n):=by
 have hl:(nsT n).length<=21:=by rw [sb0]; exact ys0 ⟨by unfold G at *; omega,h1⟩
 have es:=ur3 n
 have ee:prts (Str.join " " (rG n))=rG n:=by
  have e3:Txt.split (Str.join " " (rG n)) " " = rG n:=zw0 (by simp [rG]) λ t ht=>vl3 n t (.tail _ (.tail _ ht));unfold prts;rw [if_neg,e3];intro z;rw [z] at e3;have:=congrArg List.length e3;rw [show (Txt.split ("" : Str) " ").length=1 by decide +kernel] at this;simp [rG] at this
 refine ⟨tq0 es [55] (by simp [rG]) (by rw [ee]; exact pr_G h0 h1) (wd_g h0 h1),?_⟩;have k1:("keep great times " : Str).length=17:=by decide +kernel
 have k2:(" [ go 1 ]" : Str).length=9:=by decide +kernel
 have sl:∀ a b:Str,(a ++ b).length=a.length + b.length:=λ a b=>by rw [sb0,sb0,sb0,zy0,length_append]
 have hL:(sa1 n).length<=47:=by unfold sa1; rw [sl,sl]; omega
 have hw:=ss2 (z:=sa1 n)
 have hw2:wt (rG n)<=48:=by
  rw [es,uy0,uy0] at hw;omega
 have hs:=xj3 (rG n);refine ⟨by omega,λ t ht=>?_,λ t ht=>?_,?_,?_,?_⟩
 ·have:=xk2 ht; omega
 ·rw [es] at ht;have h:∀ t ∈ (["keep", "great", "times", "[", "go", "1", "]"]:List Str),PyData.strOk t=true:=by decide +kernel
  simp only [rG,mem_cons,not_mem_nil,or_false] at ht;rcases ht with rfl | rfl | rfl | rfl | rfl | rfl | rfl | rfl
  ·exact h _ [18]
  ·exact h _ [18]
  ·exact h _ [18]
  ·simp only [PyData.strOk,<- Array.all_toList,all_eq_true,decide_eq_true_eq];intro c hc;have hc:c ∈ cp (nsT n):=hc;rw [wa2 h0] at hc;have:=yu0 _ c hc;omega
  all_goals exact h _ [18]
 ·rw [es]; exact show 8<=3000 by decide
 ·rw [es]; exact Nat.le_trans (va3 (rG n)) [7]
 ·rw [es]; show ((rG n).map (·.length)).sum + (rG n).length<=_; omega
theorem yp4:PyData.strOk ("go" : Str)=true:=by decide +kernel
theorem vt2:PyData.strOk ("jump" : Str)=true:=by decide +kernel
theorem wt2:PyData.strOk ("turn" : Str)=true:=by decide +kernel
theorem xf2:PyData.strOk ("times" : Str)=true:=by decide +kernel
mutual
def pe:Dd->PyData
 | .go n=>.tuple [.str "go",.int n]
 | .jump n=>.tuple [.str "jump",.int n]
 | .turn n=>.tuple [.str "turn",.int n]
 | .times n w=>.tuple [.str "times",.int n,.tuple (pes w)]
def pes:List Dd->List PyData
 | []=>[]
 | d :: r=>pe d :: pes r
end
mutual
theorem ue4:∀ d,dat (enc d)=some (pe d)
 | .go n=>by simp only [enc,dat,dats,yp4,if_true,pe]
 | .jump n=>by simp only [enc,dat,dats,vt2,if_true,pe]
 | .turn n=>by simp only [enc,dat,dats,wt2,if_true,pe]
 | .times n w=>by simp only [enc,dat,dats,xf2,if_true,pe,wu0 w]
theorem wu0:∀ w,dats (encs w)=some (pes w)
 | []=>by simp only [encs,dats,pes]
 | d :: r=>by simp only [encs,dats,pes,ue4 d,wu0 r]
end
mutual
theorem xd3:∀ d,(pe d).depth<=2 * dep d + 1
 | .go n=>by simp [pe,PyData.depth,PyData.depthAll]
 | .jump n=>by simp [pe,PyData.depth,PyData.depthAll]
 | .turn n=>by simp [pe,PyData.depth,PyData.depthAll]
 | .times n w=>by
  have:=zu0 w;simp only [pe,PyData.depth,PyData.depthAll,dep];omega
theorem zu0:∀ w,PyData.depthAll (pes w)<=2 * deps w + 1
 | []=>by simp [pes,PyData.depthAll]
 | d :: r=>by
  have h1:=xd3 d;have h2:=zu0 r;simp only [pes,PyData.depthAll,deps];omega
end
open Mt
theorem wr0 {k k':Sum Int Str} {y:D}:valK (putY kvs k y) k'=if k=k' then some y else valK kvs k':=by
 unfold putY;by_cases c:(kvs.any λ kv=>decide (kv.1=k))=true
 ·rw [if_pos c]
  induction kvs with
  | nil=>cases c
  | cons a r ih =>
   rw [map_cons];by_cases e:a.1=k
   ·rw [if_pos e];by_cases e2:k=k'
    ·rw [if_pos e2];simp only [valK,find?_cons,e,e2,decide_true,Option.map_some]
    ·rw [if_neg e2];have n:¬ a.1=k':=λ z=>e2 (e.symm.trans z);have s1:valK ((a.1,y) :: r.map λ kv=>if kv.1=k then (kv.1,y) else kv) k'=valK (r.map λ kv=>if kv.1=k then (kv.1,y) else kv) k':=by simp only [valK,find?_cons,decide_eq_false n]
     have s2:valK (a :: r) k'=valK r k':=by simp only [valK,find?_cons,decide_eq_false n]
     rw [s1,s2];by_cases cr:(r.any λ kv=>decide (kv.1=k))=true
     ·rw [ih cr,if_neg e2]
     ·have:(r.map λ kv=>if kv.1=k then (kv.1,y) else kv)=r:=by
        rw [map_congr_left (g:=id),List.map_id];intro x hx;rw [if_neg (λ z=>cr (List.any_eq_true.mpr ⟨x,hx,decide_eq_true z⟩))]; rfl
      rw [this]
   ·rw [if_neg e];have cr:(r.any λ kv=>decide (kv.1=k))=true:=by simpa [any_cons,e] using c
    by_cases e3:a.1=k'
    ·have e2:¬ k=k':=λ z=>e (e3.trans z.symm);rw [if_neg e2];simp only [valK,find?_cons,e3,decide_true,Option.map_some]
    ·have s1:valK (a :: r.map λ kv=>if kv.1=k then (kv.1,y) else kv) k'=valK (r.map λ kv=>if kv.1=k then (kv.1,y) else kv) k':=by simp only [valK,find?_cons,decide_eq_false e3]
     have s2:valK (a :: r) k'=valK r k':=by simp only [valK,find?_cons,decide_eq_false e3]
     rw [s1,s2,ih cr]
 ·rw [if_neg c];unfold valK;rw [List.find?_append];by_cases e:k=k'
  ·subst e;have:kvs.find? (λ kv=>decide (kv.1=k))=none:=List.find?_eq_none.mpr λ x hx z=>c (List.any_eq_true.mpr ⟨x,hx,z⟩);rw [this,if_pos rfl];simp
  ·rw [if_neg e];cases h:kvs.find? (λ kv=>decide (kv.1=k')) with
   | some x=>rfl
   | none=>simp [e]
theorem vw3 (kvs:[47]) (k:Sum Int Str) (y:D):(putY kvs k y).length<=kvs.length + 1:=by
 unfold putY;split <;> simp
theorem uw3 {P:D->Prop} {k:Sum Int Str} {y:D} (h:∀ kv ∈ kvs,P kv.2) (hy:P y):∀ kv ∈ putY kvs k y,P kv.2:=by
 unfold putY;intro kv hk;split at hk
 ·obtain ⟨x,hx,rfl⟩:=List.mem_map.mp hk;split
  ·exact hy
  ·exact h x hx
 ·rcases List.mem_append.mp hk with z | z
  ·exact h kv z
  ·rw [mem_singleton] at z; subst z; exact hy
def Kw (d:D):Prop:=∃ w,d=.tup (encs w) /\ deps w<=4
def Tb (n:Nat) (kvs:[47]):Prop:=kvs.length<=n /\ (∀ kv ∈ kvs,Kw kv.2) /\ valK kvs (.inr "nobody")=none
variable {m:Str}
theorem Tb.put {n:Nat} (h:Tb n kvs) (hm:m ≠ "nobody") (hw:Wd w):Tb (n + 1) (putY kvs (.inr m) [69]):=by
 refine ⟨Nat.le_trans (vw3 _ _ _) (Nat.succ_le_succ h.1),uw3 h.2.1 ⟨w,rfl,hw.2.1⟩,?_⟩;rw [wr0,if_neg (λ z=>hm (Sum.inr.inj z))];exact h.2.2
theorem Kw.da {d:D} (h:Kw d) (μ:Mu):∃ p,datM μ d=some p /\ p.depth < 64:=by
 obtain ⟨w,rfl,hd⟩:=h;refine ⟨.tuple (pes w),by simp only [datM,dat,wu0],?_⟩;have:=zu0 w;simp only [PyData.depth];omega
theorem vc3 (hp:M p=some (.dck kvs)) (hq:M q=some (.dck kvs)) (h:∀ kv ∈ kvs,Kw kv.2) (k:K (.bl false) M):dneR [43] (.ref q) M K:=by
 simp only [dneR,hp,hq];exact ⟨trivial,λ kv hk=>(h kv hk).da M,k⟩
variable {ρ:St3} {te:TE3}
theorem tf2 {n:Nat} {P:Str->Prop} (h2:getI ρ 2=some [43]) (hD:Dk M p d kvs) (ht:Tb n kvs) (hn:n<=100) (hz:∀ K':VK3,(∀ z M',P z->Ext M M'->K' (.str z) M')->te ρ M K') (hT:∀ z,P z->wn1 kvs z a /\ Lim z) (k:∀ M',Ext M M'->K (.str a) M'):xd0 "Desk" "say" tj0 (v3 2) (cons3 te nil3) ρ M K:=by
 unfold xd0 v3;rw [h2];dsimp only;rw [hD.1];refine ⟨⟨rfl,rfl⟩,?_⟩;refine hz _ λ z M' hz e'=>?_;exact ⟨p,d,kvs,z,rfl,⟨e' _ _ hD.1,e' _ _ hD.2⟩,by have:=ht.1; omega,(hT z hz).2,.inl ⟨a,(hT z hz).1,λ M2 e2=>k M2 (e'.trans e2)⟩⟩
theorem sj3 {n:Nat} {P:Str->Prop} (h2:getI ρ 2=some [43]) (h4:getI ρ 4=some (.ref q)) (hD:Dk M p d kvs) (hq:M q=some (.dck kvs)) (ht:Tb n kvs) (hn:n<=100) (hz:∀ K':VK3,(∀ z M',P z->Ext M M'->K' (.str z) M')->te ρ M K') (hT:∀ z,P z->wn1 kvs z a /\ Lim z) (k:∀ M',Ext M M'->D'.nx ρ M') :
    ifs3 (or3 (b3 (o3 neR (xd0 "Desk" "say" tj0 (v3 2) (cons3 te nil3)) (c3 (.str a)))) (b3 (o3 dneR (xd0 "Desk" "all_words" spAw (v3 2) nil3) (v3 4)))) (ret3 (c3 (.bl false))) next3 D' ρ M:=by
 refine tf2 h2 hD ht hn hz hT λ M1 e1=>?_
 have en:∀ (K:VK3) (M:Mu),neR (.str a) (.str a) M K=K (.bl false) M:=λ K M=>by
  show K (.bl (!decide (a=a))) M=_;rw [decide_eq_true rfl]; rfl
 dsimp only [c3];rw [en];dsimp only;rw [if_neg [8]];show xd0 "Desk" "all_words" spAw (v3 2) nil3 ρ M1 _;unfold xd0 v3;rw [h2];dsimp only;rw [e1 _ _ hD.1];refine ⟨⟨rfl,rfl⟩,p,d,kvs,rfl,⟨e1 _ _ hD.1,e1 _ _ hD.2⟩,λ r hr=>?_⟩;rw [h4];dsimp only;have xr:Ext M1 (updM M1 r (.dck kvs)):=Ext.new hr;refine vc3 ya0 (xr _ _ (e1 _ _ hq)) ht.2.1 ?_;dsimp only;rw [if_neg [8]];exact k _ (e1.trans xr)
theorem yl2 {n:Nat} (h2:getI ρ 2=some [43]) (hD:Dk M p d kvs) (ht:Tb n kvs) (hn:n<=100) (hz:∀ K':VK3,K' (.str z) M->te ρ M K') (hT:un1 z m w /\ Lim z) (k:∀ M',Ext M M'->D'.nx ρ (updM M' d (.dck (putY kvs (.inr m) [69])))) :
    drop3 (xd0 "Desk" "say" tj0 (v3 2) (cons3 te nil3)) D' ρ M:=by
 unfold drop3 xd0 v3;rw [h2];dsimp only;rw [hD.1];refine ⟨⟨rfl,rfl⟩,?_⟩;refine hz _ ?_;exact ⟨p,d,kvs,z,rfl,hD,by have:=ht.1; omega,hT.2,.inr ⟨m,w,hT.1,k⟩⟩
theorem Dk.put {M':Mu} {kvs':[47]} (h:Dk M p d kvs) (e:Ext M M'):Dk (updM M' d (.dck kvs')) p d kvs':=by
 refine ⟨?_,ya0⟩;rw [za0]
 ·exact e _ _ h.1
 ·intro z; subst z; have:=h.2; rw [h.1] at this; cases this
open Mt
def yt2:Sp3:=λ ds μ Q=>∃ ns:List Int,ds=[.fls (ns.map D.int)] /\ ns.length<=63 /\ ∀ μ',Q (.bl true) μ'
def Full (n:Int) (kvs:[47]):Prop:=Tb 10 kvs /\ valK kvs (.inr "long")=some (.tup (encs lw)) /\ valK kvs (.inr "great")=some (.tup (encs (gw n)))
theorem xs3:(Wd lw /\ sks lw<=60 /\ dns lw<=400):=⟨wd_l,by simp [lw,sks,sk,List.replicate],by simp [lw,dns,dn,List.replicate]⟩
theorem many_l:¬ Wd (lw ++ lw) /\ (lw ++ lw).length<=60:=⟨λ h=>by have:=h.2.2; simp [lw,cnts,cnt,List.replicate] at this,by decide⟩
def grL:List Str:=["strokes great", "trails great", "same great long", "same long great", "shape great great"]
theorem tb3 (h:Full n kvs) (h0:401<=n) (h1:n<=G) (hz:z ∈ grL ++ [[61]]):wn1 kvs z "too great" /\ Lim z:=by
 have g:=gr_g h0 h1;obtain ⟨_,hl,hg⟩:=h;have all:(grL ++ [[61]]).all yn2=true:=by decide +kernel
 have s1:Txt.split ("strokes great" : Str) " " = (["strokes", "great"]:List Str):=by decide +kernel
 have s2:Txt.split ("trails great" : Str) " " = (["trails", "great"]:List Str):=by decide +kernel
 have s3:Txt.split ("same great long" : Str) " " = (["same", "great", "long"]:List Str):=by decide +kernel
 have s4:Txt.split ("same long great" : Str) " " = (["same", "long", "great"]:List Str):=by decide +kernel
 have s5:Txt.split ("shape great great" : Str) " " = (["shape", "great", "great"]:List Str):=by decide +kernel
 have s6:Txt.split [61] " " = (["join", "long", "long", "long"]:List Str):=by decide +kernel
 refine vb1 (List.all_eq_true.mp all z hz) λ t m r e _=>?_;simp only [grL,mem_cons,mem_append,not_mem_nil,or_false] at hz;rcases hz with (rfl | rfl | rfl | rfl | rfl) | rfl
 ·rw [s1] at e; cases e;exact .inr ⟨[gw n],by rw [if_neg [8]]; simp only [map_cons,map_nil,hg],.st g⟩
 ·rw [s2] at e; cases e;exact .inr ⟨[gw n],by rw [if_neg [8]]; simp only [map_cons,map_nil,hg],.tr g⟩
 ·rw [s3] at e; cases e;exact .inr ⟨[gw n,lw],by rw [if_neg [8]]; simp only [map_cons,map_nil,hg,hl],.sm (.inl g)⟩
 ·rw [s4] at e; cases e;exact .inr ⟨[lw,gw n],by rw [if_neg [8]]; simp only [map_cons,map_nil,hg,hl],.sm (.inr ⟨xs3,g⟩)⟩
 ·rw [s5] at e; cases e;exact .inr ⟨[gw n,gw n],by rw [if_neg [8]]; simp only [map_cons,map_nil,hg],.sh (.inl g)⟩
 ·rw [s6] at e; cases e;exact .inr ⟨[lw,lw],by rw [if_pos rfl]; simp only [map_cons,map_nil,hl],.join many_l.1 many_l.2⟩
def WLn (a:Str) (p d q:Addr) (kvs:[47]) (l:List D) (ρ:St3) (μ:Mu):Prop:=(∃ zs:List Str,l=sD zs /\ ∀ z ∈ zs,wn1 kvs z a /\ Lim z) /\ (∃ y0 y1 y3 y5 y6 y7,ρ=[y0,y1,some [43],y3,some (.ref q),y5,y6,y7]) /\ Dk μ p d kvs /\ μ q=some (.dck kvs)
theorem xr1 {b:Addr} {n:Nat} {zs:[29]} (ht:Tb n kvs) (hn:n<=100) (h:WLn a p d q kvs (sD zs) ρ μ) (hb:μ b=some (.lst (sD zs))) (hr:∀ ρ' μ',WLn a p d q kvs [] ρ' μ'->D'.nx ρ' μ') :
    wb2 (λ μ=>μ b=some (.lst (sD zs))) (gn3 7) (ifs3 (or3 (b3 (o3 neR (xd0 "Desk" "say" tj0 (v3 2) (cons3 (v3 7) nil3)) (c3 (.str a)))) (b3 (o3 dneR (xd0 "Desk" "all_words" spAw (v3 2) nil3) (v3 4)))) (ret3 (c3 (.bl false))) next3) D' (sD zs) ρ μ:=by
 refine sh0 (λ l ρ μ=>WLn a p d q kvs l ρ μ /\ μ b=some (.lst (sD zs))) ⟨h,hb⟩ (λ _ _ _ w=>w.2) (λ ρ' μ' w=>hr ρ' μ' w.1) ?_;rintro x r ρ1 μ1 ⟨⟨⟨ys,e,hy⟩,⟨y0,y1,y3,y5,y6,y7,rfl⟩,hD,hq⟩,hb⟩;cases ys with
 | nil=>cases e
 | cons z ys =>
  simp only [sD,map_cons,List.cons.injEq] at e;obtain ⟨rfl,rfl⟩:=e;refine sj3 (ρ:=[y0,y1,some [43],y3,some (.ref q),y5,y6,some (.str z)]) rfl rfl hD hq ht hn (P:=λ y=>y=z) (λ K' k=>k _ _ rfl [86]) (λ y e=>by rw [e]; exact hy z (.head _)) λ M e=>?_;exact ⟨⟨⟨ys,rfl,λ z hz=>hy z (.tail _ hz)⟩,⟨y0,y1,y3,y5,y6,_,rfl⟩,⟨e _ _ hD.1,e _ _ hD.2⟩,e _ _ hq⟩,e _ _ hb⟩
theorem sb4 (ns:List Int) (s p d qd:Addr) (y3:Option D) (N:St3->Mu->Prop) (μ:Mu) (K:[47]) (n:Int) (F:Full n K) (n0:401<=n) (n1:n<=G) (hD:Dk μ p d K) (hq:μ qd=some (.dck K)) (Q:VK3) (q:∀ μ',Q (.bl true) μ'):vo1 spIn spAw tj0 wd0 spOd wh0 { nx:=N,rt:=Q } [some (.fls (ns.map D.int)),some (.ref s),some [43],y3,some (.ref qd),none,none,none] μ:=by
 refine ⟨⟨by decide,by decide⟩,?_⟩;refine sh0 (λ l ρ μ'=>(∃ (m:Nat) (lo:Int),0<=lo /\ l=rngD lo m) /\ (∃ y5,ρ=[some (.fls (ns.map D.int)),some (.ref s),some [43],y3,some (.ref qd),y5,none,none]) /\ Dk μ' p d K /\ μ' qd=some (.dck K)) ?_ (λ _ _ _ _=>trivial) ?_ ?_
 ·exact ⟨⟨(6:Int).toNat,0,by decide,rfl⟩,⟨none,rfl⟩,hD,hq⟩
 ·rintro ρ μ1 ⟨_,⟨y5,rfl⟩,hD,hq⟩;show wo1 spIn spAw tj0 wd0 spOd wh0 _ _ _;refine ⟨show 5<=sizeLine by decide,λ b hb=>?_⟩;have x1:Ext μ1 (updM μ1 b (.lst (sD nob0))):=Ext.new hb;have b1:updM μ1 b (.lst (sD nob0)) b=some (.lst (sD nob0)):=ya0;show zo1 spIn spAw tj0 wd0 spOd wh0 _ [some (.fls (ns.map D.int)),some (.ref s),some [43],y3,some (.ref qd),y5,some (.ref b),none] (updM μ1 b (.lst (sD nob0)));generalize updM μ1 b (.lst (sD nob0))=M1 at x1 b1;refine ⟨show 5<=sizeLine by decide,λ c hc=>?_⟩;have x2:Ext M1 (updM M1 c (.lst (sD nob1))):=Ext.new hc;have b2:=x2 _ _ b1;have c2:updM M1 c (.lst (sD nob1)) c=some (.lst (sD nob1)):=ya0;show addR (.ref b) (.ref c) (updM M1 c (.lst (sD nob1))) _;generalize updM M1 c (.lst (sD nob1))=M2 at x2 b2 c2;simp only [addR,b2,c2];refine ⟨by decide,λ g hg=>?_⟩;have x3:Ext M2 [97]:=Ext.new hg;show (match updM M2 g (.lst (sD nob0 ++ sD nob1)) g with | some (.lst l)=>_ | _=>False);rw [ya0];dsimp only [cons3,c3,nil3];simp only [appR,ya0];refine ⟨by decide,?_⟩;have xx:=x1.trans x2
  have D3:Dk (updM [97] g (.lst (sD nobL))) p d K:=by
   refine ⟨?_,?_⟩
   ·rw [za0 (ua0 (xx _ _ hD.1) hg)]; exact x3 _ _ (xx _ _ hD.1)
   ·rw [za0 (ua0 (xx _ _ hD.2) hg)]; exact x3 _ _ (xx _ _ hD.2)
  have q3:updM [97] g (.lst (sD nobL)) qd=some (.dck K):=by
   rw [za0 (ua0 (xx _ _ hq) hg)]; exact x3 _ _ (xx _ _ hq)
  have g3:updM [97] g (.lst (sD nobL)) g=some (.lst (sD nobL)):=ya0;show ve1 spIn spAw tj0 wd0 spOd wh0 _ [some (.fls (ns.map D.int)),some (.ref s),some [43],y3,some (.ref qd),y5,some (.ref g),none] (updM [97] g (.lst (sD nobL)));generalize updM [97] g (.lst (sD nobL))=M3 at D3 q3 g3;show (match M3 g with | some (.lst l)=>_ | _=>False);rw [g3];refine xr1 F.1 [8] ⟨⟨nobL,rfl,λ z hz=>uj2 F.1.2.2 hz⟩,⟨_,_,_,_,_,_,rfl⟩,D3,q3⟩ g3 ?_;rintro ρ4 M4 ⟨_,⟨z0,z1,z3,z5,z6,z7,rfl⟩,D4,q4⟩;refine ⟨show 5<=sizeLine by decide,λ h hh=>?_⟩;have x5:Ext M4 (updM M4 h (.lst (sD grL))):=Ext.new hh;have h5:updM M4 h (.lst (sD grL)) h=some (.lst (sD grL)):=ya0;show we1 spIn spAw tj0 wd0 spOd wh0 _ [z0,z1,some [43],z3,some (.ref qd),z5,some (.ref h),z7] (updM M4 h (.lst (sD grL)));generalize updM M4 h (.lst (sD grL))=M5 at x5 h5;refine ⟨show 1<=sizeLine by decide,λ c hc=>?_⟩;have x6:Ext M5 (updM M5 c (.lst (sD [[61]]))):=Ext.new hc;have h6:=x6 _ _ h5;have c6:updM M5 c (.lst (sD [[61]])) c=some (.lst (sD [[61]])):=ya0;show addR (.ref h) (.ref c) (updM M5 c (.lst (sD [[61]]))) _;generalize updM M5 c (.lst (sD [[61]]))=M6 at x6 h6 c6;simp only [addR,h6,c6];refine ⟨by decide,λ g hg=>?_⟩;rw [<- sf2];have x7:Ext M6 (updM M6 g (.lst (sD (grL ++ [[61]])))):=Ext.new hg;have g7:updM M6 g (.lst (sD (grL ++ [[61]]))) g=some (.lst (sD (grL ++ [[61]]))):=ya0;have x8:=x5.trans (x6.trans x7);rw [g7];refine xr1 F.1 [8] ⟨⟨_,rfl,λ z hz=>tb3 F n0 n1 hz⟩,⟨_,_,_,_,_,_,rfl⟩,⟨x8 _ _ D4.1,x8 _ _ D4.2⟩,x8 _ _ q4⟩ g7 ?_;rintro ρ9 M9 ⟨_,⟨z0,z1,z3,z5,z6,z7,rfl⟩,D9,q9⟩;show (match M9 p with | some (.ins c' fs)=>_ | _=>False);rw [D9.1];refine ⟨⟨rfl,rfl⟩,p,d,K, "keep long",rfl,D9,by have:=F.1.1; omega,keeps_0.2,.inr ⟨"long",[],keeps_0.1,λ M e=>?_⟩⟩;have DA:=D9.put (kvs':=putY K (.inr "long") (.tup (encs []))) e;have tA:=F.1.put (m := "long") [8] wd_nil;have vA:valK (putY K (.inr "long") (.tup (encs []))) (.inr "long")=some (.tup (encs [])):=by rw [wr0,if_pos rfl]
  generalize updM M d (.dck (putY K (.inr "long") (.tup (encs []))))=MA at DA;generalize putY K (.inr "long") (.tup (encs []))=KA at DA tA vA;have all:(["show long", "strokes long"]:List Str).all yn2=true:=by decide +kernel
  have s1:Txt.split ("show long" : Str) " " = (["show", "long"]:List Str):=by decide +kernel
  have s2:Txt.split ("strokes long" : Str) " " = (["strokes", "long"]:List Str):=by decide +kernel
  have eS:∀ (x:Str) (M:Mu) (K:VK3),eqR (.str x) (.str x) M K=K (.bl true) M:=λ x M K=>by
   show K (.bl (decide (x=x))) M=_;rw [decide_eq_true rfl]
  dsimp only [c3];rw [eS];dsimp only;rw [if_pos rfl];show xd0 "Desk" "say" tj0 (v3 2) (cons3 (c3 (.str "show long")) nil3) [z0,z1,some [43],z3,some (.ref qd),z5,z6,z7] MA _;refine tf2 (P:=λ z=>z = "show long") (a := "") rfl DA tA [8] (λ K' k=>k _ _ rfl [86]) (λ z hz=>?_) λ MB eB=>?_
  ·subst hz;refine vb1 (List.all_eq_true.mp all _ (.head _)) λ t m r e _=>?_;rw [s1] at e; cases e;exact .inr ⟨[[]],by rw [if_neg [8]]; simp only [map_cons,map_nil,vA],.show⟩
  dsimp only [c3];rw [eS];dsimp only;rw [if_pos rfl];show xd0 "Desk" "say" tj0 (v3 2) (cons3 (c3 (.str "strokes long")) nil3) [z0,z1,some [43],z3,some (.ref qd),z5,z6,z7] MB _;refine tf2 (P:=λ z=>z = "strokes long") (a := "0") rfl (n:=11) ⟨eB _ _ DA.1,eB _ _ DA.2⟩ tA [8] (λ K' k=>k _ _ rfl [86]) (λ z hz=>?_) λ MC eC=>?_
  ·subst hz;refine vb1 (List.all_eq_true.mp all _ (.tail _ (.head _))) λ t m r e _=>?_;rw [s2] at e; cases e;exact .inr ⟨[[]],by rw [if_neg [8]]; simp only [map_cons,map_nil,vA],.st0⟩
  dsimp only [c3];rw [eS];exact q MC
 ·rintro x rest ρ μ1 ⟨⟨m,lo,h0,el⟩,⟨y5,rfl⟩,hD,hq⟩;cases m with
  | zero=>simp [rngD] at el
  | succ m =>
   rw [yg2] at el;simp only [List.cons.injEq] at el;obtain ⟨rfl,rfl⟩:=el;refine sj3 (ρ:=[some (.fls (ns.map D.int)),some (.ref s),some [43],y3,some (.ref qd),some (.int lo),none,none]) (P:=λ z=>z ∈ oddL) rfl rfl hD hq F.1 [8] (λ K' k=>?_) (λ z hz=>?_) λ M e=>?_
   ·refine ⟨ns,1 + lo,rfl,by omega,λ a b r ha hr=>⟨r,a,b,rfl,ya0,ha,λ t M' ht hx=>k t M' ht λ x o hxo=>?_⟩⟩;have:x ≠ r:=ua0 hxo hr;exact hx x o this (by rw [za0 this]; exact hxo)
   ·have:=List.all_eq_true.mp va4 z hz;rw [Bool.and_eq_true] at this;exact ⟨.inl ⟨xg4 this.2,rfl⟩,ug1 this.1⟩
   ·exact ⟨⟨m,lo + 1,by omega,rfl⟩,⟨_,rfl⟩,⟨e _ _ hD.1,e _ _ hD.2⟩,e _ _ hq⟩
theorem zd5:RdQ yt2 (wn4 spIn spAw tj0 wd0 spOd wh0) xj4:=by
 rintro ds μ Q ⟨ns,rfl,hn,q⟩;refine ⟨ns,0,rfl,by decide,λ a b s ha hs=>?_⟩;show so1 spIn spAw tj0 wd0 spOd wh0 _ [some (.fls (ns.map D.int)),some (.ref s),none,none,none,none,none,none] _;intro p hp
 have s1:updM (updM μ s (.lst [.int a,.bl b])) p (.ins "Desk" []) s=some (.lst [.int a,.bl b]):=by
  rw [za0 (ua0 ya0 hp)]; exact ya0
 generalize hM:updM (updM μ s (.lst [.int a,.bl b])) p (.ins "Desk" [])=M1 at s1;have p1:M1 p=some (.ins "Desk" []):=by rw [<- hM]; exact ya0
 refine ⟨p,rfl,p1,λ d hd=>⟨rfl,?_⟩⟩;have sp:s ≠ p:=λ z=>by subst z; rw [s1] at p1; cases p1
 have sd:s ≠ d:=ua0 s1 hd
 have s2:updM (updM M1 d (.dck [])) p [103] s=some (.lst [.int a,.bl b]):=by
  rw [za0 sp,za0 sd]; exact s1
 have D2:Dk (updM (updM M1 d (.dck [])) p [103]) p d []:=⟨ya0,by rw [za0 (λ z=>by subst z; rw [p1] at hd; cases hd)]; exact ya0⟩;generalize updM (updM M1 d (.dck [])) p [103]=M2 at s2 D2;show to1 spIn spAw tj0 wd0 spOd wh0 _ [some (.fls (ns.map D.int)),some (.ref s),some [43],none,none,none,none,none] M2;refine ⟨show 3<=sizeLine by decide,λ g hg=>?_⟩;have xg:Ext M2 [73]:=Ext.new hg;refine ⟨s,4,a,b,[],rfl,by decide,by decide,xg _ _ s2,ha,λ c a2 c0 c1 ha2=>?_⟩
 obtain ⟨m,em,hm,lm⟩:∃ m:List Str,cut3 [D.str "a",.str "b",.str "c"] none (some c)=sD m /\ (∀ x ∈ m,x ∈ (["a", "b", "c"]:List Str)) /\ m.length<=3:=by
  refine ⟨cut3 ["a", "b", "c"] none (some c),by show cut3 (sD ["a", "b", "c"]) none (some c)=_; unfold cut3; rw [ud0]; simp [sD,List.map_take,List.map_drop],λ x hx=>List.mem_of_mem_drop (List.mem_of_mem_take hx),?_⟩;unfold cut3;rw [length_take,length_drop];exact Nat.le_trans (Nat.min_le_right _ _) (Nat.sub_le _ _)
 have sg:s ≠ g:=ua0 s2 hg
 have D3:Dk (updM [73] s (.lst [.int a2,.bl b])) p d []:=by
  refine ⟨?_,?_⟩
  ·rw [za0 (Ne.symm sp)]; exact xg _ _ D2.1
  ·rw [za0 (Ne.symm sd)]; exact xg _ _ D2.2
 have g3:updM [73] s (.lst [.int a2,.bl b]) g=some (.lst [.str "a",.str "b",.str "c"]):=by rw [za0 (Ne.symm sg)]; exact ya0
 have s3:updM [73] s (.lst [.int a2,.bl b]) s=some (.lst [.int a2,.bl b]):=ya0;show (match updM [73] s (.lst [.int a2,.bl b]) g with | some (.lst l)=>_ | _=>False);generalize updM [73] s (.lst [.int a2,.bl b])=M3 at D3 g3 s3;rw [g3];dsimp only;rw [em];intro r hr;have xr:Ext M3 (updM M3 r (.lst (sD m))):=Ext.new hr;have sr:s ≠ r:=ua0 s3 hr;show (match updM M3 r (.lst (sD m)) r with | some (.lst l)=>_ | _=>False);rw [ya0];refine sh0 (λ l ρ μ'=>(∃ (ys:[29]) (kvs:[47]) (j:Nat),l=sD ys /\ (∀ x ∈ ys,x ∈ (["a", "b", "c"]:List Str)) /\ ys.length + j<=3 /\ Tb j kvs /\ Dk μ' p d kvs) /\ (∃ y3,ρ=[some (.fls (ns.map D.int)),some (.ref s),some [43],y3,none,none,none,none]) /\ μ' s=some (.lst [.int a2,.bl b]) /\ μ' r=some (.lst (sD m))) ?_ (λ _ _ _ w=>w.2.2.2) ?_ ?_
 ·exact ⟨⟨m,[],0,rfl,hm,lm,⟨Nat.le_refl _,(λ _ h=>nomatch h),rfl⟩,xr _ _ D3.1,xr _ _ D3.2⟩,⟨none,rfl⟩,xr _ _ s3,ya0⟩
 ·rintro ρ μ' ⟨⟨ys,kvs,j,e,_,lj,hT,hD⟩,⟨y3,rfl⟩,hs,_⟩;have tl:=hT.put (m := "long") [8] wd_l;dsimp only;unfold uo1 seq3;refine yl2 rfl hD hT [7] (λ K' k=>⟨⟨by decide,by decide⟩,⟨by decide +kernel,by decide +kernel⟩,by decide +kernel,k⟩) zc4 λ M4 e4=>?_;have D4:Dk (updM M4 d (.dck (putY kvs (.inr "long") (.tup (encs lw))))) p d (putY kvs (.inr "long") (.tup (encs lw))):=hD.put e4;have s4:updM M4 d (.dck (putY kvs (.inr "long") (.tup (encs lw)))) s=some (.lst [.int a2,.bl b]):=by rw [za0 sd]; exact e4 _ _ hs
  have v4:valK (putY kvs (.inr "long") (.tup (encs lw))) (.inr "long")=some (.tup (encs lw)):=by rw [wr0,if_pos rfl]
  generalize updM M4 d (.dck (putY kvs (.inr "long") (.tup (encs lw))))=M5 at D4 s4;generalize putY kvs (.inr "long") (.tup (encs lw))=kv4 at D4 tl v4;show (match M5 p with | some (.ins c' fs)=>_ | _=>False);rw [D4.1];refine ⟨⟨rfl,rfl⟩,⟨by decide,by decide,by decide⟩,s,_,a2,b,[],rfl,by decide,by decide,s4,ha2,λ c2 a3 c20 c21 ha3=>?_⟩;have ep:((10:Int) ^ (9:Int).toNat)=1000000000:=by decide
  rw [ep] at c21;have n0:401<=401 + c2:=by omega
  have n1:401 + c2<=G:=by unfold G; omega
  have hG:=vc4 (n:=401 + c2) [7] n1;have hL:(Mt.nsT (401 + c2)).length<=21:=by rw [sb0]; exact ys0 ⟨by unfold G; omega,n1⟩
  have k1:("keep great times " : Str).length=17:=by decide +kernel
  have k2:(" [ go 1 ]" : Str).length=9:=by decide +kernel
  have hz:(100000:Nat) < sizeLine:=by decide
  have sl:∀ a b:Str,(a ++ b).length=a.length + b.length:=λ a b=>by rw [sb0,sb0,sb0,zy0,length_append]
  have D5:Dk (updM M5 s (.lst [.int a3,.bl b])) p d kv4:=⟨by rw [za0 (Ne.symm sp)]; exact D4.1,by rw [za0 (Ne.symm sd)]; exact D4.2⟩;refine ⟨wg1 ⟨by unfold G; omega,n1⟩,show ("keep great times " : Str).length + (Mt.nsT (401 + c2)).length<=sizeLine by omega,show (("keep great times " : Str) ++ Mt.nsT (401 + c2)).length + (" [ go 1 ]" : Str).length<=sizeLine by rw [sl]; omega,?_⟩;refine ⟨p,d,kv4,sa1 (401 + c2),rfl,D5,by have:=tl.1; omega,hG.2,.inr ⟨"great",gw (401 + c2),hG.1,λ M6 e6=>?_⟩⟩;have D6:=D5.put (kvs':=putY kv4 (.inr "great") (.tup (encs (gw (401 + c2))))) e6
  have F:Full (401 + c2) (putY kv4 (.inr "great") (.tup (encs (gw (401 + c2))))):=by
   have tg:=tl.put (m := "great") [8] (wd_g (n:=401 + c2) [7] n1);refine ⟨⟨Nat.le_trans tg.1 [7],tg.2⟩,by rw [wr0,if_neg [8]]; exact v4,by rw [wr0,if_pos rfl]⟩
  generalize updM M6 d (.dck (putY kv4 (.inr "great") (.tup (encs (gw (401 + c2))))))=M7 at D6;generalize putY kv4 (.inr "great") (.tup (encs (gw (401 + c2))))=K at D6 F;show (match M7 p with | some (.ins c' fs)=>_ | _=>False);rw [D6.1];refine ⟨⟨rfl,rfl⟩,p,d,K,rfl,D6,λ qd hq=>?_⟩;exact sb4 ns s p d qd y3 _ _ K (401 + c2) F n0 n1 ⟨Ext.new hq _ _ D6.1,Ext.new hq _ _ D6.2⟩ ya0 Q q
 ·rintro x rest ρ μ' ⟨⟨ys,kvs,j,e,hy,lj,hT,hD⟩,⟨y3,rfl⟩,hs,hr⟩;cases ys with
  | nil=>cases e
  | cons z ys =>
   simp only [sD,map_cons,List.cons.injEq] at e;obtain ⟨rfl,rfl⟩:=e;have kz:=wc4 z (hy z (.head _))
   have zn:z ≠ "nobody" := by
    have:∀ x ∈ (["a", "b", "c"]:List Str),x ≠ "nobody" := by decide +kernel
    exact this z (hy z (.head _))
   have lz:("keep " : Str).length + z.length<=sizeLine /\ (("keep " : Str) ++ z).length + (" times 4 [ go 2 turn 1 ]" : Str).length<=sizeLine:=by
    have:∀ x ∈ (["a", "b", "c"]:List Str),("keep " : Str).length + x.length<=100 /\ (("keep " : Str) ++ x).length + (" times 4 [ go 2 turn 1 ]" : Str).length<=100:=by decide +kernel
    have hz:(100000:Nat) < sizeLine:=by decide
    have:=this z (hy z (.head _));omega
   rw [length_cons] at lj;refine yl2 (ρ:=[some (.fls (ns.map D.int)),some (.ref s),some [43],some (.str z),none,none,none,none]) rfl hD hT [7] (λ K' k=>⟨?_,?_,k⟩) kz λ M e=>?_
   ·exact lz.1
   ·exact lz.2
   ·exact ⟨⟨ys,_,j + 1,rfl,λ x hx=>hy x (.tail _ hx),by omega,hT.put zn wd_4,hD.put e⟩,⟨_,rfl⟩,by rw [za0 sd]; exact e _ _ hs,by rw [za0]; exact e _ _ hr; intro z; subst z; rw [hD.2] at hr; cases hr⟩
end Pv
namespace Pv
open PySem PySem.Spec PyProof.Rows L2
variable {P:List Value->Prop}
theorem bn1 (h:∀ a,P [a]) (us:[27]) (e:us.length=1):P us:=by
 match us,e with
 | [a],_=>exact h a
theorem bn2 (h:∀ a b,P [a,b]) (us:[27]) (e:us.length=2):P us:=by
 match us,e with
 | [a,b],_=>exact h a b
theorem bn3 (h:∀ a b c,P [a,b,c]) (us:[27]) (e:us.length=3):P us:=by
 match us,e with
 | [a,b,c],_=>exact h a b c
abbrev NsR (K:Fg) (x:Str) (p:Addr):Prop:=nsIn K mainGlobals x=some (some [43])
def FnA (K:Fg) (x:Str) (st:Stmt) (p:Addr):Prop:=∃ oc od sl kV dc pm an cd ct,K.lookup p=some ⟨oc,od,.func (fnOf x x (ug0 st) (wa0 st) (xa0 st) .none kV dc pm an cd ct),sl⟩ /\ codeIn K cd x=true /\ keepIn K [43]=true
variable {K:Fg} {x:Str} {p:Addr} {od an:Option Addr} {sl:[64]}
theorem fnA_mk {st:Stmt} {oc kV dc pm cd ct:Value} (l:K.lookup p=some ⟨oc,od,.func (fnOf x x (ug0 st) (wa0 st) (xa0 st) .none kV dc pm an cd ct),sl⟩) (c:codeIn K cd x=true) (k:keepIn K [43]=true):FnA K x st p:=⟨_,_,_,_,_,_,_,_,_,l,c,k⟩
theorem FnA.fn {st:Stmt} (h:FnA K x st p):∃ fd,Fun K x x st p fd:=by
 obtain ⟨_,_,_,_,_,_,_,_,_,l,c,k⟩:=h;exact ⟨_,zn2 (st:=st) l c k⟩
def FnM (K:Fg) (C:Addr) (m q:Str) (st:Stmt):Prop:=∃ p fd,Fun K m q st p fd /\ findIn K (.ref C) m=some (some [43]) /\ isFn K [43]=true
theorem fnM_mk {m q:Str} {st:Stmt} {C:Addr} {oc kV dc pm cd ct:Value} (a:findIn K (.ref C) m=some (some [43])) (i:isFn K [43]=true) (l:K.lookup p=some ⟨oc,od,.func (fnOf m q (ug0 st) (wa0 st) (xa0 st) .none kV dc pm an cd ct),sl⟩) (c:codeIn K cd q=true) (k:keepIn K [43]=true):FnM K C m q st:=⟨p,_,zn2 (st:=st) l c k,a,i⟩
theorem ti1 {P:[83]} {w:World} {K:Fg} {mg:[25]} {base:Heap} {C:Addr} {x q:Str} {st:Stmt} {N ps:[29]} {k:Nat} {sp:Sp3} {t:TS3} (A:FnM K C x q st) (S:FnScope N ps (xa0 st))
    (rs:∀ (f:Addr) (cdv:Value) (A:Around) (outer:List Env) (s:[88]) (H:Hp) (E:XK),Room k (A.deeper (envOfC q (xa0 st) s.heap.objs.size f cdv))->RSs (cxOf CX0 P w K mg base N q (xa0 st) f cdv A outer s H E).nox (wa0 st) t)
    (rd:∀ (ds:List D) (μ:Mu) (Q:VK3),sp ds μ Q->t { nx:=λ _ μ'=>Q .non μ',rt:=Q } (start3 N ds) μ)
    (hb:∀ f fd,Fun K x q st f fd->Binds K fd ps []:=by trivial)
    (len:∀ (ds:List D) (μ:Mu) (Q:VK3),sp ds μ Q->ds.length=ps.length:=by trivial):CalT P w K mg base (k + 1) C x ps sp:=by
 obtain ⟨p,fd,F,a,i⟩:=A;exact wf4 F a i (hb _ _ F) S len (rs p) rd
local macro_rules | `(tactic| trivial)=>`(tactic| first | (intro _ _ F; exact F.binds λ _ _ _ _ _ _=>by first | exact bn1 λ _=>rfl | exact bn2 λ _ _=>rfl | exact bn3 λ _ _ _=>rfl) | (intros; rename_i h; (first | exact h.elim | exact h.1 | repeat first | omega | (obtain ⟨e,_⟩:=h; subst e; rfl) | obtain ⟨_,h⟩:=h); done))
local macro_rules | `(tactic| trivial)=>`(tactic| first | with_reducible assumption | decide | exact Cal.mono (by with_reducible assumption) (by omega) | exact CalX.mono (by with_reducible assumption) (by omega))
def FnB (K:Fg) (x:Str) (st:Stmt):Prop:=∃ p,NsR K x p /\ FnA K x st p
theorem fnB_mk {st:Stmt} {oc kV dc pm cd ct:Value} (a:NsR K x p) (l:K.lookup p=some ⟨oc,od,.func (fnOf x x (ug0 st) (wa0 st) (xa0 st) .none kV dc pm an cd ct),sl⟩) (c:codeIn K cd x=true) (k:keepIn K [43]=true):FnB K x st:=⟨p,a,fnA_mk l c k⟩
theorem calZ {P:[83]} {w:World} {K:Fg} {mg:[25]} {base h:Heap} {x:Str} {st:Stmt} {ps:[29]} {c:Nat} {sp:Sp3} (X:K.In h) (G:h.Ns mainGlobals mg) (A:FnB K x st)
    (hb:∀ f fd,Fun K x x st f fd->Binds K fd ps []:=by trivial)
    (hz:∀ (ds:List D) (μ:Mu) (Q:VK3),sp ds μ Q->False:=by trivial):Cal P w K mg base (c) x ps (sp):=by
 obtain ⟨p,a,A⟩:=A;obtain ⟨_,F⟩:=A.fn;exact (ue3 F (mg_of X G a) (hb _ _ F) hz).mono (Nat.zero_le _)
variable {w:World} {mg:[25]} {base:Heap} {ps:[29]} {sd:Nat->Sp3} {c:Nat}
theorem pr {P:[83]} {y:Str} {qs:[29]} {sw:Nat->Sp3} (h0:Cal P w K mg base (c) x ps (sd 0)) (h1:∀ j,Cal P w K mg base (2 * j + c) x ps (sd j)->Cal P w K mg base (2 * j + c + 1) y qs (sw j)) (h2:∀ j,Cal P w K mg base (2 * j + c + 1) y qs (sw j)->Cal P w K mg base (2 * j + c + 2) x ps (sd (j + 1))) (J:Nat):Cal P w K mg base (2 * J + c) x ps (sd J) /\ Cal P w K mg base (2 * J + c + 1) y qs (sw J):=by
 have h:∀ j,Cal P w K mg base (2 * j + c) x ps (sd j):=λ j=>by
  induction j with
  | zero=>exact h0.mono [7]
  | succ j ih=>exact (h2 j (h1 j ih)).mono [7]
 exact ⟨h J,h1 J (h J)⟩
theorem se {P:[83]} (h0:Cal P w K mg base (c) x ps (sd 0)) (h1:∀ j,Cal P w K mg base (j + c) x ps (sd j)->Cal P w K mg base (j + c + 1) x ps (sd (j + 1))) (J:Nat):Cal P w K mg base (J + c) x ps (sd J):=by
 induction J with
 | zero=>exact h0.mono [7]
 | succ j ih=>exact (h1 j ih).mono [7]
theorem se3 {P:[83]} {w:World} {K:Fg} {mg:[25]} {base h:Heap} {x:Str} {st:Stmt} {ps:[29]} {c:Nat} {sp:[41]} (X:K.In h) (G:h.Ns mainGlobals mg) (A:FnB K x st)
    (hb:∀ f fd,Fun K x x st f fd->Binds K fd ps []:=by trivial)
    (hz:∀ (XE:XE3) (ds:List D) (μ:Mu) (Q:VK3),sp XE ds μ Q->False:=by trivial):CalX P w K mg base (c) x ps (sp):=by
 obtain ⟨p,a,A⟩:=A;obtain ⟨_,F⟩:=A.fn;exact (tq2 F (mg_of X G a) (hb _ _ F) hz).mono (Nat.zero_le _)
theorem prX {P:[83]} {y:Str} {qs:[29]} {sd sw:Nat->XE3->Sp3} (h0:CalX P w K mg base (c) x ps (sd 0)) (h1:∀ j,CalX P w K mg base (2 * j + c) x ps (sd j)->CalX P w K mg base (2 * j + c + 1) y qs (sw j)) (h2:∀ j,CalX P w K mg base (2 * j + c + 1) y qs (sw j)->CalX P w K mg base (2 * j + c + 2) x ps (sd (j + 1))) (J:Nat):CalX P w K mg base (2 * J + c) x ps (sd J) /\ CalX P w K mg base (2 * J + c + 1) y qs (sw J):=by
 have h:∀ j,CalX P w K mg base (2 * j + c) x ps (sd j):=λ j=>by
  induction j with
  | zero=>exact h0.mono [7]
  | succ j ih=>exact (h2 j (h1 j ih)).mono [7]
 exact ⟨h J,h1 J (h J)⟩
theorem calB {P:[83]} {w:World} {K:Fg} {mg:[25]} {base h:Heap} {x:Str} {st:Stmt} {N ps:[29]} {k:Nat} {sp:Sp3} {t:TS3} (X:K.In h) (G:h.Ns mainGlobals mg) (A:FnB K x st) (S:FnScope N ps (xa0 st))
    (rs:∀ (f:Addr) (cdv:Value) (A:Around) (outer:List Env) (s:[88]) (H:Hp) (E:XK),Room k (A.deeper (envOfC x (xa0 st) s.heap.objs.size f cdv))->RSs (cxOf CX0 P w K mg base N x (xa0 st) f cdv A outer s H E).nox (wa0 st) t)
    (rd:∀ (ds:List D) (μ:Mu) (Q:VK3),sp ds μ Q->t { nx:=λ _ μ'=>Q .non μ',rt:=Q } (start3 N ds) μ)
    (hb:∀ f fd,Fun K x x st f fd->Binds K fd ps []:=by trivial)
    (len:∀ (ds:List D) (μ:Mu) (Q:VK3),sp ds μ Q->ds.length=ps.length:=by trivial):Cal P w K mg base (k + 1) x ps sp:=by
 obtain ⟨p,a,A⟩:=A;obtain ⟨_,F⟩:=A.fn;exact cal_of F (mg_of X G a) (hb _ _ F) S len (rs p) rd
theorem ti0 {P:[83]} {w:World} {K:Fg} {mg:[25]} {base h:Heap} {x:Str} {st:Stmt} {N ps:[29]} {k:Nat} {sp:[41]} {t:XE3->TS3} (X:K.In h) (G:h.Ns mainGlobals mg) (A:FnB K x st) (S:FnScope N ps (xa0 st))
    (rs:∀ (f:Addr) (cdv:Value) (A:Around) (outer:List Env) (s:[88]) (H:Hp) (E:XK) (XE:XE3),Room k (A.deeper (envOfC x (xa0 st) s.heap.objs.size f cdv))->EXok K mg XE E->RSs (cxOf (CXn P w) P w K mg base N x (xa0 st) f cdv A outer s H E) (wa0 st) (t XE))
    (rd:∀ (XE:XE3) (ds:List D) (μ:Mu) (Q:VK3),sp XE ds μ Q->t XE { nx:=λ _ μ'=>Q .non μ',rt:=Q } (start3 N ds) μ)
    (hb:∀ f fd,Fun K x x st f fd->Binds K fd ps []:=by trivial)
    (len:∀ (XE:XE3) (ds:List D) (μ:Mu) (Q:VK3),sp XE ds μ Q->ds.length=ps.length:=by trivial):CalX P w K mg base (k + 1) x ps sp:=by
 obtain ⟨p,a,A⟩:=A;obtain ⟨_,F⟩:=A.fn;exact tg0 F (mg_of X G a) (hb _ _ F) S len (rs p) rd
theorem all_mk {l:PySem.W.OpenLaw} {h:Heap} {fa:Addr} (X:K.In h) (G:h.Ns mainGlobals mg) (hfa:mg "law" = some (.ref fa))
    {p_q51:Addr}
    {p_q37:Addr}
    {p_q18:Addr}
    {p_q55:Addr}
    {p_q65:Addr}
    {p_q47:Addr}
    {p_q49:Addr}
    {jez:Addr}
    {C_Desk:Addr}
    {t_1:Tok}
    {t_2:Tok}
    {t_3:Tok}
    {t_4:Tok}
    {t_5:Tok}
    {t_7:Tok}
    {t_8:Tok}
    {t_9:Tok}
    {q_6:Addr} {qo_6:Option Addr} {qn_6:Nat} {qs_6:[64]}
    {t_11:Tok}
    {t_12:Tok}
    {q_10:Addr} {jfe:Option Addr} {jff:Nat} {jfg:[64]}
    {t_14:Tok}
    {t_15:Tok}
    {t_16:Tok}
    {q_13:Addr} {jfh:Option Addr} {jfi:Nat} {jfj:[64]}
    {t_19:Tok}
    {t_20:Tok}
    {q_18:Addr} {jfk:Option Addr} {jfl:Nat} {jfm:[64]}
    {t_22:Tok}
    {t_23:Tok}
    {q_21:Addr} {jfn:Option Addr} {jfo:Nat} {jfp:[64]}
    {t_25:Tok}
    {t_26:Tok}
    {q_24:Addr} {jfq:Option Addr} {jfr:Nat} {jfs:[64]}
    {t_28:Tok}
    {t_29:Tok}
    {q_27:Addr} {jft:Option Addr} {jfu:Nat} {jfv:[64]}
    {q_17:Addr} {jfw:Option Addr} {jfx:Nat} {jfy:[64]}
    {t_30:Tok}
    {t_31:Tok}
    {t_32:Tok}
    {t_33:Tok}
    {t_34:Tok}
    {t_35:Tok}
    {t_36:Tok}
    {a_ANSWERS:Addr} {jcg:Array DictEntry} {jcw:Nat}
    {a_NAMES_IN_LINE:Addr} {ja9:Array DictEntry} {jb2:Nat}
    {jbg:Tok}
    {jbh:Tok}
    {jbi:Tok}
    {jbj:Tok}
    {jbk:Tok}
    {jbl:Tok}
    {jbm:Tok}
    {jbn:Tok}
    {jbo:Tok}
    {jbp:Tok}
    {C_BadNote:Addr} {jcm:ClassData}
    {C_NoRoom:Addr} {jcx:ClassData}
    {C_NoWord:Addr} {jcy:ClassData}
    (jdj:FnB K "check_word" vz1)
    (jdk:FnB K "checked_count" wz1)
    (jda:FnB K "checked_deed_count" zz1)
    (A_q6:FnB K "check_number" s_q6)
    (jdl:FnB K "led" sx1)
    (jdm:FnB K "pen_behind" yx1)
    (jdb:FnB K "pen_behind_deed" xx1)
    (jdn:FnB K "pen_repeated" sw1)
    (jdo:FnB K "strokes_drawn" zv1)
    (jdp:FnB K "count_strokes" sy1)
    (jdc:FnB K "count_strokes_of_deed" ty1)
    (jdq:FnB K "deeds_done" uy1)
    (jdr:FnB K "count_done" yz1)
    (jdd:FnB K "count_done_of_deed" xz1)
    (jds:FnB K "is_small" xy1)
    (jdt:FnB K "shown" tv1)
    (jde:FnB K "marks_of" ux1)
    (jdu:FnB K "read" ww1)
    (jdv:FnB K "marks_in" tx1)
    (jdw:FnB K "take_word" vu1)
    (jdf:FnB K "take_deed" tu1)
    (jdx:FnB K "take_mark" uu1)
    (jdy:FnB K "take_bracket" su1)
    (jdz:FnB K "number_of" vx1)
    (A_q4:FnB K "are_figures" s_q4)
    (jd0:FnB K "has_needless" wy1)
    (jd1:FnB K "stroke_between" uv1)
    (jd2:FnB K "strokes_along" vv1)
    (jd3:FnB K "picture_with" uw1)
    (jd4:FnB K "picture_of" tw1)
    (jd5:FnB K "strokes_from" yv1)
    (jdg:FnB K "plain_deeds" vw1)
    (jd6:FnB K "strokes_of_go" xv1)
    (jd7:FnB K "parting_stroke" wx1)
    (jd8:FnB K "same_shape" yw1)
    (jd9:FnB K "trails_needed" zu1)
    (jea:FnB K "is_line" zy1)
    (jeb:FnB K "is_name" yy1)
    (jec:FnB K "written" yu1)
    (jed:NsR K "show_answer" p_q51) (jee:FnA K "show_answer" sv1 p_q51)
    (jef:NsR K "pen_answer" p_q37) (jeg:FnA K "pen_answer" zx1 p_q37)
    (jeh:NsR K "drawn_answer" p_q18) (jei:FnA K "drawn_answer" vy1 p_q18)
    (jej:NsR K "strokes_answer" p_q55) (jek:FnA K "strokes_answer" wv1 p_q55)
    (jel:NsR K "trails_answer" p_q65) (jem:FnA K "trails_answer" wu1 p_q65)
    (jen:NsR K "same_answer" p_q47) (jeo:FnA K "same_answer" zw1 p_q47)
    (jep:NsR K "shape_answer" p_q49) (jeq:FnA K "shape_answer" xw1 p_q49)
    (A_q0:FnB K "_law_cell_at" s_q0)
    (A_q3:FnB K "_law_state" s_q3)
    (A_q1:FnB K "_law_choice" s_q1)
    (A_q2:FnB K "_law_odd" s_q2)
    (jdh:NsR K "law" jez) (jer:FnA K "law" wv0 jez)
    (jch:nsIn K mainGlobals "Desk" = some (some (.ref C_Desk)))
    (jcn:plainGet K C_Desk Str.empty=true)
    (jco:hasDictIn K C_Desk=true)
    (jcp:plainOver K C_Desk=true)
    (jcq:findIn K (.ref C_Desk) "__setattr__" = some (some (.builtin "object.__setattr__")))
    (mk_Desk:makesIn K C_Desk=true)
    (kp_Desk:keepIn K (.ref C_Desk)=true)
    (na_Desk_words:findIn K (.ref C_Desk) "words" = some none)
    (ja0:FnM K C_Desk "__init__" "Desk.__init__" yc0)
    (jat:FnM K C_Desk "all_words" "Desk.all_words" vb0)
    (jbt:FnM K C_Desk "say" "Desk.say" vf0)
    (jau:FnM K C_Desk "keep_read" "Desk.keep_read" wb0)
    (ja6:FnM K C_Desk "answer" "Desk.answer" tc0)
    (jal:FnM K C_Desk "keep_joined" "Desk.keep_joined" xb0)
    (jba:nsIn K mainGlobals "MOST_DEEDS" = some (some (.int (30) t_1)))
    (jbc:nsIn K mainGlobals "MOST_DEEP" = some (some (.int (4) t_2)))
    (ja3:nsIn K mainGlobals "MOST_FIGURES" = some (some (.int (20) t_3)))
    (jas:nsIn K mainGlobals "GREATEST_NUMBER" = some (some (.int (99999999999999999999) t_4)))
    (ja1:nsIn K mainGlobals "MOST_OF_SMALL" = some (some (.int (400) t_5)))
    (ja7:nsIn K mainGlobals "PLAIN_KINDS" = some (some (.ref q_6)))
    (ql_6:K.lookup q_6=some ⟨.type "tuple",qo_6,.seq #[.str "go" t_7,.str "jump" t_8,.str "turn" t_9] qn_6,qs_6⟩)
    (jak:nsIn K mainGlobals "KINDS_FROM_NOUGHT" = some (some (.ref q_10)))
    (jes:K.lookup q_10=some ⟨.type "tuple",jfe,.seq #[.str "go" t_11,.str "times" t_12] jff,jfg⟩)
    (jcr:nsIn K mainGlobals "START" = some (some (.ref q_13)))
    (jet:K.lookup q_13=some ⟨.type "tuple",jfh,.seq #[.int (0) t_14,.int (0) t_15,.int (0) t_16] jfi,jfj⟩)
    (jcs:nsIn K mainGlobals "AHEAD" = some (some (.ref q_17)))
    (jeu:K.lookup q_17=some ⟨.type "tuple",jfw,.seq #[.ref q_18,.ref q_21,.ref q_24,.ref q_27] jfx,jfy⟩)
    (jev:K.lookup q_27=some ⟨.type "tuple",jft,.seq #[.int (0) t_28,.int (-1) t_29] jfu,jfv⟩)
    (jew:K.lookup q_24=some ⟨.type "tuple",jfq,.seq #[.int (-1) t_25,.int (0) t_26] jfr,jfs⟩)
    (jex:K.lookup q_21=some ⟨.type "tuple",jfn,.seq #[.int (0) t_22,.int (1) t_23] jfo,jfp⟩)
    (jey:K.lookup q_18=some ⟨.type "tuple",jfk,.seq #[.int (1) t_19,.int (0) t_20] jfl,jfm⟩)
    (jb6:nsIn K mainGlobals "FIGURES" = some (some (.str "0123456789" t_30)))
    (jb7:nsIn K mainGlobals "LETTERS" = some (some (.str "abcdefghijklmnopqrstuvwxyz" t_31)))
    (ja4:nsIn K mainGlobals "MOST_LETTERS" = some (some (.int (8) t_32)))
    (jc1:nsIn K mainGlobals "KEPT" = some (some (.str "kept" t_33)))
    (jbu:nsIn K mainGlobals "BAD_LINE" = some (some (.str "bad line" t_34)))
    (ja5:nsIn K mainGlobals "NO_SUCH_NAME" = some (some (.str "no such name" t_35)))
    (jbd:nsIn K mainGlobals "TOO_GREAT" = some (some (.str "too great" t_36)))
    (jb8:nsIn K mainGlobals "ANSWERS" = some (some (.ref a_ANSWERS)))
    (jbv:K.lookup a_ANSWERS=some ⟨.type "dict",none,.dict jcg jcw,#[]⟩)
    (jbw:KeysLit w.params jcg.toList)
    (jbx:(a_ANSWERS == sysModules)=false)
    (me_ANSWERS_show_answer:nsIn K a_ANSWERS "show" = some (some (.ref p_q51)))
    (me_ANSWERS_pen_answer:nsIn K a_ANSWERS "pen" = some (some (.ref p_q37)))
    (me_ANSWERS_drawn_answer:nsIn K a_ANSWERS "drawn" = some (some (.ref p_q18)))
    (me_ANSWERS_strokes_answer:nsIn K a_ANSWERS "strokes" = some (some (.ref p_q55)))
    (me_ANSWERS_trails_answer:nsIn K a_ANSWERS "trails" = some (some (.ref p_q65)))
    (me_ANSWERS_same_answer:nsIn K a_ANSWERS "same" = some (some (.ref p_q47)))
    (me_ANSWERS_shape_answer:nsIn K a_ANSWERS "shape" = some (some (.ref p_q49)))
    (ja2:nsIn K mainGlobals "NAMES_IN_LINE" = some (some (.ref a_NAMES_IN_LINE)))
    (jav:K.lookup a_NAMES_IN_LINE=some ⟨.type "dict",none,.dict ja9 jb2,#[]⟩)
    (jaw:KeysLit w.params ja9.toList)
    (jax:(a_NAMES_IN_LINE == sysModules)=false)
    (jaa:nsIn K a_NAMES_IN_LINE "drop" = some (some (.int 1 jbg)))
    (jab:nsIn K a_NAMES_IN_LINE "join" = some (some (.int 3 jbh)))
    (jac:nsIn K a_NAMES_IN_LINE "show" = some (some (.int 1 jbi)))
    (jad:nsIn K a_NAMES_IN_LINE "names" = some (some (.int 0 jbj)))
    (jae:nsIn K a_NAMES_IN_LINE "pen" = some (some (.int 1 jbk)))
    (jaf:nsIn K a_NAMES_IN_LINE "drawn" = some (some (.int 1 jbl)))
    (jag:nsIn K a_NAMES_IN_LINE "strokes" = some (some (.int 1 jbm)))
    (jah:nsIn K a_NAMES_IN_LINE "trails" = some (some (.int 1 jbn)))
    (jai:nsIn K a_NAMES_IN_LINE "same" = some (some (.int 2 jbo)))
    (jaj:nsIn K a_NAMES_IN_LINE "shape" = some (some (.int 2 jbp)))
    (jam:nsIn K a_NAMES_IN_LINE "" = some none)
    (jan:nsIn K a_NAMES_IN_LINE "Keep" = some none)
    (jao:nsIn K a_NAMES_IN_LINE "trail" = some none)
    (jap:nsIn K a_NAMES_IN_LINE "sum" = some none)
    (jaq:nsIn K a_NAMES_IN_LINE "keepa" = some none)
    (jbb:nsIn K mainGlobals "BadNote" = some (some (.ref C_BadNote)))
    (jby:clsIn K C_BadNote=some jcm)
    (jbz:typeIn K (.ref C_BadNote)=some (.type "type"))
    (jbq:nsIn K mainGlobals "NoRoom" = some (some (.ref C_NoRoom)))
    (jb9:clsIn K C_NoRoom=some jcx)
    (jca:typeIn K (.ref C_NoRoom)=some (.type "type"))
    (jbr:nsIn K mainGlobals "NoWord" = some (some (.ref C_NoWord)))
    (jcb:clsIn K C_NoWord=some jcy)
    (jcc:typeIn K (.ref C_NoWord)=some (.type "type"))
    (jcd:excIn K C_BadNote [.type "ValueError",.type "Exception",.type "BaseException",.type "object"] "ValueError.__new__" = true)
    (jci:excIn K C_NoRoom [.type "ValueError",.type "Exception",.type "BaseException",.type "object"] "ValueError.__new__" = true)
    (jcj:excIn K C_NoWord [.type "ValueError",.type "Exception",.type "BaseException",.type "object"] "ValueError.__new__" = true)
    (k3s:subIn K (.type "type") (.type "tuple")=some false)
    (jbe:subIn K (.ref C_BadNote) [42]=some true)
    (jar:subIn K (.ref C_BadNote) (.ref C_BadNote)=some true)
    (jb0:subIn K (.ref C_NoRoom) [42]=some true)
    (jay:subIn K (.ref C_NoRoom) (.ref C_NoRoom)=some true)
    (jb1:subIn K (.ref C_NoWord) [42]=some true)
    (jaz:subIn K (.ref C_NoWord) (.ref C_NoWord)=some true)
    (jc2:nsIn K mainGlobals "abs" = some none)
    (jc3:nsIn K mainGlobals "all" = some none)
    (jct:nsIn K mainGlobals "dict" = some none)
    (jc4:nsIn K mainGlobals "int" = some none)
    (ja8:nsIn K mainGlobals "isinstance" = some none)
    (jc5:nsIn K mainGlobals "len" = some none)
    (jcu:nsIn K mainGlobals "list" = some none)
    (jc6:nsIn K mainGlobals "min" = some none)
    (jck:nsIn K mainGlobals "range" = some none)
    (jbf:nsIn K mainGlobals "reversed" = some none)
    (jc7:nsIn K mainGlobals "set" = some none)
    (jce:nsIn K mainGlobals "sorted" = some none)
    (jc8:nsIn K mainGlobals "str" = some none)
    (jc9:nsIn K mainGlobals "sum" = some none)
    (jcl:nsIn K mainGlobals "tuple" = some none) :
    ∃ fd:FuncData,(∀ (s:[88]) (v:Value),BindsTo s fd ⟨[v],[]⟩ [("script",v)]) /\ ∀ base:Heap,K.In base->base.Ns mainGlobals mg->FnOk l.prog w K mg base CX0 21 fa fd ["script"] (lift K yt2):=by
 have e:=hfa.symm.trans (mg_of X G jdh);cases e;have m_Desk:=mg_of X G jch;have oc_Desk:ObjC K "Desk" C_Desk:=⟨jch,⟨jcn,jco,jcp,jcq⟩⟩;have g_MOST_DEEDS:Gd K mg "MOST_DEEDS" vi0:=xy0 X G jba;have g_MOST_DEEP:Gd K mg "MOST_DEEP" sf0:=xy0 X G jbc;have g_MOST_FIGURES:Gd K mg "MOST_FIGURES" vg0:=xy0 X G ja3;have g_GREATEST_NUMBER:Gd K mg "GREATEST_NUMBER" ve0:=xy0 X G jas;have g_MOST_OF_SMALL:Gd K mg "MOST_OF_SMALL" uc0:=xy0 X G ja1;have g_PLAIN_KINDS:Gd K mg "PLAIN_KINDS" td0:=zs1 X G ja7 (TupK.mk ql_6 Z1 (.str (.str (.str .nil))));have g_KINDS_FROM_NOUGHT:Gd K mg "KINDS_FROM_NOUGHT" vd0:=zs1 X G jak (TupK.mk jes Z0 (.str (.str .nil)));have g_START:Gd K mg "START" zg0:=zs1 X G jcr (TupK.mk jet Z1 (.int (.int (.int .nil))));have g_AHEAD:Gd K mg "AHEAD" ui0:=zs1 X G jcs (TupK.mk jeu (show 4<=sizeLine by decide) (.tup (TupK.mk jey Z0 (.int (.int .nil))) (.tup (TupK.mk jex Z0 (.int (.int .nil))) (.tup (TupK.mk jew Z0 (.int (.int .nil))) (.tup (TupK.mk jev Z0 (.int (.int .nil))) .nil)))));have g_FIGURES:Gd K mg "FIGURES" sl0:=sx0 X G jb6;have g_LETTERS:Gd K mg "LETTERS" tl0:=sx0 X G jb7;have g_MOST_LETTERS:Gd K mg "MOST_LETTERS" wg0:=xy0 X G ja4;have g_KEPT:Gd K mg "KEPT" sg1:=sx0 X G jc1;have g_BAD_LINE:Gd K mg "BAD_LINE" tf0:=sx0 X G jbu;have g_NO_SUCH_NAME:Gd K mg "NO_SUCH_NAME" ue0:=sx0 X G ja5;have g_TOO_GREAT:Gd K mg "TOO_GREAT" we0:=sx0 X G jbd;have md_ANSWERS:Mdc w K mg "ANSWERS" a_ANSWERS:=⟨mg_of X G jb8,jbx,_,_,jbv,jbw⟩;have mn_ANSWERS_ok:=wa1 me_ANSWERS_show_answer me_ANSWERS_pen_answer me_ANSWERS_drawn_answer me_ANSWERS_strokes_answer me_ANSWERS_trails_answer me_ANSWERS_same_answer me_ANSWERS_shape_answer;have md_NAMES_IN_LINE:Mdc w K mg "NAMES_IN_LINE" a_NAMES_IN_LINE:=⟨mg_of X G ja2,jax,_,_,jav,jaw⟩;have mi_NAMES_IN_LINE_ok:=wk0 jaa jab jac jad jae jaf jag jah jai jaj;have mn_NAMES_IN_LINE_ok:=zk0 jaa jab jac jad jae jaf jag jah jai jaj jam jan jao jap jaq;have m_BadNote:=mg_of X G jbb;have m_NoRoom:=mg_of X G jbq;have m_NoWord:=mg_of X G jbr;have k3:kitCls K (.type "type") (.type "tuple")=some false:=xb1 [55] k3s;have k2_BadNote:=xb1 (T := "BaseException") [55] jbe;have jbs:=yb1 jby jbz jar;have k4_BadNote:=jbs;have k2_NoRoom:=xb1 (T := "BaseException") [55] jb0;have jb3:=yb1 jb9 jca jay;have k4_NoRoom:=jb3;have k2_NoWord:=xb1 (T := "BaseException") [55] jb1;have jb4:=yb1 jcb jcc jaz;have k4_NoWord:=jb4;have z_abs:=mg_none_of X G jc2;have z_all:=mg_none_of X G jc3;have z_dict:=mg_none_of X G jct;have z_int:=mg_none_of X G jc4;have z_isinstance:=mg_none_of X G ja8;have z_len:=mg_none_of X G jc5;have z_list:=mg_none_of X G jcu;have z_min:=mg_none_of X G jc6;have z_range:=mg_none_of X G jck;have z_reversed:=mg_none_of X G jbf;have z_set:=mg_none_of X G jc7;have z_sorted:=mg_none_of X G jce;have z_str:=mg_none_of X G jc8;have z_sum:=mg_none_of X G jc9;have z_tuple:=mg_none_of X G jcl;obtain ⟨_,je0⟩:=jee.fn;have jfz:=je0.binds (ps:=["words"]) λ _ _ _ _ _ _=>bn1 λ _=>rfl;have jf0:=mg_of X G jed;obtain ⟨_,je1⟩:=jeg.fn;have jf1:=je1.binds (ps:=["words"]) λ _ _ _ _ _ _=>bn1 λ _=>rfl;have jf2:=mg_of X G jef;obtain ⟨_,je2⟩:=jei.fn;have jf3:=je2.binds (ps:=["words"]) λ _ _ _ _ _ _=>bn1 λ _=>rfl;have jf4:=mg_of X G jeh;obtain ⟨_,je3⟩:=jek.fn;have jf5:=je3.binds (ps:=["words"]) λ _ _ _ _ _ _=>bn1 λ _=>rfl;have jf6:=mg_of X G jej;obtain ⟨_,je4⟩:=jem.fn;have jf7:=je4.binds (ps:=["words"]) λ _ _ _ _ _ _=>bn1 λ _=>rfl;have jf8:=mg_of X G jel;obtain ⟨_,je5⟩:=jeo.fn;have jf9:=je5.binds (ps:=["words"]) λ _ _ _ _ _ _=>bn1 λ _=>rfl;have jga:=mg_of X G jen;obtain ⟨_,je6⟩:=jeq.fn;have jgb:=je6.binds (ps:=["words"]) λ _ _ _ _ _ _=>bn1 λ _=>rfl;have jgc:=mg_of X G jep;obtain ⟨_,_,_,je7,je8,je9,jfa,jfb,jfc,jgd,jge,jgf⟩:=jer;have jfd:=zn2 (st:=wv0) jgd jge jgf;have jgg:=jfd.binds (ps:=["script"]) λ _ _ _ _ _ _=>bn1 λ _=>rfl;have jgh:=mg_of X G jdh;refine ⟨fnOf "law" "law" (ug0 wv0) (wa0 wv0) (xa0 wv0) .none je7 je8 je9 jfa jfb jfc,λ s v=>.of_eq rfl,λ base KB GB=>?_⟩;have O_BadNote:=zj2 KB GB jbb jcd;have O_NoRoom:=zj2 KB GB jbq jci;have O_NoWord:=zj2 KB GB jbr jcj;have ti1:=@ti1 l.prog w K mg base;have calZ:=@calZ l.prog w K mg base h;have se3:=@se3 l.prog w K mg base h;have calB:=@calB l.prog w K mg base h;have ti0:=@ti0 l.prog w K mg base h;have tg0:=@tg0 l.prog w K mg base;have h_q6:=ti0 X G A_q6 (k:=0) sc_q6 (λ _ _ _ _ _ _ _ _ r e=>by apply rs_all.1.2.2.2.1 e (hr:=r) <;> trivial) rd_q6;obtain ⟨jgi,jgj⟩:=prX (sd:=yk1) (sw:=tp0) (c:=1) (se3 X G jda) (λ j _=>ti0 X G jdk wv4 (λ _ _ _ _ _ _ _ _ r e=>by apply rs_all.1.2.1 e (hr:=r) <;> trivial) (ue5 j)) (λ j _=>ti0 X G jda zv4 (λ _ _ _ _ _ _ _ _ r e=>by apply rs_all.1.2.2.1 e (hr:=r) <;> trivial) (ve5 j)) 5;have jgk:=ti0 X G jdj (k:=12) vv4 (λ _ _ _ _ _ _ _ _ r e=>by apply rs_all.1.1 e (hr:=r) <;> trivial) te5;have jgl:=calB X G jdl (k:=0) ut4 (λ _ _ _ _ _ _ _ r=>by apply rs_all.1.2.2.2.2.1 (hr:=r) <;> trivial) yd5;have jgm:=calB X G jdn (k:=1) us4 (λ _ _ _ _ _ _ _ r=>by apply rs_all.1.2.2.2.2.2.2.2 (hr:=r) <;> trivial) wc5;obtain ⟨jgn,jgo⟩:=pr (sd:=spPd) (sw:=spPb) (c:=2) (calZ X G jdb) (λ j _=>calB X G jdm ss4 (λ _ _ _ _ _ _ _ r=>by apply rs_all.1.2.2.2.2.2.1 (hr:=r) <;> trivial) (uc5 j)) (λ j _=>calB X G jdb ts4 (λ _ _ _ _ _ _ _ r=>by apply rs_all.1.2.2.2.2.2.2.1 (hr:=r) <;> trivial) (vc5 j)) 5;obtain ⟨jgp,jgq⟩:=pr (sd:=tr3) (sw:=spSk) (c:=0) (calZ X G jdc) (λ j _=>calB X G jdp su4 (λ _ _ _ _ _ _ _ r=>by apply rs_all.2.1.2.1 (hr:=r) <;> trivial) (ye5 j)) (λ j _=>calB X G jdc tu4 (λ _ _ _ _ _ _ _ r=>by apply rs_all.2.1.2.2.1 (hr:=r) <;> trivial) (xe5 j)) 5;have jgr:=ti0 X G jdo (k:=13) xr4 (λ _ _ _ _ _ _ _ _ r e=>by apply rs_all.2.1.1 e (hr:=r) <;> trivial) sa5;obtain ⟨jgs,jgt⟩:=pr (sd:=zt2) (sw:=spDn) (c:=0) (calZ X G jdd) (λ j _=>calB X G jdr yv4 (λ _ _ _ _ _ _ _ r=>by apply rs_all.2.1.2.2.2.2.1 (hr:=r) <;> trivial) (we5 j)) (λ j _=>calB X G jdd xv4 (λ _ _ _ _ _ _ _ r=>by apply rs_all.2.1.2.2.2.2.2.1 (hr:=r) <;> trivial) (ze5 j)) 5;have jgu:=ti0 X G jdq (k:=13) uu4 (λ _ _ _ _ _ _ _ _ r e=>by apply rs_all.2.1.2.2.2.1 e (hr:=r) <;> trivial) sd5;have jgv:=ti0 X G jds (k:=14) xu4 (λ _ _ _ _ _ _ _ _ r e=>by apply rs_all.2.1.2.2.2.2.2.2.1 e (hr:=r) <;> trivial) wd5;have jgw:=se (sd:=zz0) (c:=0) (calZ X G jde) (λ j _=>calB X G jde wt4 (λ _ _ _ _ _ _ _ r=>by apply rs_all.2.2.1.1 (hr:=r) <;> trivial) (sc5 j)) 5;have jgx:=ti0 X G jdt (k:=13) vr4 (λ _ _ _ _ _ _ _ _ r e=>by apply rs_all.2.1.2.2.2.2.2.2.2 e (hr:=r) <;> trivial) wb5;have jgy:=ti0 X G jdx (k:=0) wq4 (λ _ _ _ _ _ _ _ _ r e=>by apply rs_all.2.2.1.2.2.2.2.2.1 e (hr:=r) <;> trivial) za5;have jgz:=ti0 X G jdy (k:=1) uq4 (λ _ _ _ _ _ _ _ _ r e=>by apply rs_all.2.2.1.2.2.2.2.2.2.1 e (hr:=r) <;> trivial) va5;have h_q4:=calB X G A_q4 (k:=0) sc_q4 (λ _ _ _ _ _ _ _ r=>by apply rs_all.2.2.2.1.1 (hr:=r) <;> trivial) rd_q4;have jg0:=calB X G jd0 (k:=0) wu4 (λ _ _ _ _ _ _ _ r=>by apply rs_all.2.2.2.1.2.1 (hr:=r) <;> trivial) td5;have jg1:=ti0 X G jdz (k:=1) zt4 (λ _ _ _ _ _ _ _ _ r e=>by apply rs_all.2.2.1.2.2.2.2.2.2.2 e (hr:=r) <;> trivial) tc5;obtain ⟨jg2,jg3⟩:=prX (sd:=yr3) (sw:=ts2) (c:=2) (se3 X G jdf) (λ j _=>ti0 X G jdw zq4 (λ _ _ _ _ _ _ _ _ r e=>by apply rs_all.2.2.1.2.2.2.1 e (hr:=r) <;> trivial) (ya5 j)) (λ j _=>ti0 X G jdf vq4 (λ _ _ _ _ _ _ _ _ r e=>by apply rs_all.2.2.1.2.2.2.2.1 e (hr:=r) <;> trivial) (wa5 j)) 5;have jg4:=calB X G jdv (k:=0) vt4 (λ _ _ _ _ _ _ _ r=>by apply rs_all.2.2.1.2.2.1 (hr:=r) <;> trivial) xd5;have jg5:=ti0 X G jdu (k:=13) ys4 (λ _ _ _ _ _ _ _ _ r e=>by apply rs_all.2.2.1.2.1 e (hr:=r) <;> trivial) sb5;have jg6:=calB X G jd1 (k:=0) wr4 (λ _ _ _ _ _ _ _ r=>by apply rs_all.2.2.2.1.2.2.1 (hr:=r) <;> trivial) zb5;have jg7:=calB X G jd2 (k:=1) zr4 (λ _ _ _ _ _ _ _ r=>by apply rs_all.2.2.2.1.2.2.2.1 (hr:=r) <;> trivial) yb5;have jg8:=calB X G jd6 (k:=2) tq4 (λ _ _ _ _ _ _ _ r=>by apply rs_all.2.2.2.2.1.1 (hr:=r) <;> trivial) ua5;have jg9:=se (sd:=spPl) (c:=10) (calZ X G jdg) (λ j _=>calB X G jdg zs4 (λ _ _ _ _ _ _ _ r=>by apply rs_all.2.2.2.1.2.2.2.2.2.2.2 (hr:=r) <;> trivial) (xc5 j)) 5;have jha:=calB X G jd5 (k:=15) sq4 (λ _ _ _ _ _ _ _ r=>by apply rs_all.2.2.2.1.2.2.2.2.2.2.1 (hr:=r) <;> trivial) ta5;have jhb:=calB X G jd3 (k:=0) ws4 (λ _ _ _ _ _ _ _ r=>by apply rs_all.2.2.2.1.2.2.2.2.1 (hr:=r) <;> trivial) yc5;have jhc:=ti0 X G jd4 (k:=16) vs4 (λ _ _ _ _ _ _ _ _ r e=>by apply rs_all.2.2.2.1.2.2.2.2.2.1 e (hr:=r) <;> trivial) zc5;have jhd:=calB X G jd7 (k:=0) yt4 (λ _ _ _ _ _ _ _ r=>by apply yx4 (hr:=r) <;> trivial) (uv3 tm4);have jhe:=calB X G jd8 (k:=0) sr4 (λ _ _ _ _ _ _ _ r=>by apply sw4 (hr:=r) <;> trivial) (uv3 vl4);have jhf:=calB X G jd9 (k:=0) xq4 (λ _ _ _ _ _ _ _ r=>by apply tw4 (hr:=r) <;> trivial) (uv3 yk4);have jhg:=calB X G jeb (k:=0) yu4 (λ _ _ _ _ _ _ _ r=>by apply rs_all.2.2.2.2.1.2.2.1 (hr:=r) <;> trivial) vd5;have jhh:=calB X G jea (k:=1) zu4 (λ _ _ _ _ _ _ _ r=>by apply rs_all.2.2.2.2.1.2.1 (hr:=r) <;> trivial) ud5;have jhi:=calB X G jec (k:=0) sp4 (λ _ _ _ _ _ _ _ r=>by apply rs_all.2.2.2.2.1.2.2.2.1 (hr:=r) <;> trivial) sz4;have jhj:=tg0 je0 jf0 jfz ur4 [5] (k:=14) (λ _ _ _ _ _ _ _ r e=>by apply rs_all.2.2.2.2.1.2.2.2.2.1 e (hr:=r) <;> trivial) vb5;have jhk:=tg0 je1 jf2 jf1 xt4 [5] (k:=0) (λ _ _ _ _ _ _ _ r e=>by apply xx4 e (hr:=r) <;> trivial) (xf5 um4);have jhl:=tg0 je2 jf4 jf3 vu4 [5] (k:=0) (λ _ _ _ _ _ _ _ r e=>by apply zx4 e (hr:=r) <;> trivial) (xf5 vn4);have jhm:=tg0 je3 jf6 jf5 yr4 [5] (k:=17) (λ _ _ _ _ _ _ _ r e=>by apply rs_all.2.2.2.2.1.2.2.2.2.2.1 e (hr:=r) <;> trivial) xb5;have jhn:=tg0 je4 jf8 jf7 yq4 [5] (k:=17) (λ _ _ _ _ _ _ _ r e=>by apply rs_all.2.2.2.2.1.2.2.2.2.2.2.1 e (hr:=r) <;> trivial) xa5;have jho:=tg0 je5 jga jf9 xs4 [5] (k:=17) (λ _ _ _ _ _ _ _ r e=>by apply rs_all.2.2.2.2.1.2.2.2.2.2.2.2 e (hr:=r) <;> trivial) tb5;have jhp:=tg0 je6 jgc jgb tr4 [5] (k:=17) (λ _ _ _ _ _ _ _ r e=>by apply rs_all.2.2.2.2.2.1.1 e (hr:=r) <;> trivial) ub5;have jcf:=ti1 ja0 (k:=0) uo0 (λ _ _ _ _ _ _ _ r=>by apply rs_all.2.2.2.2.2.1.2.2.2.2.2.2.1 (hr:=r) <;> trivial) to0;have jb5:=ti1 jat (k:=0) xn0 (λ _ _ _ _ _ _ _ r=>by apply rs_all.2.2.2.2.2.1.2.2.2.2.2.2.2 (hr:=r) <;> trivial) wn0;have jcv:=ti1 jal (k:=13) sj0 (λ _ _ _ _ _ _ _ r=>by apply rs_all.2.2.2.2.2.2.2.2.2 (hr:=r) <;> trivial) xk0;have jc0:=ti1 jau (k:=14) sm0 (λ _ _ _ _ _ _ _ r=>by apply rs_all.2.2.2.2.2.2.2.1 (hr:=r) <;> trivial) zn0;have jdi:=ti1 ja6 (k:=18) zv0 (λ _ _ _ _ _ _ _ r=>by apply rs_all.2.2.2.2.2.2.2.2.1 (hr:=r) <;> trivial) vv0;have jcz:=ti1 jbt (k:=19) wk1 (λ _ _ _ _ _ _ _ r=>by apply rs_all.2.2.2.2.2.2.1 (hr:=r) <;> trivial) uk1;have h_q0:=calB X G A_q0 (k:=0) sc_q0 (λ _ _ _ _ _ _ _ r=>by apply rs_all.2.2.2.2.2.1.2.1 (hr:=r) <;> trivial) rd_q0;have h_q3:=calB X G A_q3 (k:=1) sc_q3 (λ _ _ _ _ _ _ _ r=>by apply rs_all.2.2.2.2.2.1.2.2.1 (hr:=r) <;> trivial) rd_q3;have h_q1:=calB X G A_q1 (k:=0) sc_q1 (λ _ _ _ _ _ _ _ r=>by apply rs_all.2.2.2.2.2.1.2.2.2.1 (hr:=r) <;> trivial) rd_q1;have h_q2:=calB X G A_q2 (k:=1) sc_q2 (λ _ _ _ _ _ _ _ r=>by apply rs_all.2.2.2.2.2.1.2.2.2.2.1 (hr:=r) <;> trivial) rd_q2;exact vn2 jfd tt4 (by rintro _ _ _ ⟨_,rfl,_⟩; rfl) (k:=20) (λ cdv A outer s H E hr=>rs_all.2.2.2.2.2.1.2.2.2.2.2.1 jcf [8] jb5 [8] jcz [8] (h_q1.mono [8]) (h_q2.mono [8]) (h_q3.mono [8]) oc_Desk mk_Desk kp_Desk m_Desk z_range z_str hr) zd5
theorem walk {l:PySem.W.OpenLaw} {q:[83]} {loose:[29]} {XP:(Str->Option Value)->Heap->Prop} {YP:World->Heap->Prop} {d:DefRec} {K:Params->Fg} (hn:l.most=some 63) (hdf:d.params.defaults=[])
    (hY:∀ (w:World) (h:Heap),YP w h->(K w.params).In h)
    (F:∀ (w:World) (mg:[25]) (fa:Addr) (h:Heap),(K w.params).In h->h.Ns mainGlobals mg->mg d.name=some (.ref fa) ->
     ∃ fd:FuncData,(∀ (s:[88]) (u:Value),BindsTo s fd ⟨[u],[]⟩ [("script",u)]) /\ ∀ base:Heap,(K w.params).In base->base.Ns mainGlobals mg->FnOk l.prog w (K w.params) mg base CX0 21 fa fd ["script"] (lift (K w.params) yt2)) :
    PySem.W.WalkO q loose XP YP l.row.toRowW d [] (λ f vs=>PySem.call f vs) :=
 L2.walk_of (n:=63) (k:=21) (x := "script") (CX:=λ _=>CX0) (sp:=λ w=>lift (K w.params) yt2) hn [8] hdf ⟨rfl,by decide,by decide⟩ hY F (λ _ _ a ns hl hO hS=>ya3 hO hS ⟨ns,rfl,hl,λ _=>rfl⟩) λ _ _ _ _ _ z=>z
end Pv
open PySem PySem.W PyProof.Rows
set_option maxRecDepth 100000 in
set_option maxHeartbeats 0 in
theorem PySem.Challenge.cw_penwright_k88_lines_of_a_desk_refused_holds : PySem.Challenge.rw_penwright_k88_lines_of_a_desk_refused.Holds := by
 w_on
 refine PySem.W.holds_law Pv.h_said λ said=>?_;refine PySem.W.holds_open (YP:=PySem.W.Hook.says (kHook Pv.KK Pv.KA Pv.ke)) Pv.h_left (PySem.W.Hook.of (kHook Pv.KK Pv.KA Pv.ke)) (PySem.W.Hook.keeps (kHook Pv.KK Pv.KA Pv.ke)) (λ s e=>PySem.W.xl_of s (Bool.and_eq_true_iff.mp e).1) PySem.W.XL.keeps (by rfl) (by rfl) (by rfl) (λ s e=>PySem.W.recFacts_of (Bool.and_eq_true_iff.mp e).2) (by rfl) said (by decide +kernel) ⟨rfl,rfl,rfl,rfl,rfl,by decide +kernel⟩ ?hw ?hc
 case hw=>w_witness2
 k_fill
 refine Pv.walk (l:=PySem.Challenge.rw_penwright_k88_lines_of_a_desk_refused) rfl rfl (λ w h Y=>PySem.W.kIn_of Y) ?F
 case F =>
  intro w mg fa h KX G hmg;refine' Pv.all_mk KX G hmg ?jdj ?jdk ?jda ?A_q6 ?jdl ?jdm ?jdb ?jdn ?jdo ?jdp ?jdc ?jdq ?jdr ?jdd ?jds ?jdt ?jde ?jdu ?jdv ?jdw ?jdf ?jdx ?jdy ?jdz ?A_q4 ?jd0 ?jd1 ?jd2 ?jd3 ?jd4 ?jd5 ?jdg ?jd6 ?jd7 ?jd8 ?jd9 ?jea ?jeb ?jec ?jed ?jee ?jef ?jeg ?jeh ?jei ?jej ?jek ?jel ?jem ?jen ?jeo ?jep ?jeq ?A_q0 ?A_q3 ?A_q1 ?A_q2 ?jdh ?jer ?jch ?jcn ?jco ?jcp ?jcq ?mk_Desk ?kp_Desk ?na_Desk_words ?ja0 ?jat ?jbt ?jau ?ja6 ?jal ?jba ?jbc ?ja3 ?jas ?ja1 ?ja7 ?ql_6 ?jak ?jes ?jcr ?jet ?jcs ?jeu ?jev ?jew ?jex ?jey ?jb6 ?jb7 ?ja4 ?jc1 ?jbu ?ja5 ?jbd ?jb8 ?jbv ?jbw ?jbx ?me_ANSWERS_show_answer ?me_ANSWERS_pen_answer ?me_ANSWERS_drawn_answer ?me_ANSWERS_strokes_answer ?me_ANSWERS_trails_answer ?me_ANSWERS_same_answer ?me_ANSWERS_shape_answer ?ja2 ?jav ?jaw ?jax ?jaa ?jab ?jac ?jad ?jae ?jaf ?jag ?jah ?jai ?jaj ?jam ?jan ?jao ?jap ?jaq ?jbb ?jby ?jbz ?jbq ?jb9 ?jca ?jbr ?jcb ?jcc ?jcd ?jci ?jcj ?k3s ?jbe ?jar ?jb0 ?jay ?jb1 ?jaz ?jc2 ?jc3 ?jct ?jc4 ?ja8 ?jc5 ?jcu ?jc6 ?jck ?jbf ?jc7 ?jce ?jc8 ?jc9 ?jcl
  (case jch | jcn | jco | jcp | jcq | mk_Desk | kp_Desk | na_Desk_words | jba | jbc | ja3 | jas | ja1 | ja7 | ql_6 | jak | jes | jcr | jet | jcs | jeu | jev | jew | jex | jey | jb6 | jb7 | ja4 | jc1 | jbu | ja5 | jbd | jb8 | jbv | me_ANSWERS_show_answer | me_ANSWERS_pen_answer | me_ANSWERS_drawn_answer | me_ANSWERS_strokes_answer | me_ANSWERS_trails_answer | me_ANSWERS_same_answer | me_ANSWERS_shape_answer | ja2 | jav | jaa | jab | jac | jad | jae | jaf | jag | jah | jai | jaj | jam | jan | jao | jap | jaq | jbb | jby | jbz | jbq | jb9 | jca | jbr | jcb | jcc | k3s | jbe | jar | jb0 | jay | jb1 | jaz | jc2 | jc3 | jct | jc4 | ja8 | jc5 | jcu | jc6 | jck | jbf | jc7 | jce | jc8 | jc9 | jcl=>k_is)
  (case jdj | jdk | jda | A_q6 | jdl | jdm | jdb | jdn | jdo | jdp | jdc | jdq | jdr | jdd | jds | jdt | jde | jdu | jdv | jdw | jdf | jdx | jdy | jdz | A_q4 | jd0 | jd1 | jd2 | jd3 | jd4 | jd5 | jdg | jd6 | jd7 | jd8 | jd9 | jea | jeb | jec | A_q0 | A_q3 | A_q1 | A_q2=>(refine' Pv.fnB_mk ?a ?l ?c ?k; (case a=>(show _=_; k_is)); (case l=>k_is); (case c=>k_is); (case k=>k_is)))
  (case jed | jef | jeh | jej | jel | jen | jep | jdh=>(show _=_; k_is))
  (case jee | jeg | jei | jek | jem | jeo | jeq | jer=>(refine' Pv.fnA_mk ?l ?c ?k; (case l=>k_is); (case c=>k_is); (case k=>k_is)))
  (case ja0 | jat | jbt | jau | ja6 | jal=>(refine' Pv.fnM_mk ?a ?i ?l ?c ?k; (case a=>k_is); (case i=>k_is); (case l=>k_is); (case c=>k_is); (case k=>k_is)))
  (case jbw | jaw=>k_keys)
  (case jbx | jax=>rfl)
  (case jcd | jci | jcj=>k_exc)
