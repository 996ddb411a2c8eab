import PyProof.Rows.All
import Wide.All
import OpenK.AllK
import Wide.FinOn
import Lean
import PyProof.EqAt
import PyProof.EqKinds
import PyProof.TupleCall
import PyProof.P3Statements
import KE.KIntText
import KE.KRevIter
import KE.KRevSl
import KE.KSortTup
import KE.KDictSum
import PySem.Challenge.RW_penwright_k64_rings
open List(length_map length_append map_cons length_cons getElem?_eq_getElem map_append size_toArray getElem?_map getD_eq_getElem?_getD mem_singleton append_nil length_nil mem_cons_of_mem mem_cons mem_append_right map_map mem_cons_self mem_append_left append_assoc length_take mem_append mem_filter not_mem_nil length_singleton getElem_mem find?_cons nodup_nil any_cons perm_ext_iff_of_nodup flatten_cons mem_map_of_mem length_filter_le filterMap_cons getElem?_append_left mem_of_getElem? length_drop getElem?_eq_none nodup_append flatMap_cons replicate_succ map_congr_left take_of_length_le length_range getElem?_cons_succ append_inj' nodup_cons map_nil nil_append lookup_cons take_append_drop mem_range pairwise_singleton filter_cons flatMap_append ext_getElem filter_append all_eq_true getElem?_drop countP_cons mem_flatMap flatMap_nil sum_cons mem_map)
open Array(length_toList getElem?_toList size_map)
set_option Elab.async false
set_option linter.all false
set_option maxRecDepth 100000
set_option maxHeartbeats 4000000
open PySem.W (fnOf kHook methodObj findIn keepIn cellsFrom_some codeIn nsIn kitOne kia_one mg_of mg_none_of)
open PySem.F (slot_tuple_add entry_tuple_add args_tuple_add_2 slot_dict_get entry_dict_get plainAttrs_dict)
noncomputable section
set_option compiler.extract_closed false
set_option hygiene false
local macro_rules|`([2])=>`(by omega)|`([3])=>`(⟨rfl,rfl,rfl,by decide +kernel,rfl,by decide +kernel,by decide +kernel⟩)|`([4])=>`(Value->Shared->Prop)|`([5])=>`(List (Addr × Obj))|`([6])=>`(Inv X pins σ H s)|`([7])=>`(by decide)|`([8])=>`(c3 (.int 1))|`([9])=>`(model X.prog X.w)|`([10])=>`(SetTable.insertAt es (t.put sl).2 (hashInt k,Value.int k tk))|`([11])=>`(model prog w)|`([12])=>`(wd0 X NN scope cl C fp s₀ H₀ pn)|`([13])=>`(.ListComp elt [⟨target,iter,ifs,0⟩] scope pos)|`([14])=>`(Nat.le_refl _)|`([15])=>`(c3 (.int 0))|`([16])=>`(by simp)|`([17])=>`(wpAny_pure ?_)|`([18])=>`(by rw [length_map]; omega)|`([19])=>`(seq3 (set3 8 (o3 addR (v3 8) (lst3 (va0 (tup3 (va0 (tup3 (va0 (v3 6) (va0 (v3 7) (va0 [8] nil3)))) (va0 (tup3 (va0 (o3 subR (v3 6) [8]) (va0 (v3 7) nil3))) nil3))) (va0 (tup3 (va0 (tup3 (va0 (o3 addR (v3 6) [8]) (va0 (v3 7) (va0 [8] nil3)))) (va0 (tup3 (va0 (o3 addR (v3 6) [8]) (va0 (v3 7) nil3))) nil3))) nil3))))) (tg0 (mt3 extR (v3 5) (va0 (yi0 [none,none,some 3] (is3 (v3 8)) (vu0 2 (ze0 (gn3 0) (ze0 (gn3 1) uu0))) (b3 (o3 (inR true) (v3 1) (v3 2))) (v3 0)) nil3))))|`([20])=>`((e :: es).length + ([]:List Keyword).length + (if ([]:List Keyword).isEmpty then 0 else 1) < 30)|`([21])=>`(seq3 (asg3 (o3 modR (o3 addR (o3 mulR (o3 ixR (v3 0) [15]) (c3 (.int 48271))) (c3 (.int 69621))) (c3 (.int 2147483647))) (sub3 (v3 0) [15])) (seq3 (set3 3 (o3 modR (o3 addR (o3 mulR (o3 ixR (v3 0) [15]) (o3 ixR (v3 0) [15])) (o3 mulR (c3 (.int 16807)) (o3 ixR (v3 0) [15]))) (c3 (.int 2147483629)))) (seq3 (set3 3 (o3 modR (o3 addR (o3 mulR (v3 3) (v3 3)) (o3 mulR (c3 (.int 39373)) (v3 3))) (c3 (.int 2147483587)))) (ret3 (o3 modR (o3 zf2 (v3 3) (c3 (.int 8))) (v3 1))))))|`([22])=>`(by rintro _ _ _ ⟨_,rfl,_⟩; rfl)|`([23])=>`(((s.heap.push (seqObj "list" #[] 0)).update s.heap.objs.size (Obj.mapSeq (· ++ vs.toArray))))|`([24])=>`(List Value)|`([25])=>`(.tup (ts.map encT))|`([26])=>`(uc0 q_ix (ya0 0) xb0)|`([27])=>`(wpAny_newObj_type (wpAny_bind (m:=firstArgMember _ _) (wpAny_of_eq (a:=Value.none) (by first | rfl | (simp only [firstArgMember]; rfl)) (wpAny_newObj_type ?_ (by size_fits)))) (by size_fits))|`([28])=>`(.lst [.tup [encT (c.1,c.2,1),encQ (c.1 - 1,c.2)],.tup [encT (c.1 + 1,c.2,1),encQ (c.1 + 1,c.2)]])|`([29])=>`(.lst [.tup [encT (c.1,c.2,0),encQ (c.1,c.2 - 1)],.tup [encT (c.1,c.2 + 1,0),encQ (c.1,c.2 + 1)]])|`([30])=>`(⟨_,Heap.get?_push_size _ rfl,rfl,rfl⟩)|`([31])=>`(List (List Key × V))|`([32])=>`(seq3 (set3 7 (vb0 wh3 (va0 (o3 dgR (v3 1) (tup3 (va0 (v3 4) (va0 (v3 5) nil3)))) (va0 (o3 dgR (v3 1) (tup3 (va0 (o3 subR (o3 addR (v3 4) [8]) (v3 6)) (va0 (o3 addR (v3 5) (v3 6)) nil3)))) nil3)))) (seq3 (xo0 (v3 1) (tup3 (va0 (v3 4) (va0 (v3 5) nil3))) (v3 7)) (xo0 (v3 1) (tup3 (va0 (o3 subR (o3 addR (v3 4) [8]) (v3 6)) (va0 (o3 addR (v3 5) (v3 6)) nil3))) (v3 7))))|`([33])=>`(∀ sl wd,k ∉ xs.map (·.1)->sl ∉ t.place.toList->(∃ m,tr t.mask (hf k) m=sl /\ ∀ l,l < m->Occ t (tr t.mask (hf k) l))->(wd=true->t.slot sl=.dummy)->Q (.free sl wd) s)|`([34])=>`(List T3)|`([35])=>`((false,eval e X.env))|`([36])=>`({ s with heap:=h' })|`([37])=>`({ cls:=.type "range",data:=.fields #[.int lo t,.int hi u,.int 1 v] })|`([38])=>`({ cls:=.type "list",dict:=none,data:=.seq ([]:List Value).toArray })|`([39])=>`(wpAny_setState_of S.ho S.hd S.fits ?_)
theorem Z0:1<=PySem.sizeLine:=by decide
namespace L2
open PySem PySem.Spec PyProof.Rows
def sj0 (s:Stmt):Arguments:=match s with
 | .FunctionDef _ a _ _ _ _ _ _ _ _=>a
 | _=>{ posonlyargs:=[],args:=[],vararg:=none,kwonlyargs:=[],kw_defaults:=[],kwarg:=none,defaults:=[] }
def yc0 (s:Stmt):List Stmt:=match s with
 | .FunctionDef _ _ b _ _ _ _ _ _ _=>b
 | _=>[]
def ua0 (s:Stmt):Scope:=match s with
 | .FunctionDef _ _ _ _ _ _ sc _ _ _=>sc
 | _=>{ kind:=.function,names:=[],isGenerator:=false,isCoroutine:=false }
end L2
namespace Pv
open PySem PySem.Spec PyProof.Rows L2
noncomputable def top (i:Nat):Stmt:=PySem.Challenge.pw_penwright_k64_rings.main.body.getD i (.Pass ⟨0,0,0,0⟩)
abbrev zr1:Stmt:=top 5
abbrev yr1:Stmt:=top 6
abbrev tq1:Stmt:=top 7
abbrev xq1:Stmt:=top 9
abbrev tp1:Stmt:=top 10
abbrev sp1:Stmt:=top 11
abbrev up1:Stmt:=top 12
abbrev wq1:Stmt:=top 13
abbrev wp1:Stmt:=top 14
abbrev zp1:Stmt:=top 15
abbrev yp1:Stmt:=top 16
abbrev vq1:Stmt:=top 17
abbrev vp1:Stmt:=top 18
abbrev zq1:Stmt:=top 19
abbrev yq1:Stmt:=top 20
abbrev uq1:Stmt:=top 22
abbrev s_q9:Stmt:=top 23
abbrev xr1:Stmt:=top 24
abbrev s_q5:Stmt:=top 26
abbrev s_q6:Stmt:=top 27
abbrev s_q8:Stmt:=top 28
abbrev s_q2:Stmt:=top 29
abbrev s_q0:Stmt:=top 30
abbrev s_q4:Stmt:=top 31
abbrev s_q3:Stmt:=top 32
abbrev s_q1:Stmt:=top 33
abbrev s_q7:Stmt:=top 34
abbrev yu0:Stmt:=top 35
abbrev vb:Value:=.bool true
abbrev vi:Value:=.int 181 0
noncomputable def en (P:Params) (x:Str) (t:Tok) (v:Value):DictEntry:=⟨PyData.keyHash P x,.str x t,v⟩
noncomputable def fo (x y:Str) (st:Stmt) (m c:Value):Obj:=⟨.type "function",none,.func (fnOf x y (sj0 st) (yc0 st) (ua0 st) .none .none .none m none c .none),#[]⟩
noncomputable def co (x:Str) (a:Tok) (y:Str) (b c:Tok) (ns:List Int) (vs:[24]) (d e:Int) (f:Tok):Obj:=⟨.type "code",none,.fields (.str x a :: .str y b :: .str "/claim/cut.py" c :: (ns.map (λ n=>Value.int n 0) ++ (vs ++ [.int d 0,.int e 0,.str "/claim/cut.py" f]))).toArray,#[]⟩
noncomputable def tO (vs:[24]):Obj:=⟨.type "tuple",none,.seq vs.toArray 0,#[]⟩
abbrev z0:Value:=.str "law_penwright_k64_rings" 387
def z6 (x:Str) (s:Stmt) (c:Addr):Obj:=fo x x s z0 (.ref c)
def z7 (x:Str) (a:Tok):=co x a x
def z8 (P:Params) (x:Str) (t:Tok) (a:Addr):DictEntry:=en P x t (.ref a)
def Z1 (x:Str):=fo x x
abbrev Z2:Value:=.str "penwright.errors" 187
abbrev Z3:Value:=.str "penwright.pictures" 223
abbrev Z4:Value:=.str "penwright.trails" 251
abbrev Z5:Value:=.str "penwright.rooms" 365
noncomputable def KK:PySem.Params->PySem.W.Frag:=λ P=>(nat_lit 2,⟨.none,none,.dict #[] 0,#[]⟩) :: (nat_lit 3,⟨.type "dict",none,.dict #[en P "__name__" 165 z0,en P "__doc__" 166 (.none),en P "__package__" 167 (.none),en P "__loader__" 168 (.builtin "__main__.__loader__#opaque"),en P "__spec__" 169 (.none),z8 P "__annotations__" 170 6,z8 P "__builtins__" 171 4,en P "__file__" 173 (.str "/claim/cut.py" 172),en P "__cached__" 174 (.none),z8 P "PenError" 206 24,z8 P "NoPicture" 222 37,z8 P "WAYS" 227 40,z8 P "check_picture" 236 47,z8 P "check_stroke" 243 54,z8 P "ends_of" 250 61,z8 P "picture_pieces" 263 68,z8 P "strokes_at" 273 75,z8 P "piece_with" 286 82,z8 P "take_unseen" 292 87,z8 P "odd_points" 298 92,z8 P "trails_of" 307 99,z8 P "trails_of_piece" 313 104,z8 P "way_along" 327 111,z8 P "links_at" 337 118,z8 P "take_unused" 346 125,z8 P "other_end" 354 132,z8 P "parted_at_bridges" 364 139,z8 P "is_ring" 372 144,z8 P "area_of" 378 149,z8 P "crossed" 386 156,z8 P "_law_state" 397 163,z8 P "_law_take" 407 170,z8 P "_law_whole" 414 177,z8 P "_law_lines" 429 184,z8 P "_law_ends" 441 191,z8 P "_law_pieces" 447 196,z8 P "_law_outline" 453 201,z8 P "_law_is_ring" 459 206,z8 P "_law_turned" 469 213,z8 P "law" 475 218] 40,#[]⟩) :: (nat_lit 15,tO [.type "ValueError"]) :: (nat_lit 22,tO []) :: (nat_lit 23,⟨.type "dict",none,.dict #[en P "__module__" 196 Z2,en P "__firstlineno__" 200 (.int 2 199),z8 P "__static_attributes__" 201 22,z8 P "__weakref__" 203 25,en P "__doc__" 204 (.none)] 3,#[]⟩) :: (nat_lit 24,⟨.type "type",none,.cls ⟨"PenError",[.type "ValueError"],[.ref 24,.type "ValueError",.type "Exception",.type "BaseException",.type "object"],23, "PenError",true,[],[.ref 37],false,none,false⟩,#[some (.ref 15),none,some (.str "PenError" 189),some (.str "PenError" 197),some (.builtin "ValueError.__new__"),some (.bool true)]⟩) :: (nat_lit 25,⟨.type "getset_descriptor",none,.fields #[.str "__weakref__" 202,.ref 24,.builtin "ExceptionGroup.__weakref__",.none],#[]⟩) :: (nat_lit 28,tO [.ref 24]) :: (nat_lit 35,tO []) :: (nat_lit 36,⟨.type "dict",none,.dict #[en P "__module__" 214 Z2,en P "__firstlineno__" 218 (.int 4 217),z8 P "__static_attributes__" 219 35,en P "__doc__" 220 (.none)] 2,#[]⟩) :: (nat_lit 37,⟨.type "type",none,.cls ⟨"NoPicture",[.ref 24],[.ref 37,.ref 24,.type "ValueError",.type "Exception",.type "BaseException",.type "object"],36, "NoPicture",true,[],[],false,none,false⟩,#[some (.ref 28),none,some (.str "NoPicture" 207),some (.str "NoPicture" 215),some (.builtin "ValueError.__new__"),some (.bool true)]⟩) :: (nat_lit 40,tO [.int 0 225,.int 1 226]) :: (nat_lit 46,z7 "check_picture" 228 229 230 [8,1,0,0,3] [.ref 41,vb,vi,.ref 42,.none,.ref 43,.ref 44,.ref 45] 234 8 235) :: (nat_lit 47,Z1 "check_picture" zr1 Z3 (.ref 46)) :: (nat_lit 53,z7 "check_stroke" 237 238 239 [14,1,0,0,3] [.ref 48,vb,vi,.ref 49,.none,.ref 50,.ref 51,.ref 52] 241 14 242) :: (nat_lit 54,Z1 "check_stroke" yr1 Z3 (.ref 53)) :: (nat_lit 60,z7 "ends_of" 244 245 246 [17,1,0,0,3] [.ref 55,vb,vi,.ref 56,.none,.ref 57,.ref 58,.ref 59] 248 17 249) :: (nat_lit 61,Z1 "ends_of" tq1 Z3 (.ref 60)) :: (nat_lit 67,z7 "picture_pieces" 253 254 255 [22,1,0,0,3] [.ref 62,vb,vi,.ref 63,.none,.ref 64,.ref 65,.ref 66] 261 22 262) :: (nat_lit 68,Z1 "picture_pieces" xq1 Z4 (.ref 67)) :: (nat_lit 74,z7 "strokes_at" 264 265 266 [31,1,0,0,3] [.ref 69,vb,vi,.ref 70,.none,.ref 71,.ref 72,.ref 73] 271 31 272) :: (nat_lit 75,Z1 "strokes_at" tp1 Z4 (.ref 74)) :: (nat_lit 81,z7 "piece_with" 274 275 276 [37,3,0,0,3] [.ref 76,vb,vi,.ref 77,.none,.ref 78,.ref 79,.ref 80] 284 37 285) :: (nat_lit 82,Z1 "piece_with" sp1 Z4 (.ref 81)) :: (nat_lit 86,z7 "take_unseen" 287 288 289 [47,2,0,0,3] [.ref 83,vb,vi,.ref 84,.none,.none,.none,.ref 85] 290 47 291) :: (nat_lit 87,Z1 "take_unseen" up1 Z4 (.ref 86)) :: (nat_lit 91,z7 "odd_points" 293 294 295 [52,1,0,0,3] [.ref 88,vb,vi,.ref 89,.none,.none,.none,.ref 90] 296 52 297) :: (nat_lit 92,Z1 "odd_points" wq1 Z4 (.ref 91)) :: (nat_lit 98,z7 "trails_of" 299 300 301 [56,1,0,0,3] [.ref 93,vb,vi,.ref 94,.none,.ref 95,.ref 96,.ref 97] 305 56 306) :: (nat_lit 99,Z1 "trails_of" wp1 Z4 (.ref 98)) :: (nat_lit 103,z7 "trails_of_piece" 308 309 310 [61,1,0,0,3] [.ref 100,vb,vi,.ref 101,.none,.none,.none,.ref 102] 311 61 312) :: (nat_lit 104,Z1 "trails_of_piece" zp1 Z4 (.ref 103)) :: (nat_lit 110,z7 "way_along" 314 315 316 [67,2,0,0,3] [.ref 105,vb,vi,.ref 106,.none,.ref 107,.ref 108,.ref 109] 325 67 326) :: (nat_lit 111,Z1 "way_along" yp1 Z4 (.ref 110)) :: (nat_lit 117,z7 "links_at" 328 329 330 [81,1,0,0,3] [.ref 112,vb,vi,.ref 113,.none,.ref 114,.ref 115,.ref 116] 335 81 336) :: (nat_lit 118,Z1 "links_at" vq1 Z4 (.ref 117)) :: (nat_lit 124,z7 "take_unused" 338 339 340 [87,2,0,0,3] [.ref 119,vb,vi,.ref 120,.none,.ref 121,.ref 122,.ref 123] 344 87 345) :: (nat_lit 125,Z1 "take_unused" vp1 Z4 (.ref 124)) :: (nat_lit 131,z7 "other_end" 347 348 349 [93,2,0,0,3] [.ref 126,vb,vi,.ref 127,.none,.ref 128,.ref 129,.ref 130] 352 93 353) :: (nat_lit 132,Z1 "other_end" zq1 Z4 (.ref 131)) :: (nat_lit 138,z7 "parted_at_bridges" 355 356 357 [95,2,0,0,3] [.ref 133,vb,vi,.ref 134,.none,.ref 135,.ref 136,.ref 137] 362 95 363) :: (nat_lit 139,Z1 "parted_at_bridges" yq1 Z4 (.ref 138)) :: (nat_lit 143,z7 "is_ring" 367 368 369 [103,1,0,0,3] [.ref 140,vb,vi,.ref 141,.none,.none,.none,.ref 142] 370 103 371) :: (nat_lit 144,Z1 "is_ring" uq1 Z5 (.ref 143)) :: (nat_lit 148,z7 "area_of" 373 374 375 [107,1,0,0,3] [.ref 145,vb,vi,.ref 146,.none,.none,.none,.ref 147] 376 107 377) :: (nat_lit 149,Z1 "area_of" s_q9 Z5 (.ref 148)) :: (nat_lit 155,z7 "crossed" 379 380 381 [112,2,0,0,3] [.ref 150,vb,vi,.ref 151,.none,.ref 152,.ref 153,.ref 154] 384 112 385) :: (nat_lit 156,Z1 "crossed" xr1 Z5 (.ref 155)) :: (nat_lit 162,z7 "_law_state" 389 390 391 [115,2,0,0,3] [.ref 157,vb,vi,.ref 158,.none,.ref 159,.ref 160,.ref 161] 395 115 396) :: (nat_lit 163,z6 "_law_state" s_q5 162) :: (nat_lit 169,z7 "_law_take" 398 399 400 [122,2,0,0,3] [.ref 164,vb,vi,.ref 165,.none,.ref 166,.ref 167,.ref 168] 405 122 406) :: (nat_lit 170,z6 "_law_take" s_q6 169) :: (nat_lit 176,z7 "_law_whole" 408 409 410 [132,1,0,0,3] [.ref 171,vb,vi,.ref 172,.none,.ref 173,.ref 174,.ref 175] 412 132 413) :: (nat_lit 177,z6 "_law_whole" s_q8 176) :: (nat_lit 183,z7 "_law_lines" 415 416 417 [134,2,0,0,3] [.ref 178,vb,vi,.ref 179,.none,.ref 180,.ref 181,.ref 182] 427 134 428) :: (nat_lit 184,z6 "_law_lines" s_q2 183) :: (nat_lit 190,z7 "_law_ends" 430 431 432 [147,1,0,0,3] [.ref 185,vb,vi,.ref 186,.none,.ref 187,.ref 188,.ref 189] 439 147 440) :: (nat_lit 191,z6 "_law_ends" s_q0 190) :: (nat_lit 195,z7 "_law_pieces" 442 443 444 [153,1,0,0,3] [.ref 192,vb,vi,.ref 193,.none,.none,.none,.ref 194] 445 153 446) :: (nat_lit 196,z6 "_law_pieces" s_q4 195) :: (nat_lit 200,z7 "_law_outline" 448 449 450 [163,3,0,0,3] [.ref 197,vb,vi,.ref 198,.none,.none,.none,.ref 199] 451 163 452) :: (nat_lit 201,z6 "_law_outline" s_q3 200) :: (nat_lit 205,z7 "_law_is_ring" 454 455 456 [173,1,0,0,3] [.ref 202,vb,vi,.ref 203,.none,.none,.none,.ref 204] 457 173 458) :: (nat_lit 206,z6 "_law_is_ring" s_q1 205) :: (nat_lit 212,z7 "_law_turned" 460 461 462 [176,2,0,0,3] [.ref 207,vb,vi,.ref 208,.none,.ref 209,.ref 210,.ref 211] 467 176 468) :: (nat_lit 213,z6 "_law_turned" s_q7 212) :: (nat_lit 217,z7 "law" 470 471 472 [188,1,0,0,3] [.ref 214,vb,vi,.ref 215,.none,.none,.none,.ref 216] 473 188 474) :: (nat_lit 218,z6 "law" yu0 217) :: []
noncomputable def KA:List Addr:=[2,3,15,22,23,24,25,28,35,36,37,40,46,47,53,54,60,61,67,68,74,75,81,82,86,87,91,92,98,99,103,104,110,111,117,118,124,125,131,132,138,139,143,144,148,149,155,156,162,163,169,170,176,177,183,184,190,191,195,196,200,201,205,206,212,213,217,218]
theorem ke:∀ P,KA=(KK P).map (·.1):=λ _=>by kernel_rfl
noncomputable def vw:Program:={ PySem.Challenge.pw_penwright_k64_rings with main:={ PySem.Challenge.pw_penwright_k64_rings.main with body:=[top 1,top 2,top 4,top 5,top 6,top 7,top 9,top 10,top 11,top 12,top 13,top 14,top 15,top 16,top 17,top 18,top 19,top 20,top 22,top 23,top 24,top 26,top 27,top 28,top 29,top 30,top 31,top 32,top 33,top 34,top 35] } }
theorem h_said:PySem.Challenge.rw_penwright_k64_rings.wellSaid=true:=by kernel_rfl
theorem h_left:PySem.W.LeftO (PySem.W.OpenLaw.row PySem.Challenge.rw_penwright_k64_rings).prog vw [] (λ s=>PySem.W.xlAt vw [] s && PySem.W.recOk (PySem.W.RowW.records (PySem.W.OpenRow.toRowW (PySem.W.OpenLaw.row PySem.Challenge.rw_penwright_k64_rings))) s) (PySem.W.Hook.obs (kHook KK KA ke)) (PySem.W.Hook.val (kHook KK KA ke)) 2718:=by
 intro w
 delta PySem.W.openEnds PySem.W.fencedOpening PySem.W.topFrom
 rw [PySem.W.Fast.te14082659384304107361,PySem.W.Fast.te10274390034422433532,PySem.W.Fast.te14289696077712309145,PySem.W.Fast.te1435165496053646825,PySem.W.Fast.te14364793385576792824,PySem.W.Fast.te4187177175401517315]
 kernel_rfl
end Pv
namespace L2
open PySem PySem.Spec PyProof.Rows
abbrev Key:=Sum Int Str
def zs1:Key->Value->Bool
 | .inl k,v=>Value.isInt k v
 | .inr x,v=>Value.isStrOf x v
def keyH (w:World):Key->Int
 | .inl k=>hashInt k
 | .inr x=>hashStr w x
theorem sd0:∀ {k:Key} {v:Value},zs1 k v=true->(∃ i t,k=Sum.inl i /\ v=Value.int i t) \/ (∃ x t,k=Sum.inr x /\ v=Value.str x t)
 | .inl i,v,h=>by
  obtain ⟨t,e⟩:=Value.isInt_shape (k:=i) (v:=v) h;exact .inl ⟨i,t,rfl,e⟩
 | .inr x,v,h=>by
  obtain ⟨t,e⟩:=Value.isStrOf_shape (x:=x) (v:=v) h;exact .inr ⟨x,t,rfl,e⟩
theorem uc2 (i:Int) (t:Tok):zs1 (.inl i) (.int i t)=true:=by simp [zs1,Value.isInt]
theorem vc2 (x:Str) (t:Tok):zs1 (.inr x) (.str x t)=true:=by simp [zs1,Value.isStrOf]
theorem vh4 (a b:Int):decide ((Sum.inl a:Key)=Sum.inl b)=(a == b):=by
 by_cases e:a=b
 ·subst e; simp
 ·have h:¬ (Sum.inl a:Key)=Sum.inl b:=λ q=>e (Sum.inl.inj q);rw [decide_eq_false h];exact (beq_eq_false_iff_ne.mpr e).symm
theorem yh4 (a b:Str):decide ((Sum.inr a:Key)=Sum.inr b)=decide (a=b):=by
 by_cases e:a=b
 ·subst e; simp
 ·have h:¬ (Sum.inr a:Key)=Sum.inr b:=λ q=>e (Sum.inr.inj q);rw [decide_eq_false h,decide_eq_false e]
theorem wh4 (a:Int) (b:Str):decide ((Sum.inl a:Key)=Sum.inr b)=false:=decide_eq_false (λ q=>nomatch q)
theorem zh4 (a:Str) (b:Int):decide ((Sum.inr a:Key)=Sum.inl b)=false:=decide_eq_false (λ q=>nomatch q)
def we0 (prog:Program) (w:World):PySem.KeyKind prog w Key where
 is:=zs1
 hash:=keyH w
 inj:=λ v a b ha hb=>by
  rcases sd0 ha with ⟨i,t,rfl,rfl⟩ | ⟨x,t,rfl,rfl⟩
  ·rcases sd0 hb with ⟨j,u,rfl,e⟩ | ⟨y,u,rfl,e⟩
   ·injection e with e1 _; rw [e1]
   ·exact nomatch e
  ·rcases sd0 hb with ⟨j,u,rfl,e⟩ | ⟨y,u,rfl,e⟩
   ·exact nomatch e
   ·injection e with e1 _; rw [e1]
 byValue:=λ k v h=>by
  rcases sd0 h with ⟨i,t,rfl,rfl⟩ | ⟨x,t,rfl,rfl⟩ <;> rfl
 pyHash:=λ hv h=>by
  rcases sd0 hv with ⟨i,t,rfl,rfl⟩ | ⟨x,t,rfl,rfl⟩
  ·exact wpAny_pyHash_int h
  ·exact wpAny_pyHash_str h
 eqBool:=λ hu hv h=>by
  rcases sd0 hu with ⟨i,t,rfl,rfl⟩ | ⟨x,t,rfl,rfl⟩
  ·rcases sd0 hv with ⟨j,u,rfl,rfl⟩ | ⟨y,u,rfl,rfl⟩
   ·rw [vh4] at h; exact wpAny_eqBool_int h
   ·rw [wh4] at h; exact SeqAt.EqAt.int_str i t y u _ _ _ _ h
  ·rcases sd0 hv with ⟨j,u,rfl,rfl⟩ | ⟨y,u,rfl,rfl⟩
   ·rw [zh4] at h; exact SeqAt.EqAt.str_int x t j u _ _ _ _ h
   ·rw [yh4] at h; exact wpAny_eqBool_str h
 «strs» := λ k x t v h=>by
  rcases sd0 h with ⟨i,u,rfl,e⟩ | ⟨y,u,rfl,e⟩
  ·exact nomatch e
  ·injection e with e1 _
   subst e1;cases v <;> rfl
theorem xg1 (prog:Program) (w:World) (i:Int) (t:Tok):(we0 prog w).is (.inl i) (.int i t)=true:=uc2 i t
theorem sf1 (prog:Program) (w:World) (x:Str) (t:Tok):(we0 prog w).is (.inr x) (.str x t)=true:=vc2 x t
inductive V where
 | non | bl (b:Bool) | int (i:Int) | str (x:Str) | byt (b:Array UInt8) | flt (b:UInt64) | ref (a:Addr) | ty (n:String)
 deriving DecidableEq
def RelV:V->Value->Prop
 | .non,u=>u=Value.none
 | .bl b,u=>u=Value.bool b
 | .int i,u=>∃ t,u=Value.int i t
 | .str x,u=>∃ t,u=Value.str x t
 | .byt b,u=>∃ t,u=Value.bytes b t
 | .flt b,u=>∃ t,u=Value.float b t
 | .ref a,u=>u=Value.ref a
 | .ty n,u=>u=Value.type n
abbrev Vals:List V->List Value->Prop:=Paired RelV
theorem Vals.length {xs:List V} {us:[24]} (r:Vals xs us):xs.length=us.length:=Paired.length r
theorem Vals.get:∀ {xs:List V} {us:[24]} {i:Nat} {x:V},Vals xs us->xs[i]?=some x->∃ u,us[i]?=some u /\ RelV x u
 | _,_,_,_,.nil,e=>by simp at e
 | _,_,0,_,.cons r _,e=>by simp at e; subst e; exact ⟨_,rfl,r⟩
 | _,_,i + 1,x,.cons _ t,e=>by
  obtain ⟨u,h1,h2⟩:=Vals.get (i:=i) (x:=x) t (by simpa using e);exact ⟨u,by simpa using h1,h2⟩
theorem Vals.set {x:V} {u:Value} (r:RelV x u):∀ {xs:List V} {us:[24]} (i:Nat),Vals xs us->Vals (xs.set i x) (us.set i u)
 | _,_,_,.nil=>.nil
 | _,_,0,.cons _ t=>.cons r t
 | _,_,i + 1,.cons q t=>.cons q (Vals.set r i t)
theorem Vals.append:∀ {xs ys:List V} {us ws:[24]},Vals xs us->Vals ys ws->Vals (xs ++ ys) (us ++ ws)
 | _,_,_,_,.nil,s=>s
 | _,_,_,_,.cons r t,s=>.cons r (Vals.append t s)
theorem Vals.take:∀ {xs:List V} {us:[24]} (n:Nat),Vals xs us->Vals (xs.take n) (us.take n)
 | _,_,0,_=>.nil
 | _,_,_ + 1,.nil=>.nil
 | _,_,n + 1,.cons r t=>.cons r (Vals.take n t)
theorem Vals.drop:∀ {xs:List V} {us:[24]} (n:Nat),Vals xs us->Vals (xs.drop n) (us.drop n)
 | _,_,0,r=>r
 | _,_,_ + 1,.nil=>.nil
 | _,_,n + 1,.cons _ t=>Vals.drop n t
def RelO:Option V->Option Value->Prop
 | some v,some u=>RelV v u
 | none,none=>True
 | _,_=>False
def KV {κ:Type}:List (κ × V)->List (κ × Value)->Prop:=Paired λ (p:κ × V) (q:κ × Value)=>p.1=q.1 /\ RelV p.2 q.2
def kV:Key->V
 | .inl i=>.int i
 | .inr x=>.str x
inductive HO where
 | lst (xs:List V)
 | tup (xs:List V)
 | dK (kvs:List (Key × V)) | dT (kvs:List (List Key × V))
 | set (S:Int->Bool) (n:Nat)
 | ins (C dx:Addr) (fs:List (Str × V))
 | own (x:Addr)
 | xd (fs:List (Str × V))
 | met (f x:Addr)
 | rng (lo hi:Int)
 | frz (o:Obj) (u:HO)
 | tbl (ps:Array Value)
 | ext (φ:Heap->Prop)
abbrev Hp:=Addr->Option HO
def upd (H:Hp) (a:Addr) (o:HO):Hp:=λ b=>if b=a then some o else H b
theorem ve0 {H:Hp} {a:Addr} {o:HO}:upd H a o a=some o:=by unfold upd; rw [if_pos rfl]
theorem vc0 {H:Hp} {a b:Addr} {o:HO} (h:b ≠ a):upd H a o b=H b:=by unfold upd; rw [if_neg h]
theorem xc1 {H:Hp} {a b:Addr} {o u:HO} (h:H a=some o) (h':H b=some u) (d:o ≠ u):a ≠ b:=by
 intro e; subst e; rw [h] at h'; exact d (Option.some.inj h')
theorem tf0 {H:Hp} {a b:Addr} {o:HO} (h:H a=some o) (h':H b=none):a ≠ b:=by
 intro e; subst e; rw [h] at h'; cases h'
section
variable (P:Program) (w:World)
def ObjOk (H:Hp) (h:Heap) (a:Addr):HO->Prop
 | .lst xs=>xs.length<=sizeLine /\ ∃ (its:[24]) (n:Nat),Vals xs its /\ h.get? a=some { cls:=.type "list",data:=.seq its.toArray n }
 | .tup xs=>xs.length<=sizeLine /\ ∃ its:List Value,Vals xs its /\ IsTup h a its.toArray
 | .dK kvs=>kvs.length<=sizeLine /\ (a == sysModules)=false /\ ∃ vs,KV kvs vs /\ h.DictOf (we0 P w) a vs
 | .dT kvs=>kvs.length<=sizeLine /\ (a == sysModules)=false /\ ∃ xs:List (List Key × Addr × Value),
     Paired (λ (p:List Key × V) (q:List Key × Addr × Value)=>p.1=q.1 /\ H q.2.1=some (.tup (p.1.map kV)) /\ RelV p.2 q.2.2) kvs xs ∧
     ∃ o es ep,h.get? a=some o /\ o.ExactDict /\ o.data=.dict es ep /\ es.toList=xs.map (entryOfKey (tupleKind (we0 P w))) /\ (xs.map (·.1)).Nodup /\ ep=kvs.length
 | .set S n=>h.SetOf (intKind P w) a S n
 | .ins C dx fs=>H dx=some (.own a) /\ fs.length<=1000 /\ dx ≠ a /\ h.get? a=some (PySem.W.instObj C dx) ∧
     ∃ mA,h.Ns1 dx mA /\ (∀ f,RelO (fs.lookup f) (mA f)) /\ PySem.Within mA (fs.map (·.1))
 | .own _=>∃ o,h.get? a=some o
 | .xd fs=>∃ mA,h.Ns1 a mA /\ ∀ f,RelO (fs.lookup f) (mA f)
 | .rng lo hi=>∃ t u v,h.get? a=some [37]
 | .frz o u=>h.get? a=some o /\ ObjOk H h a u
 | .tbl ps=>h.get? a=some { cls:=.none,data:=.fields ps }
 | .met f x=>h.get? a=some (methodObj (.ref f) (.ref x))
 | .ext φ=>φ h /\ (∃ o,h.get? a=some o) /\ ∀ h1 h2:Heap,φ h1->(∀ o,h1.get? a=some o->h2.get? a=some o)->φ h2
def HOk (H:Hp) (h:Heap):Prop:=∀ a o,H a=some o->ObjOk P w H h a o
end
section
variable {P:Program} {w:World} {H H':Hp} {h h':Heap} {a:Addr} {o:HO}
theorem ObjOk.lt (x:ObjOk P w H h a o):a < h.objs.size:=by
 cases o with
 | lst xs=>obtain ⟨_,_,_,_,e⟩:=x; exact Heap.lt_size e
 | tup xs=>obtain ⟨_,_,_,p⟩:=x; exact p.lt
 | dK kvs=>obtain ⟨_,_,_,_,o,_,_,e,_⟩:=x; exact Heap.lt_size e
 | dT kvs=>obtain ⟨_,_,_,_,o,_,_,e,_⟩:=x; exact Heap.lt_size e
 | set S n=>obtain ⟨o,_,_,_,e,_⟩:=x; exact Heap.lt_size e
 | ins C dx fs=>obtain ⟨_,_,_,e,_⟩:=x; exact Heap.lt_size e
 | own y=>obtain ⟨_,e⟩:=x; exact Heap.lt_size e
 | xd fs=>obtain ⟨_,⟨_,_,_,e,_⟩,_⟩:=x; exact Heap.lt_size e
 | rng lo hi=>obtain ⟨_,_,_,e⟩:=x; exact Heap.lt_size e
 | frz ob u=>obtain ⟨e,_⟩:=x; exact Heap.lt_size e
 | tbl ps=>exact Heap.lt_size (show h.get? a=some _ from x)
 | met f y=>exact Heap.lt_size (show h.get? a=some _ from x)
 | ext φ=>obtain ⟨_,⟨_,e⟩,_⟩:=x; exact Heap.lt_size e
theorem Paired.mapP {α β:Type} {F G:α->β->Prop}:∀ {l₁:List α} {l₂:List β},Paired F l₁ l₂->(∀ a b,F a b->G a b)->Paired G l₁ l₂
 | _,_,.nil,_=>.nil
 | _,_,.cons r t,f=>.cons (f _ _ r) (Paired.mapP t f)
theorem ObjOk.stay (x:ObjOk P w H h a o) (k:∀ b u,(b=a \/ H b=some (.own a))->h.get? b=some u->h'.get? b=some u)
    (ho:∀ b,H b=some (.own a)->H' b=some (.own a)) (ht:∀ b xs,H b=some (.tup xs)->H' b=some (.tup xs)):ObjOk P w H' h' a o:=by
 induction o with
 | lst xs=>obtain ⟨z,its,n,r,e⟩:=x; exact ⟨z,its,n,r,k _ _ (.inl rfl) e⟩
 | tup xs=>obtain ⟨z,its,r,ob,e,c⟩:=x; exact ⟨z,its,r,ob,k _ _ (.inl rfl) e,c⟩
 | dK kvs=>obtain ⟨z,y,vs,r,ob,es,ep,e,c⟩:=x; exact ⟨z,y,vs,r,ob,es,ep,k _ _ (.inl rfl) e,c⟩
 | dT kvs =>
  obtain ⟨z,y,xs,r,ob,es,ep,e,c⟩:=x;exact ⟨z,y,xs,Paired.mapP r λ p q z=>⟨z.1,ht _ _ z.2.1,z.2.2⟩,ob,es,ep,k _ _ (.inl rfl) e,c⟩
 | set S n=>obtain ⟨ob,es,ep,t,e,c⟩:=x; exact ⟨ob,es,ep,t,k _ _ (.inl rfl) e,c⟩
 | ins C dx fs =>
  obtain ⟨d,z,ne,e,mA,⟨od,es,ep,e2,c⟩,r⟩:=x;exact ⟨ho _ d,z,ne,k _ _ (.inl rfl) e,mA,⟨od,es,ep,k _ _ (.inr d) e2,c⟩,r⟩
 | own y=>obtain ⟨ob,e⟩:=x; exact ⟨ob,k _ _ (.inl rfl) e⟩
 | xd fs=>obtain ⟨mA,⟨od,es,ep,e,c⟩,r⟩:=x; exact ⟨mA,⟨od,es,ep,k _ _ (.inl rfl) e,c⟩,r⟩
 | rng lo hi=>obtain ⟨t,u,v,e⟩:=x; exact ⟨t,u,v,k _ _ (.inl rfl) e⟩
 | frz ob u ih=>obtain ⟨e,q⟩:=x; exact ⟨k _ _ (.inl rfl) e,ih q⟩
 | tbl ps =>
  have e:h.get? a=some { cls:=.none,data:=.fields ps }:=x;show h'.get? a=some { cls:=.none,data:=.fields ps };exact k a _ (.inl rfl) e
 | met f y =>
  have e:h.get? a=some (methodObj (.ref f) (.ref y)):=x;show h'.get? a=some (methodObj (.ref f) (.ref y));exact k a _ (.inl rfl) e
 | ext φ=>obtain ⟨p,⟨o,e⟩,st⟩:=x; exact ⟨st _ _ p λ o q=>k _ _ (.inl rfl) q,⟨o,k _ _ (.inl rfl) e⟩,st⟩
theorem HOk.lt (x:HOk P w H h) (e:H a=some o):a < h.objs.size:=(x a o e).lt
theorem HOk.fresh (x:HOk P w H h) (e:h.objs.size<=a):H a=none:=by
 cases q:H a with
 | none=>rfl
 | some u=>exact absurd (Nat.lt_of_lt_of_le (x.lt q) e) (Nat.lt_irrefl _)
theorem HOk.kept (x:HOk P w H h) (k:∀ b u,h.get? b=some u->h'.get? b=some u):HOk P w H h':=λ a o e =>
 (x a o e).stay (λ b u _ q=>k b u q) (λ _ q=>q) λ _ _ q=>q
theorem HOk.laid (x:HOk P w H h) (k:∀ b u,h.get? b=some u->h'.get? b=some u) (hp:h.objs.size<=a) (new:ObjOk P w (upd H a o) h' a o):HOk P w (upd H a o) h':=λ b u e=>by
 have hn:=x.fresh hp;by_cases hb:b=a
 ·subst hb; rw [ve0] at e; cases e; exact new
 ·rw [vc0 hb] at e;exact (x b u e).stay (λ c v _ q=>k c v q) (λ c q=>by rw [vc0 (tf0 q hn)]; exact q) λ c xs q=>by rw [vc0 (tf0 q hn)]; exact q
end
def Rd (H:Hp) (a:Addr) (u:HO):Prop:=H a=some u \/ ∃ o,H a=some (.frz o u)
theorem Rd.ok {P:Program} {w:World} {H:Hp} {h:Heap} {a:Addr} {u:HO} (r:Rd H a u) (x:HOk P w H h):ObjOk P w H h a u:=by
 rcases r with r | ⟨o,r⟩
 ·exact x a u r
 ·obtain ⟨_,q⟩:=x a _ r;exact q
def Mut:Option HO->Prop
 | some (.lst _)=>True
 | some (.dK _)=>True
 | some (.dT _)=>True
 | some (.set _ _)=>True
 | some (.ins _ _ _)=>True
 | some (.ext _)=>True
 | _=>False
section
variable {P:Program} {w:World} {H:Hp} {h h':Heap} {x e:Addr} {o':HO}
theorem HOk.write (ok:HOk P w H h) (mu:Mut (H x)) (he:e=x \/ H e=some (.own x)) (k:∀ b u,b ≠ e->h.get? b=some u->h'.get? b=some u) (heo:∃ u,h'.get? e=some u)
    (new:ObjOk P w (upd H x o') h' x o'):HOk P w (upd H x o') h':=λ b u q=>by
 have nown:∀ c y,H c=some (.own y)->c ≠ x:=λ c y r z=>by subst z; rw [r] at mu; exact mu
 have ntup:∀ c xs,H c=some (.tup xs)->c ≠ x:=λ c xs r z=>by subst z; rw [r] at mu; exact mu
 by_cases hb:b=x
 ·subst hb; rw [ve0] at q; cases q; exact new
 ·rw [vc0 hb] at q;by_cases hbe:b=e
  ·have q':H b=some (.own x):=by
     rcases he with z | z
     ·exact absurd (hbe.trans z) hb
     ·rw [hbe]; exact z
   rw [q] at q'; cases q';obtain ⟨v,hv⟩:=heo;exact ⟨v,by rw [hbe]; exact hv⟩
  ·refine (ok b u q).stay (λ c v hc r=>k c v ?_ r) (λ c r=>by rw [vc0 (nown c b r)]; exact r) λ c xs r=>by rw [vc0 (ntup c xs r)]; exact r
   rcases hc with rfl | hc
   ·exact hbe
   ·rintro rfl;rcases he with z | z
    ·exact nown c b hc z
    ·rw [hc] at z; cases z; exact hb rfl
end
structure Un (fs ex:List Addr) (H H':Hp) (h h':Heap):Prop where
 keep:∀ b o,h.get? b=some o->H b=none->b ∉ fs->b ∉ ex->h'.get? b=some o
 slot:∀ b o,h.get? b=some o->H b=none->b ∈ fs->b ∉ ex->∃ sl,h'.get? b=some { o with slots:=sl }
 free:∀ b o,h.get? b=some o->H b=none->b ∉ ex->H' b=none
 there:∀ b o,h.get? b=some o->b ∉ ex->∃ o',h'.get? b=some o'
 tups:∀ b xs,H b=some (.tup xs)->H' b=some (.tup xs)
 frzs:∀ b o u,H b=some (.frz o u)->H' b=some (.frz o u)
 tbls:∀ b ps,H b=some (.tbl ps)->∃ more,H' b=some (.tbl (ps ++ more))
section
variable {fs fs' ex ex':List Addr} {H H1 H2:Hp} {h h1 h2 h':Heap} {a x e:Addr} {o:HO}
theorem Un.any (u:Un fs ex H H1 h h1) {b:Addr} {ob:Obj} (q:h.get? b=some ob) (n:H b=none) (hx:b ∉ ex):∃ sl,h1.get? b=some { ob with slots:=sl }:=by
 by_cases hb:b ∈ fs
 ·exact u.slot b ob q n hb hx
 ·exact ⟨ob.slots,u.keep b ob q n hb hx⟩
theorem Un.kept (k:∀ b u,h.get? b=some u->h'.get? b=some u):Un fs ex H H h h' :=
 ⟨λ b ob q _ _ _=>k b ob q,λ b ob q _ _ _=>⟨ob.slots,k b ob q⟩,λ _ _ _ n _=>n,λ b ob q _=>⟨ob,k b ob q⟩,λ _ _ q=>q,λ _ _ _ q=>q,λ _ ps q=>⟨#[],by rw [q]; simp⟩⟩
theorem Un.refl:Un fs ex H H h h:=Un.kept λ _ _ q=>q
theorem Un.laid (k:∀ b u,h.get? b=some u->h'.get? b=some u) (hp:h.objs.size<=a) (hn:H a=none):Un fs ex H (upd H a o) h h' where
 keep:=λ b u q _ _ _=>k b u q
 slot:=λ b u q _ _ _=>⟨u.slots,k b u q⟩
 free:=λ b u q n _=>by rw [vc0 (Nat.ne_of_lt (Nat.lt_of_lt_of_le (Heap.lt_size q) hp))]; exact n
 there:=λ b u q _=>⟨u,k b u q⟩
 tups:=λ b xs q=>by rw [vc0 (tf0 q hn)]; exact q
 frzs:=λ b u xs q=>by rw [vc0 (tf0 q hn)]; exact q
 tbls:=λ b ps q=>⟨#[],by rw [vc0 (tf0 q hn),q]; simp⟩
theorem Un.write (mu:Mut (H x)) (he:e=x \/ H e=some (.own x)) (k:∀ b u,b ≠ e->h.get? b=some u->h'.get? b=some u) (heo:∃ u,h'.get? e=some u):Un fs ex H (upd H x o) h h':=by
 have hx:∀ b,H b=none->b ≠ x:=λ b n z=>by subst z; rw [n] at mu; exact mu
 have hb:∀ b,H b=none->b ≠ e:=λ b n z=>by
  subst z;rcases he with r | r
  ·exact hx b n r
  ·rw [n] at r; cases r
 have hm:∀ b u,H b=some u->¬ Mut (some u)->b ≠ x:=λ b u q nm z=>by subst z; rw [q] at mu; exact nm mu
 refine ⟨λ b u q n _ _=>k b u (hb b n) q,λ b u q n _ _=>⟨u.slots,k b u (hb b n) q⟩,λ b u q n _=>by rw [vc0 (hx b n)]; exact n,λ b u q _=>?_,
  λ b xs q=>by rw [vc0 (hm b _ q λ z=>z)]; exact q,λ b u xs q=>by rw [vc0 (hm b _ q λ z=>z)]; exact q,λ b ps q=>⟨#[],by rw [vc0 (hm b _ q λ z=>z),q]; simp⟩⟩
 by_cases hbe:b=e
 ·subst hbe; exact heo
 ·exact ⟨u,k b u hbe q⟩
end
def trk (h:Heap) (H:Hp):List Addr:=(List.range h.objs.size).filter λ a=>(H a).isSome
def hidT (h:Heap) (H:Hp):Heap:=PySem.W.hideAll h (trk h H)
theorem ze2 (h:Heap) (H:Hp):(hidT h H).objs.size=h.objs.size:=PySem.W.hideAll_size _ _
theorem wq2 {h:Heap} {H:Hp} {b:Addr} {o:Obj} (e:h.get? b=some o) (n:H b=none):(hidT h H).get? b=some o :=
 PySem.W.hideAll_get _ e λ hm=>by
  have q:(H b).isSome=true:=(List.mem_filter.mp hm).2;rw [n] at q; simp at q
theorem xh3 {h:Heap} {H:Hp} {b:Addr} {o:Obj} (e:(hidT h H).get? b=some o):h.get? b=some o /\ H b=none:=by
 have e':h.get? b=some o:=PySem.W.of_hideAll (trk h H) e;refine ⟨e',?_⟩;cases q:H b with
 | none=>rfl
 | some x =>
  have hm:b ∈ trk h H:=List.mem_filter.mpr ⟨List.mem_range.mpr (Heap.lt_size e'),by simp [q]⟩;have z:(hidT h H).get? b=none:=PySem.W.hideAll_none (trk h H) hm;rw [z] at e; cases e
def yl3 (g h:Heap) (L:Addr):List (Addr × Obj):=(List.range h.objs.size).filterMap λ a=>if a=L \/ (g.get? a).isSome=true then none else (h.get? a).map λ o=>(a,o)
def rest (g h:Heap) (L d:Addr):List (Addr × Obj):=(yl3 g h L).filter λ p=>decide (p.1 ≠ d)
structure Mod (K:PySem.W.Frag) (mg:Str->Option Value) (base:Heap):Prop where
 kin:K.In base
 glob:base.Ns mainGlobals mg
 blt:∃ mb,base.Ns builtinsNs mb /\ ∀ x:Str,x ≠ "__name__" -> mb x=bootBuiltins x
 nolimit:base.NoLimit
structure Cx where
 prog:Program
 w:World
 K:PySem.W.Frag
 mg:Str->Option Value
 base:Heap
 A:Around
 N:List Str
 s₀:Shared
 H₀:Hp
 env:Env
 outer:List Env
 stack:List Env
 ex:List Addr
 fn:Str->Bool
 calm:Bool
 pn:List (Addr × Obj)
 xe:Value->Shared->Prop
def frs (l:List Env):List Addr:=l.filterMap (·.frame)
abbrev Cx.fs (X:Cx):List Addr:=frs X.outer
def Vis (sc:Scope) (x:Str):Prop:=sc.names.lookup x=some .local \/ sc.names.lookup x=some .cell \/ sc.names.lookup x=some .free
def Loc (sc:Scope) (x:Str):Prop:=sc.names.lookup x=some .local \/ sc.names.lookup x=some .cell
def Look (env:Env) (h:Heap) (m:Str->Option Value) (x:Str) (u:Value):Prop :=
 (env.kindOf x=some .local /\ m x=some u) \/ ((env.kindOf x=some .cell \/ env.kindOf x=some .free) /\ ∃ c,env.cells.lookup x=some c /\ h.IsCell c (some u))
structure Cx.Ok (X:Cx):Prop where
 mod:Mod X.K X.mg X.base
 kind:X.env.scope.kind=.function
 glob:X.env.globals=mainGlobals
 blt:X.env.builtins=builtinsNs
 above:X.s₀.heap.objs.size<=X.env.locals
 inj:∀ x y c,X.env.cells.lookup x=some c->X.env.cells.lookup y=some c->x=y
 has:∀ x,(X.env.kindOf x=some .cell \/ X.env.kindOf x=some .free)->∃ c,X.env.cells.lookup x=some c
 cab:∀ x c,X.fn x=true->X.env.cells.lookup x=some c->X.s₀.heap.objs.size<=c
 hd:X.calm=true->X.A.handled=none
 frames:X.A.frames=some X.stack
 stk:X.stack=X.outer \/ (X.stack=X.env :: X.outer /\ X.env.frame=some X.env.locals)
 exf:∀ b ∈ X.ex,b ≠ X.env.locals /\ ∀ x c,X.env.cells.lookup x=some c->c ≠ b
 bs:∀ b o,X.base.get? b=some o->X.s₀.heap.get? b=some o /\ X.H₀ b=none
 bsz:X.base.objs.size<=X.s₀.heap.objs.size
 noex:∀ b o,X.base.get? b=some o->b ∉ X.ex
 exfs:∀ b ∈ X.ex,b ∉ X.fs
 funs:X.s₀.heap.FunFrames X.base X.outer
 frf:∀ b ∈ X.fs,X.H₀ b=none
structure Inv (X:Cx) (pins:List (Addr × Obj)) (σ:List (Option V)) (H:Hp) (s:Shared):Prop where
 ok:X.Ok
 os:s.os=X.s₀.os
 bare:AllBare s.gens
 base:Un X.fs X.ex X.H₀ H X.s₀.heap s.heap
 loc:∃ m,s.heap.Ns X.env.locals m /\ ∀ (i:Nat) (x:Str) (v:V),X.N[i]?=some x->σ[i]?=some (some v)->Vis X.env.scope x->∃ u,RelV v u /\ Look X.env s.heap m x u
 cell:∀ x c,X.env.cells.lookup x=some c->∃ v,s.heap.IsCell c v
 free:H X.env.locals=none
 freeC:∀ x c,X.env.cells.lookup x=some c->H c=none
 pin:∀ p ∈ X.pn ++ pins,s.heap.get? p.1=some p.2 /\ H p.1=none /\ p.1 ≠ X.env.locals /\ p.1 ∉ X.fs /\ ∀ v,p.2.data ≠ .cell v
 hok:HOk X.prog X.w H s.heap
 len:σ.length=X.N.length
section
variable {X:Cx} {pins:[5]} {σ:List (Option V)} {H H':Hp} {s:Shared} {h':Heap}
theorem Cx.Ok.nofr (ok:X.Ok) {b:Addr} {o:Obj} (e:X.base.get? b=some o):b ∉ X.fs:=λ hb=>by
 have:=(ok.funs.mem hb).1;rw [e] at this; cases this
theorem Inv.bs (I:[6]):∀ b o,X.base.get? b=some o->s.heap.get? b=some o /\ H b=none:=λ b o e =>
 ⟨I.base.keep b o (I.ok.bs b o e).1 (I.ok.bs b o e).2 (I.ok.nofr e) (I.ok.noex b o e),I.base.free b o (I.ok.bs b o e).1 (I.ok.bs b o e).2 (I.ok.noex b o e)⟩
theorem Inv.bk (I:[6]):∀ b o,X.base.get? b=some o->s.heap.get? b=some o:=λ b o e=>(I.bs b o e).1
theorem Inv.mod (I:[6]):Mod X.K X.mg X.base:=I.ok.mod
theorem Inv.kIn (I:[6]):X.K.In s.heap:=I.ok.mod.kin.keeps I.bk
theorem Inv.lt (I:[6]):X.env.locals < s.heap.objs.size:=let ⟨_,hn,_⟩:=I.loc; hn.lt
theorem Inv.sz (I:[6]):X.s₀.heap.objs.size<=s.heap.objs.size:=Nat.le_trans I.ok.above (Nat.le_of_lt I.lt)
theorem Inv.nofs (I:[6]) {a:Addr} (h:s.heap.objs.size<=a):a ∉ X.fs:=λ hb=>by
 obtain ⟨_,o,ho,_⟩:=I.ok.funs.mem hb;exact absurd (Nat.lt_of_lt_of_le (Heap.lt_size ho) (Nat.le_trans I.sz h)) (Nat.lt_irrefl _)
theorem Inv.cne (I:[6]):∀ x c,X.env.cells.lookup x=some c->c ≠ X.env.locals:=λ x c e z=>by
 obtain ⟨v,o,ho,hd⟩:=I.cell x c e;obtain ⟨m,⟨o',es,ep,ho',hd',_⟩,_⟩:=I.loc;rw [z,ho'] at ho; cases ho; rw [hd'] at hd; cases hd
theorem Inv.funs (I:[6]):s.heap.FunFrames X.base X.outer:=by
 have all:∀ (l:List Env),(∀ b ∈ frs l,b ∈ X.fs)->X.s₀.heap.FunFrames X.base l->s.heap.FunFrames X.base l:=by
  intro l
  induction l with
  | nil=>intro _ _; trivial
  | cons env r ih =>
   intro hs hl;obtain ⟨hk,⟨L,o,hf,hn,ho,hd⟩,hr⟩:=hl;have hL:L ∈ X.fs:=hs L (by unfold frs; rw [filterMap_cons,hf]; exact mem_cons_self);obtain ⟨sl,e⟩:=I.base.slot L o ho (I.ok.frf L hL) hL λ z=>I.ok.exfs L z hL;exact ⟨hk,⟨L,_,hf,hn,e,hd⟩,ih (λ b hb=>hs b (by unfold frs; rw [filterMap_cons,hf]; exact mem_cons_of_mem _ hb)) hr⟩
 exact all X.outer (λ _ hb=>hb) I.ok.funs
theorem Inv.stack (I:[6]):s.heap.FunFrames X.base X.stack:=by
 rcases I.ok.stk with e | ⟨e,hf⟩
 ·rw [e]; exact I.funs
 ·rw [e];obtain ⟨m,hn,_⟩:=I.loc;refine .cons (by rw [I.ok.kind]; decide) hf hn ?_ I.funs;exact Heap.get?_none_of_le (Nat.le_trans I.ok.bsz I.ok.above)
theorem Inv.stkSub (I:[6]):∀ b ∈ frs X.stack,b ∈ X.env.locals :: X.fs:=λ b hb=>by
 rcases I.ok.stk with e | ⟨e,hf⟩
 ·rw [e] at hb; exact mem_cons_of_mem _ hb
 ·rw [e] at hb;unfold frs at hb;rw [filterMap_cons,hf] at hb;exact hb
theorem Inv.stkFree (I:[6]):∀ b ∈ frs X.stack,H b=none:=λ b hb=>by
 rcases List.mem_cons.mp (I.stkSub b hb) with e | hb
 ·rw [e]; exact I.free
 ·obtain ⟨_,o,ho,_⟩:=I.ok.funs.mem hb;exact I.base.free b o ho (I.ok.frf b hb) λ z=>I.ok.exfs b z hb
theorem Inv.step {g':Array GenState} {t':Nat} {d':Drawn} {ch:List Addr} (I:[6])
    (hch:∀ b ∈ ch,(b ∈ X.ex \/ X.s₀.heap.objs.size<=b) /\ b ≠ X.env.locals /\ (∀ x c,X.env.cells.lookup x=some c->c ≠ b) /\ ∀ p ∈ X.pn ++ pins,p.1 ≠ b)
    (keep:∀ b o,b ≠ X.env.locals->b ∉ X.fs->b ∉ ch->s.heap.get? b=some o->H b=none->h'.get? b=some o)
    (slot:∀ b o,b ≠ X.env.locals->b ∈ X.fs->b ∉ ch->s.heap.get? b=some o->H b=none->∃ sl,h'.get? b=some { o with slots:=sl }) (free:∀ b o,b ∉ ch->s.heap.get? b=some o->H b=none->H' b=none)
    (there:∀ b o,b ∉ ch->s.heap.get? b=some o->∃ o',h'.get? b=some o')
    (tups:∀ b xs,H b=some (.tup xs)->H' b=some (.tup xs)) (frzs:∀ b o u,H b=some (.frz o u)->H' b=some (.frz o u)) (tbls:∀ b ps,H b=some (.tbl ps)->∃ more,H' b=some (.tbl (ps ++ more)))
    (ns:∀ m,s.heap.Ns X.env.locals m->h'.Ns X.env.locals m) (hok:HOk X.prog X.w H' h') (hg:AllBare g') :
    Inv X pins σ H' { s with heap:=h',gens:=g',drawn:=d',toks:=t' }:=by
 have neL:∀ b o,X.s₀.heap.get? b=some o->b ≠ X.env.locals:=λ b o e=>Nat.ne_of_lt (Nat.lt_of_lt_of_le (Heap.lt_size e) I.ok.above)
 have neC:∀ b o,X.s₀.heap.get? b=some o->b ∉ X.ex->b ∉ ch:=λ b o e hx hb=>by
  rcases (hch b hb).1 with z | z
  ·exact hx z
  ·exact absurd (Nat.lt_of_lt_of_le (Heap.lt_size e) z) (Nat.lt_irrefl _)
 have cellK:∀ x c,X.env.cells.lookup x=some c->∀ v,s.heap.IsCell c v->h'.IsCell c v:=λ x c e v ⟨o,ho,hd⟩=>by
  have nch:c ∉ ch:=λ z=>(hch c z).2.2.1 x c e rfl;by_cases hc:c ∈ X.fs
  ·obtain ⟨sl,q⟩:=slot c o (I.cne x c e) hc nch ho (I.freeC x c e);exact ⟨_,q,hd⟩
  ·exact ⟨o,keep c o (I.cne x c e) hc nch ho (I.freeC x c e),hd⟩
 refine ⟨I.ok,I.os,hg,⟨λ b o e n hb hx=>?_,λ b o e n hb hx=>?_,λ b o e n hx=>?_,λ b o e hx=>?_,λ b xs e=>tups b xs (I.base.tups b xs e),λ b o xs e=>frzs b o xs (I.base.frzs b o xs e),λ b ps e=>?_⟩,?_,λ x c e=>?_,?_,λ x c e=>?_,λ p hp=>?_,hok,I.len⟩
 ·exact keep b o (neL b o e) hb (neC b o e hx) (I.base.keep b o e n hb hx) (I.base.free b o e n hx)
 ·obtain ⟨sl,e1⟩:=I.base.slot b o e n hb hx;obtain ⟨sl',e2⟩:=slot b _ (neL b o e) hb (neC b o e hx) e1 (I.base.free b o e n hx);exact ⟨sl',e2⟩
 ·obtain ⟨o',e1⟩:=I.base.there b o e hx;exact free b o' (neC b o e hx) e1 (I.base.free b o e n hx)
 ·obtain ⟨o',e1⟩:=I.base.there b o e hx;exact there b o' (neC b o e hx) e1
 ·obtain ⟨m1,e1⟩:=I.base.tbls b ps e;obtain ⟨m2,e2⟩:=tbls b _ e1;exact ⟨m1 ++ m2,by rw [e2,Array.append_assoc]⟩
 ·obtain ⟨m,hn,hl⟩:=I.loc;refine ⟨m,ns m hn,λ i x v e1 e2 e3=>?_⟩;obtain ⟨u,r,l⟩:=hl i x v e1 e2 e3;refine ⟨u,r,?_⟩;rcases l with l | ⟨k,c,e,z⟩
  ·exact .inl l
  ·exact .inr ⟨k,c,e,cellK x c e _ z⟩
 ·obtain ⟨v,z⟩:=I.cell x c e;exact ⟨v,cellK x c e v z⟩
 ·obtain ⟨m,⟨o,_,_,ho,_⟩,_⟩:=I.loc;exact free _ o (λ z=>(hch _ z).2.1 rfl) ho I.free
 ·obtain ⟨v,o,ho,hd⟩:=I.cell x c e;exact free c o (λ z=>(hch c z).2.2.1 x c e rfl) ho (I.freeC x c e)
 ·obtain ⟨e,n,ne,nf,d⟩:=I.pin p hp;have nch:p.1 ∉ ch:=λ z=>(hch p.1 z).2.2.2 p hp rfl;exact ⟨keep p.1 p.2 ne nf nch e n,free p.1 p.2 nch e n,ne,nf,d⟩
theorem Inv.un {t':Nat} (I:[6]) (u:Un X.fs [] H H' s.heap h') (hok:HOk X.prog X.w H' h'):Inv X pins σ H' { s with heap:=h',toks:=t' }:=by
 obtain ⟨m,⟨o,es,ep,ho,r⟩,_⟩:=id I.loc;obtain ⟨sl,hL⟩:=u.any ho I.free [16]
 exact I.step (g':=s.gens) (d':=s.drawn) (ch:=[]) (λ _ z=>nomatch z) (λ b o _ hb _ e n=>u.keep b o e n hb [16]) (λ b o _ hb _ e n=>u.slot b o e n hb [16]) (λ b o _ e n=>u.free b o e n [16]) (λ b o _ e=>u.there b o e [16]) u.tups u.frzs u.tbls (λ m' hm=>by
  obtain ⟨o',es',ep',ho',r'⟩:=hm;rw [ho] at ho'; cases ho';exact ⟨_,es',ep',hL,r'⟩) hok I.bare
theorem Inv.call {g':Array GenState} {t':Nat} {d':Drawn} {ch:List Addr} (I:[6]) (u:Un (frs X.stack) ch H H' s.heap h') (hok:HOk X.prog X.w H' h') (hg:AllBare g')
    (hch:∀ b ∈ ch,(b ∈ X.ex \/ X.s₀.heap.objs.size<=b) /\ b ≠ X.env.locals /\ (∀ x c,X.env.cells.lookup x=some c->c ≠ b) /\ ∀ p ∈ X.pn ++ pins,p.1 ≠ b) :
    Inv X pins σ H' { s with heap:=h',gens:=g',drawn:=d',toks:=t' }:=by
 obtain ⟨m,⟨o,es,ep,ho,r⟩,_⟩:=id I.loc;obtain ⟨sl,hL⟩:=u.any ho I.free λ z=>(hch _ z).2.1 rfl
 exact I.step (ch:=ch) hch (λ b o hL hb hc e n=>u.keep b o e n (λ z=>(List.mem_cons.mp (I.stkSub b z)).elim hL hb) hc) (λ b o _ _ hc e n=>u.any e n hc) (λ b o hc e n=>u.free b o e n hc) (λ b o hc e=>u.there b o e hc) u.tups u.frzs u.tbls (λ m' hm=>by
  obtain ⟨o',es',ep',ho',r'⟩:=hm;rw [ho] at ho'; cases ho';exact ⟨_,es',ep',hL,r'⟩) hok hg
theorem Inv.turned {t':Nat} {it:Addr} (I:[6]) (k:∀ b o,b ≠ it->s.heap.get? b=some o->h'.get? b=some o) (hn:H it=none) (hL:it ≠ X.env.locals)
    (h1:it ∈ X.ex \/ X.s₀.heap.objs.size<=it) (h2:∀ x c,X.env.cells.lookup x=some c->c ≠ it) (h3:∀ p ∈ X.pn ++ pins,p.1 ≠ it):Inv X pins σ H { s with heap:=h',toks:=t' }:=by
 have nit:∀ b u,H b=some u->b ≠ it:=λ b u e z=>by rw [z,hn] at e; cases e
 refine I.step (g':=s.gens) (d':=s.drawn) (ch:=[it]) (λ b hb=>?_) (λ b o _ _ hc e _=>k b o (λ z=>hc (by simp [z])) e) (λ b o _ _ hc e _=>⟨o.slots,k b o (λ z=>hc (by simp [z])) e⟩) (λ _ _ _ _ n=>n)
  (λ b o hc e=>⟨o,k b o (λ z=>hc (by simp [z])) e⟩) (λ _ _ e=>e) (λ _ _ _ e=>e) (λ b ps e=>⟨#[],by rw [e]; simp⟩) (λ m hm=>?_) (λ b u e=>?_) I.bare
 ·have e:b=it:=by simpa using hb
  subst e;exact ⟨h1,hL,h2,h3⟩
 ·obtain ⟨o,es,ep,ho,r⟩:=hm;exact ⟨o,es,ep,k _ o (Ne.symm hL) ho,r⟩
 ·refine (I.hok b u e).stay (λ c v hc q=>k c v ?_ q) (λ _ q=>q) λ _ _ q=>q;rcases hc with z | z
  ·rw [z]; exact nit b u e
  ·exact nit c _ z
theorem Inv.tok (I:[6]) (t:Nat):Inv X pins σ H { s with toks:=t }:=I.un (h':=s.heap) (t':=t) Un.refl I.hok
theorem Inv.kept {t':Nat} (I:[6]) (k:∀ b u,s.heap.get? b=some u->h'.get? b=some u):Inv X pins σ H { s with heap:=h',toks:=t' }:=I.un (Un.kept k) (I.hok.kept k)
theorem Inv.laid {a:Addr} {o:HO} {t':Nat} (I:[6]) (k:∀ b u,s.heap.get? b=some u->h'.get? b=some u) (hp:s.heap.objs.size<=a) (new:ObjOk X.prog X.w (upd H a o) h' a o) :
    Inv X pins σ (upd H a o) { s with heap:=h',toks:=t' }:=I.un (Un.laid k hp (I.hok.fresh hp)) (I.hok.laid k hp new)
theorem Inv.write {x e:Addr} {o:HO} {t':Nat} (I:[6]) (mu:Mut (H x)) (he:e=x \/ H e=some (.own x)) (k:∀ b u,b ≠ e->s.heap.get? b=some u->h'.get? b=some u) (heo:∃ u,h'.get? e=some u)
    (new:ObjOk X.prog X.w (upd H x o) h' x o):Inv X pins σ (upd H x o) { s with heap:=h',toks:=t' }:=I.un (Un.write mu he k heo) (I.hok.write mu he k heo new)
theorem Inv.pins_of {pins':[5]} (I:[6]) (h:∀ p ∈ pins',s.heap.get? p.1=some p.2 /\ H p.1=none /\ p.1 ≠ X.env.locals /\ p.1 ∉ X.fs /\ ∀ v,p.2.data ≠ .cell v):Inv X pins' σ H s :=
 ⟨I.ok,I.os,I.bare,I.base,I.loc,I.cell,I.free,I.freeC,λ p hp=>(List.mem_append.mp hp).elim (λ z=>I.pin p (mem_append_left _ z)) (h p),I.hok,I.len⟩
theorem vm1 {N:List Str} (hN:N.Nodup) {i j:Nat} {x:Str} (a:N[i]?=some x) (b:N[j]?=some x):i=j:=by
 obtain ⟨h1,e1⟩:=List.getElem?_eq_some_iff.mp a;obtain ⟨h2,e2⟩:=List.getElem?_eq_some_iff.mp b;exact (List.getElem_inj hN).mp (e1.trans e2.symm)
theorem xa1 {M:Model} {A:Around} {E:[4]} {i:Nat} {x:Str} {v:V} {u:Value} {Q:Unit->Shared->Prop} (I:[6]) (hN:X.N.Nodup) (hi:X.N[i]?=some x) (hx:Loc X.env.scope x) (r:RelV v u)
    (h:∀ s',Inv X pins (σ.set i (some v)) H s'->(∃ a,Heap.SameBut a s.heap s'.heap /\ (a=X.env.locals \/ X.env.cells.lookup x=some a))->Q () s') (hf:X.fn x=true \/ X.env.scope.names.lookup x=some .local:=by first | exact .inl rfl | exact .inr rfl | assumption):wpAny M A (storeName X.env x u) Q E s:=by
 obtain ⟨m,hn,hl⟩:=id I.loc;have hcls:(X.env.scope.kind == .class || (X.env.scope.kind == .module && X.env.locals != X.env.globals))=false:=by rw [I.ok.kind]; rfl
 have hiσ:i < σ.length:=by rw [I.len]; exact (List.getElem?_eq_some_iff.mp hi).1
 have cne:=I.cne
 have tracked:∀ {a:Addr} {h':Heap},(∃ o,s.heap.get? a=some o /\ H a=none)->Heap.SameBut a s.heap h'->HOk X.prog X.w H h':=λ {a h'} ha hs b ob e=>by
  obtain ⟨_,_,hfree⟩:=ha;refine (I.hok b ob e).stay (λ c w' hc q=>(hs.2 c ?_).trans q) (λ _ q=>q) λ _ _ q=>q;rintro rfl;rcases hc with rfl | hc
  ·rw [hfree] at e; cases e
  ·rw [hfree] at hc; cases hc
 rcases hx with hk | hk
 ·refine wpAny_storeName_local hk hn (λ h' hn' hs=>?_) hcls;obtain ⟨oL,_,_,hoL,_⟩:=id hn;refine h _ ⟨I.ok,I.os,I.bare,⟨λ b o e n hb hx=>?_,λ b o e n hb hx=>?_,I.base.free,λ b o e hx=>?_,I.base.tups,I.base.frzs,I.base.tbls⟩,⟨_,hn',λ j y v' e1 e2 e3=>?_⟩,λ y c e=>?_,I.free,I.freeC,λ p hp=>?_,tracked ⟨oL,hoL,I.free⟩ hs,by simpa using I.len⟩ ⟨_,hs,.inl rfl⟩
  ·exact (hs.2 b (Nat.ne_of_lt (Nat.lt_of_lt_of_le (Heap.lt_size e) I.ok.above))).trans (I.base.keep b o e n hb hx)
  ·obtain ⟨sl,e1⟩:=I.base.slot b o e n hb hx;exact ⟨sl,(hs.2 b (Nat.ne_of_lt (Nat.lt_of_lt_of_le (Heap.lt_size e) I.ok.above))).trans e1⟩
  ·obtain ⟨o',e1⟩:=I.base.there b o e hx;exact ⟨o',(hs.2 b (Nat.ne_of_lt (Nat.lt_of_lt_of_le (Heap.lt_size e) I.ok.above))).trans e1⟩
  ·by_cases hj:j=i
   ·subst hj;rw [hi] at e1; cases e1;rw [List.getElem?_set_self hiσ] at e2;cases e2;exact ⟨u,r,.inl ⟨hk,by simp⟩⟩
   ·rw [List.getElem?_set_ne (Ne.symm hj)] at e2;obtain ⟨u',r',q⟩:=hl j y v' e1 e2 e3;refine ⟨u',r',?_⟩;rcases q with ⟨k,e⟩ | ⟨k,c,e,z⟩
    ·refine .inl ⟨k,?_⟩;have:y ≠ x:=λ e=>hj (vm1 hN e1 (e ▸ hi));simp [this,e]
    ·exact .inr ⟨k,c,e,z.sameBut hs (cne y c e)⟩
  ·obtain ⟨w',z⟩:=I.cell y c e;exact ⟨w',z.sameBut hs (cne y c e)⟩
  ·obtain ⟨e,n,ne,nf,d⟩:=I.pin p hp;exact ⟨(hs.2 p.1 ne).trans e,n,ne,nf,d⟩
 ·have hfn:X.fn x=true:=by
    rcases hf with z | z
    ·exact z
    ·rw [z] at hk; cases hk
  obtain ⟨c,hc⟩:=I.ok.has x (.inl hk);obtain ⟨w',z⟩:=I.cell x c hc;refine wpAny_storeName_cell I.ok.kind hk hc z (λ h' hc' hs=>?_);obtain ⟨oc,hoc,hocd⟩:=id z;refine h [36] ⟨I.ok,I.os,I.bare,⟨λ b o e n hb hx=>?_,λ b o e n hb hx=>?_,I.base.free,λ b o e hx=>?_,I.base.tups,I.base.frzs,I.base.tbls⟩,⟨m,hn.sameBut hs (Ne.symm (cne x c hc)),λ j y v' e1 e2 e3=>?_⟩,λ y c' e=>?_,I.free,I.freeC,λ p hp=>?_,tracked ⟨oc,hoc,I.freeC x c hc⟩ hs,by simpa using I.len⟩ ⟨c,hs,.inr hc⟩
  ·exact (hs.2 b (Nat.ne_of_lt (Nat.lt_of_lt_of_le (Heap.lt_size e) (I.ok.cab x c hfn hc)))).trans (I.base.keep b o e n hb hx)
  ·obtain ⟨sl,e1⟩:=I.base.slot b o e n hb hx;exact ⟨sl,(hs.2 b (Nat.ne_of_lt (Nat.lt_of_lt_of_le (Heap.lt_size e) (I.ok.cab x c hfn hc)))).trans e1⟩
  ·obtain ⟨o',e1⟩:=I.base.there b o e hx;exact ⟨o',(hs.2 b (Nat.ne_of_lt (Nat.lt_of_lt_of_le (Heap.lt_size e) (I.ok.cab x c hfn hc)))).trans e1⟩
  ·by_cases hj:j=i
   ·subst hj;rw [hi] at e1; cases e1;rw [List.getElem?_set_self hiσ] at e2;cases e2;exact ⟨u,r,.inr ⟨.inl hk,c,hc,hc'⟩⟩
   ·rw [List.getElem?_set_ne (Ne.symm hj)] at e2;obtain ⟨u',r',q⟩:=hl j y v' e1 e2 e3;refine ⟨u',r',?_⟩;rcases q with q | ⟨k,c',e,z'⟩
    ·exact .inl q
    ·refine .inr ⟨k,c',e,z'.sameBut hs ?_⟩;rintro rfl;exact hj (vm1 hN e1 (I.ok.inj _ _ _ e hc ▸ hi))
  ·by_cases hcc:c'=c
   ·subst hcc; exact ⟨_,hc'⟩
   ·obtain ⟨w2,z2⟩:=I.cell y c' e;exact ⟨w2,z2.sameBut hs hcc⟩
  ·obtain ⟨e,n,ne,nf,d⟩:=I.pin p hp;refine ⟨(hs.2 p.1 ?_).trans e,n,ne,nf,d⟩;intro q;rw [q,hoc] at e;have q':oc=p.2:=Option.some.inj e;exact d w' (by rw [<- q']; exact hocd)
theorem yk1 {M:Model} {A:Around} {E:[4]} {i:Nat} {x:Str} {v:V} {u:Value} {Q:Unit->Shared->Prop} (I:[6]) (hN:X.N.Nodup) (hi:X.N[i]?=some x) (hx:Loc X.env.scope x) (r:RelV v u)
    (h:∀ s',Inv X pins (σ.set i (some v)) H s'->Q () s') (hf:X.fn x=true \/ X.env.scope.names.lookup x=some .local:=by first | exact .inl rfl | exact .inr rfl | assumption):wpAny M A (storeName X.env x u) Q E s :=
 xa1 I hN hi hx r (λ s' I' _=>h s' I') hf
theorem Inv.call' {s':Shared} {ch:List Addr} (I:[6]) (ho:s'.os=s.os) (u:Un (frs X.stack) ch H H' s.heap s'.heap) (hok:HOk X.prog X.w H' s'.heap) (hg:AllBare s'.gens)
    (hch:∀ b ∈ ch,(b ∈ X.ex \/ X.s₀.heap.objs.size<=b) /\ b ≠ X.env.locals /\ (∀ x c,X.env.cells.lookup x=some c->c ≠ b) /\ ∀ p ∈ X.pn ++ pins,p.1 ≠ b):Inv X pins σ H' s':=by
 obtain ⟨h',g',d',t',o'⟩:=s';have e:o'=s.os:=ho;subst e;exact I.call (g':=g') (t':=t') (d':=d') u hok hg hch
end
abbrev XK:=Value->Option Addr->Hp->Prop
abbrev St:=List (Option V)
abbrev VK:=V->Hp->Prop
abbrev TE:=St->Hp->VK->Prop
abbrev TT:=St->Hp->(Bool->Hp->Prop)->Prop
abbrev TA:=St->Hp->(List V->Hp->Prop)->Prop
structure Ends where
 nx:St->Hp->Prop
 rt:VK
 bk:St->Hp->Prop:=λ _ _=>False
 ct:St->Hp->Prop:=λ _ _=>False
abbrev TS:=Ends->St->Hp->Prop
def EP (X:Cx) (pins:[5]) (σ:St) (Q:VK) (u:Value) (s':Shared):Prop:=∃ v H',Inv X pins σ H' s' /\ RelV v u /\ Q v H'
def TP (X:Cx) (pins:[5]) (σ:St) (Q:Bool->Hp->Prop) (b:Bool) (s':Shared):Prop:=∃ H',Inv X pins σ H' s' /\ Q b H'
def AP (X:Cx) (pins:[5]) (σ:St) (Q:List V->Hp->Prop) (us:[24]) (s':Shared):Prop:=∃ vs H',Inv X pins σ H' s' /\ Vals vs us /\ Q vs H'
def SP (X:Cx) (pins:[5]) (D:Ends) (f:Flow) (s':Shared):Prop :=
 match f with
 | .next=>∃ σ' H',Inv X pins σ' H' s' /\ D.nx σ' H'
 | .brk=>∃ σ' H',Inv X pins σ' H' s' /\ D.bk σ' H'
 | .cont=>∃ σ' H',Inv X pins σ' H' s' /\ D.ct σ' H'
 | .ret u=>∃ v σ' H',Inv X pins σ' H' s' /\ RelV v u /\ D.rt v H'
def PE (X:Cx) (e:Expr) (t:TE):Prop :=
 ∀ (pins:[5]) (s:Shared) (σ:St) (H:Hp) (Q:VK),Inv X pins σ H s->t σ H Q->wpAny [9] X.A (eval e X.env) (EP X pins σ Q) X.xe s
def PT (X:Cx) (e:Expr) (t:TT):Prop :=
 ∀ (pins:[5]) (s:Shared) (σ:St) (H:Hp) (Q:Bool->Hp->Prop),Inv X pins σ H s->t σ H Q->wpAny [9] X.A (isTrue e X.env (eval e X.env)) (TP X pins σ Q) X.xe s
def PW (X:Cx) (e:Expr) (t:TT):Prop :=
 ∀ (whole:Sem Value) (pins:[5]) (s:Shared) (σ:St) (H:Hp) (Q:Bool->Hp->Prop),Inv X pins σ H s->t σ H Q->wpAny [9] X.A (isTrue e X.env whole) (TP X pins σ Q) X.xe s
theorem PW.pt {X:Cx} {e:Expr} {t:TT} (h:PW X e t):PT X e t:=h _
def PA (X:Cx) (es:List Expr) (t:TA):Prop :=
 ∀ (pos:Pos) (pins:[5]) (s:Shared) (σ:St) (H:Hp) (Q:List V->Hp->Prop),Inv X pins σ H s->t σ H Q->wpAny [9] X.A (spliced (backTo pos (starEach es X.env))) (AP X pins σ Q) X.xe s
def PS (X:Cx) (st:Stmt) (t:TS):Prop :=
 ∀ (pins:[5]) (s:Shared) (σ:St) (H:Hp) (D:Ends),Inv X pins σ H s->t D σ H->wpAny [9] X.A (exec st X.env) (SP X pins D) X.xe s
def PSs (X:Cx) (st:List Stmt) (t:TS):Prop :=
 ∀ (pins:[5]) (s:Shared) (σ:St) (H:Hp) (D:Ends),Inv X pins σ H s->t D σ H->wpAny [9] X.A (execs st X.env) (SP X pins D) X.xe s
theorem thn {α:Type} {t:Sem α} {Q Q':α->Shared->Prop} {M:Model} {A:Around} {E:[4]} {s:Shared} (h:wpAny M A t Q E s) (hQ:∀ a s,Q a s->Q' a s):wpAny M A t Q' E s:=wpAny_mono h hQ λ _ _ x=>x
section
variable {X:Cx}
def tVar (i:Nat):TE:=λ σ H Q=>∃ v,σ[i]?=some (some v) /\ Q v H
def tC (v:V):TE:=λ _ H Q=>Q v H
theorem tv2 {i:Nat} {x:Str} {pos:Pos} (hN:X.N[i]?=some x) (hv:Vis X.env.scope x) (hd:(x == ("__debug__" : Str))=false:=by decide) (hcd:(x == ("__classdict__" : Str))=false:=by decide):PE X (.Name x pos) (tVar i):=by
 intro pins s σ H Q I h;obtain ⟨v,e,h⟩:=h;obtain ⟨m,hn,hl⟩:=I.loc;obtain ⟨u,r,l⟩:=hl i x v hN e hv;have fin:EP X pins σ Q u s:=⟨v,H,I,r,h⟩;rcases l with ⟨hk,hm⟩ | ⟨hk,c,hc,hcell⟩
 ·exact wpAny_Name (wpAny_loadName_local I.ok.kind hk hn hm fin) hd
 ·rcases hk with hk | hk
  ·exact wpAny_Name (wpAny_loadName_cell I.ok.kind hk hc hcell fin) hd
  ·exact wpAny_Name (wpAny_loadName_free I.ok.kind hk hc hcell fin hcd) hd
theorem ye4 {i j pos}:PE X (.Constant (.int i) j pos) (tC (.int i)):=λ _ _ _ H _ I h=>wpAny_Constant_int ⟨.int i,H,I.tok _,⟨_,rfl⟩,h⟩
theorem vt4 {b j pos}:PE X (.Constant (.bool b) j pos) (tC (.bl b)):=λ _ _ _ H _ I h=>Constant_bool ⟨.bl b,H,I,rfl,h⟩
theorem td4 {j pos}:PE X (.Constant .none j pos) (tC .non):=λ _ _ _ H _ I h=>Constant_none ⟨.non,H,I,rfl,h⟩
def Gl (X:Cx) (x:Str):Prop:=X.env.kindOf x=some .globalImplicit
theorem zc2 {E:[4]} {pins:[5]} {s:Shared} {σ:St} {H:Hp} {x:Str} {u:Value} {pos:Pos} {Q:[4]} (I:[6]) (hg:Gl X x) (hm:X.mg x=some u) (h:Q u s)
    (hd:(x == ("__debug__" : Str))=false:=by decide):wpAny [9] X.A (eval (.Name x pos) X.env) Q E s :=
 Calls.Name_function_global I.ok.kind hg (Calls.loadGlobal_global (by rw [I.ok.glob]; exact I.mod.glob.keeps I.bk) hm h) hd
theorem yl0 {E:[4]} {pins:[5]} {s:Shared} {σ:St} {H:Hp} {x:Str} {u:Value} {pos:Pos} {Q:[4]} (I:[6]) (hg:Gl X x) (hm:X.mg x=none) (hv:bootBuiltins x=some u) (h:Q u s)
    (hn:x ≠ "__name__" := by decide) (hd:(x == ("__debug__" : Str))=false:=by decide):wpAny [9] X.A (eval (.Name x pos) X.env) Q E s:=by
 obtain ⟨mb,h1,h2⟩:=I.mod.blt;exact Calls.Name_function_global I.ok.kind hg (Calls.loadGlobal_builtin (by rw [I.ok.glob]; exact I.mod.glob.keeps I.bk) hm (by rw [I.ok.blt]; exact h1.keeps I.bk) ((h2 x hn).trans hv) h) hd
theorem vf3 {x:Str} {v:V} {u:Value} {pos:Pos} (hg:Gl X x) (hm:X.mg x=some u) (r:RelV v u) (hd:(x == ("__debug__" : Str))=false:=by decide):PE X (.Name x pos) (tC v) :=
 λ _ _ _ H _ I h=>zc2 I hg hm ⟨v,H,I,r,h⟩ hd
theorem zg3 {x:Str} {v:V} {u:Value} {pos:Pos} (hg:Gl X x) (hm:X.mg x=none) (hv:bootBuiltins x=some u) (r:RelV v u) (hn:x ≠ "__name__" := by decide) (hd:(x == ("__debug__" : Str))=false:=by decide):PE X (.Name x pos) (tC v) :=
 λ _ _ _ H _ I h=>yl0 I hg hm hv ⟨v,H,I,r,h⟩ hn hd
variable {a b:Expr} {ta tb:TE} {pos:Pos}
def tB (t:TE):TT:=λ σ H Q=>t σ H λ x H1=>∃ c,x=.bl c /\ Q c H1
theorem yc4 {e:Expr} {t:TE} (h:PE X e t) (he:∀ whole,isTrue e X.env whole=(do let v <- whole; standAt e.pos; holding [v] (truthy v)):=by intro _; rfl):PT X e (tB t):=by
 intro pins s σ H Q I hw;refine isTrue_plain (thn (h pins s σ H _ I hw) λ v s1 ⟨x,H1,I1,r1,q1⟩=>?_) (he _);obtain ⟨d,rfl,q⟩:=q1;cases r1;exact wpAny_truthy_bool ⟨H1,I1,q⟩
variable {tA tB':TT} {rest:List Expr}
def tAnd (t u:TT):TT:=λ σ H Q=>t σ H λ c H1=>if c=true then u σ H1 Q else Q false H1
def tOr (t u:TT):TT:=λ σ H Q=>t σ H λ c H1=>if c=true then Q true H1 else u σ H1 Q
def tNot (t:TT):TT:=λ σ H Q=>t σ H λ c H1=>Q (!c) H1
theorem vd3 (ha:PT X a tA):PW X (.BoolOp .And [a] pos) tA:=by
 intro wh pins s σ H Q I h;refine isTrue_and (thn (ha pins s σ H Q I h) λ c s1 e=>?_);cases c with
 | true=>exact isTrue_and_nil e
 | false=>exact e
theorem zb4 (ha:PT X a tA):PW X (.BoolOp .Or [a] pos) tA:=by
 intro wh pins s σ H Q I h;refine isTrue_or (thn (ha pins s σ H Q I h) λ c s1 e=>?_);cases c with
 | false=>exact isTrue_or_nil e
 | true=>exact e
theorem wb4 (ha:PT X a tA) (hb:PW X (.BoolOp .And (b :: rest) pos) tB'):PW X (.BoolOp .And (a :: b :: rest) pos) (tAnd tA tB'):=by
 intro wh pins s σ H Q I h;refine isTrue_and (thn (ha pins s σ H _ I h) λ c s1 ⟨H1,I1,q1⟩=>?_);cases c with
 | true=>exact hb wh pins s1 σ H1 Q I1 q1
 | false=>exact ⟨H1,I1,q1⟩
theorem ws4 (ha:PT X a tA) (hb:PW X (.BoolOp .Or (b :: rest) pos) tB'):PW X (.BoolOp .Or (a :: b :: rest) pos) (tOr tA tB'):=by
 intro wh pins s σ H Q I h;refine isTrue_or (thn (ha pins s σ H _ I h) λ c s1 ⟨H1,I1,q1⟩=>?_);cases c with
 | true=>exact ⟨H1,I1,q1⟩
 | false=>exact hb wh pins s1 σ H1 Q I1 q1
theorem zc4 (ha:PT X a tA):PT X (.UnaryOp .Not a pos) (tNot tA):=by
 intro pins s σ H Q I h;exact isTrue_not (ha pins s σ H (λ c H1=>Q (!c) H1) I h)
def zn4 (ta tb:TE):TE:=λ σ H Q=>ta σ H λ x H1=>∃ c,x=.bl c /\ if c=true then tb σ H1 Q else Q (.bl false) H1
def tOrV (ta tb:TE):TE:=λ σ H Q=>ta σ H λ x H1=>∃ c,x=.bl c /\ if c=true then Q (.bl true) H1 else tb σ H1 Q
def vm4 (ta:TE):TE:=λ σ H Q=>ta σ H λ x H1=>∃ c,x=.bl c /\ Q (.bl (!c)) H1
theorem vd4 {op} {t:TE} (h:PE X a t):PE X (.BoolOp op [a] pos) t:=λ pins s σ H Q I hw=>BoolOp_one (h pins s σ H Q I hw)
theorem we4 (ha:PE X a ta) (hb:PE X (.BoolOp .And (b :: rest) pos) tb):PE X (.BoolOp .And (a :: b :: rest) pos) (zn4 ta tb):=by
 intro pins s σ H Q I h;refine BoolOp_and (thn (ha pins s σ H _ I h) λ v s1 ⟨x,H1,I1,r1,q1⟩=>?_);obtain ⟨c,rfl,q1⟩:=q1;cases r1;refine wpAny_truthy_bool ?_;cases c with
 | true=>exact hb pins s1 σ H1 Q I1 q1
 | false=>exact ⟨.bl false,H1,I1,rfl,q1⟩
theorem xt4 (ha:PE X a ta) (hb:PE X (.BoolOp .Or (b :: rest) pos) tb):PE X (.BoolOp .Or (a :: b :: rest) pos) (tOrV ta tb):=by
 intro pins s σ H Q I h;refine BoolOp_or (thn (ha pins s σ H _ I h) λ v s1 ⟨x,H1,I1,r1,q1⟩=>?_);obtain ⟨c,rfl,q1⟩:=q1;cases r1;refine wpAny_truthy_bool ?_;cases c with
 | false=>exact hb pins s1 σ H1 Q I1 q1
 | true=>exact ⟨.bl true,H1,I1,rfl,q1⟩
theorem ud4 (ha:PE X a ta):PE X (.UnaryOp .Not a pos) (vm4 ta):=by
 intro pins s σ H Q I h;refine UnaryOp_ (thn (ha pins s σ H _ I h) λ v s1 ⟨x,H1,I1,r1,q1⟩=>?_);obtain ⟨c,rfl,q1⟩:=q1;cases r1;exact not_of (wpAny_truthy_bool ⟨.bl (!c),H1,I1,rfl,q1⟩)
def tIf (t:TT) (ta tb:TE):TE:=λ σ H Q=>t σ H λ c H1=>if c=true then ta σ H1 Q else tb σ H1 Q
theorem tn2 {c:Expr} (hc:PT X c tA) (ha:PE X a ta) (hb:PE X b tb):PE X (.IfExp c a b pos) (tIf tA ta tb):=by
 intro pins s σ H Q I h;refine wpAny_IfExp (thn (hc pins s σ H _ I h) λ d s1 ⟨H1,I1,q1⟩=>?_);cases d with
 | true=>exact ha pins s1 σ H1 Q I1 q1
 | false=>exact hb pins s1 σ H1 Q I1 q1
end
def SqL (K:PySem.W.Frag) (H:Hp) (a:Addr) (xs:List V):Prop :=
 Rd H a (.lst xs) ∨
  ∃ (o:Obj) (its:Array Value) (n:Nat),K.lookup a=some o /\ o.cls=.type "list" /\ o.dict=none /\ o.data=.seq its n /\ its.size<=sizeLine /\ Vals xs its.toList
def SqT (K:PySem.W.Frag) (H:Hp) (a:Addr) (xs:List V):Prop :=
 Rd H a (.tup xs) ∨
  ∃ (o:Obj) (its:Array Value) (n:Nat),K.lookup a=some o /\ o.cls=.type "tuple" /\ o.data=.seq its n /\ its.size<=sizeLine /\ Vals xs its.toList
def absV:Value->Option V
 | .none=>some .non
 | .bool b=>some (.bl b)
 | .int i _=>some (.int i)
 | .str x _=>some (.str x)
 | .bytes b _=>some (.byt b)
 | .float b _=>some (.flt b)
 | .ref a=>some (.ref a)
 | .type n=>some (.ty n)
 | _=>none
theorem RelV.abs {x:V} {u:Value} (r:RelV x u):absV u=some x:=by
 cases x with
 | non=>cases r; rfl
 | bl _=>cases r; rfl
 | int _=>obtain ⟨t,rfl⟩:=r; rfl
 | str _=>obtain ⟨t,rfl⟩:=r; rfl
 | byt _=>obtain ⟨t,rfl⟩:=r; rfl
 | flt _=>obtain ⟨t,rfl⟩:=r; rfl
 | ref _=>cases r; rfl
 | ty _=>cases r; rfl
theorem RelV.inj {x y:V} {u:Value} (r:RelV x u) (q:RelV y u):x=y:=Option.some.inj (r.abs.symm.trans q.abs)
theorem Vals.inj:∀ {xs ys:List V} {us:[24]},Vals xs us->Vals ys us->xs=ys
 | _,_,_,.nil,.nil=>rfl
 | _,_,_,.cons r t,.cons r' t'=>by rw [r.inj r',Vals.inj t t']
section
variable {X:Cx} {pins:[5]} {σ:St} {H:Hp} {s:Shared} {a:Addr} {xs ys:List V}
theorem SqL.of {K:PySem.W.Frag} (h:H a=some (.lst xs)):SqL K H a xs:=.inl (.inl h)
theorem SqT.of {K:PySem.W.Frag} (h:H a=some (.tup xs)):SqT K H a xs:=.inl (.inl h)
theorem Inv.list (I:[6]) (h:SqL X.K H a xs):∃ its:List Value,Vals xs its /\ PlainL s.heap a its.toArray /\ xs.length<=sizeLine:=by
 rcases h with h | ⟨o,its,n,hk,hc,hd,hs,hz,r⟩
 ·obtain ⟨z,its,n,r,e⟩:=h.ok I.hok;exact ⟨its,r,⟨_,n,e,rfl,rfl,rfl⟩,z⟩
 ·refine ⟨its.toList,r,⟨o,n,I.kIn a o hk,hc,hd,by simpa using hs⟩,?_⟩;have e:=r.length;simp only [length_toList] at e;omega
theorem Inv.tuple (I:[6]) (h:SqT X.K H a xs):∃ its:List Value,Vals xs its /\ IsTup s.heap a its.toArray /\ xs.length<=sizeLine:=by
 rcases h with h | ⟨o,its,n,hk,hc,hs,hz,r⟩
 ·obtain ⟨z,its,r,p⟩:=h.ok I.hok;exact ⟨its,r,p,z⟩
 ·refine ⟨its.toList,r,⟨o,I.kIn a o hk,hc,n,by simpa using hs⟩,?_⟩;have e:=r.length;simp only [length_toList] at e;omega
theorem Inv.list_inj (I:[6]) (h:SqL X.K H a xs) (h':SqL X.K H a ys):xs=ys:=by
 obtain ⟨its,r,⟨o,n,e,_,_,d⟩,_⟩:=I.list h;obtain ⟨its',r',⟨o',n',e',_,_,d'⟩,_⟩:=I.list h';rw [e] at e'; cases e';rw [d] at d';injection d' with d1 _
 have:its=its':=by simpa using congrArg Array.toList d1
 subst this;exact r.inj r'
theorem Inv.tuple_inj (I:[6]) (h:SqT X.K H a xs) (h':SqT X.K H a ys):xs=ys:=by
 obtain ⟨its,r,⟨o,e,_,n,d⟩,_⟩:=I.tuple h;obtain ⟨its',r',⟨o',e',_,n',d'⟩,_⟩:=I.tuple h';rw [e] at e'; cases e';rw [d] at d';injection d' with d1 _
 have:its=its':=by simpa using congrArg Array.toList d1
 subst this;exact r.inj r'
end
abbrev Cx.wish (X:Cx) (E:[4]):Cx:={ X with xe:=E }
abbrev Cx.nox (X:Cx):Cx:=X.wish λ _ _=>False
theorem Cx.Ok.wish {X:Cx} (ok:X.Ok) (E:[4]):(X.wish E).Ok :=
 ⟨ok.mod,ok.kind,ok.glob,ok.blt,ok.above,ok.inj,ok.has,ok.cab,ok.hd,ok.frames,ok.stk,ok.exf,ok.bs,ok.bsz,ok.noex,ok.exfs,ok.funs,ok.frf⟩
theorem Cx.Ok.unwish {X:Cx} {E:[4]} (ok:(X.wish E).Ok):X.Ok :=
 ⟨ok.mod,ok.kind,ok.glob,ok.blt,ok.above,ok.inj,ok.has,ok.cab,ok.hd,ok.frames,ok.stk,ok.exf,ok.bs,ok.bsz,ok.noex,ok.exfs,ok.funs,ok.frf⟩
section
variable {X:Cx} {pins:[5]} {σ:St} {H:Hp} {s:Shared} {E:[4]}
theorem Inv.wish (I:[6]) (E:[4]):Inv (X.wish E) pins σ H s:=⟨I.ok.wish E,I.os,I.bare,I.base,I.loc,I.cell,I.free,I.freeC,I.pin,I.hok,I.len⟩
theorem Inv.unwish (I:Inv (X.wish E) pins σ H s):Inv X pins σ H s:=⟨I.ok.unwish,I.os,I.bare,I.base,I.loc,I.cell,I.free,I.freeC,I.pin,I.hok,I.len⟩
theorem SP.unwish {D:Ends} {f:Flow} {s':Shared} (h:SP (X.wish E) pins D f s'):SP X pins D f s':=by
 cases f with
 | next=>obtain ⟨σ',H',I,q⟩:=h; exact ⟨σ',H',I.unwish,q⟩
 | brk=>obtain ⟨σ',H',I,q⟩:=h; exact ⟨σ',H',I.unwish,q⟩
 | cont=>obtain ⟨σ',H',I,q⟩:=h; exact ⟨σ',H',I.unwish,q⟩
 | ret u=>obtain ⟨v,σ',H',I,r,q⟩:=h; exact ⟨v,σ',H',I.unwish,r,q⟩
theorem PSs.nox {st:List Stmt} {t:TS} (h:PSs X.nox st t):PSs X st t:=λ pins s σ H D I hw =>
 wpAny_mono (h pins s σ H D (I.wish _) hw) (λ _ _ q=>q.unwish) λ _ _ z=>False.elim z
end
section
variable {X:Cx} {st:Stmt} {rest:List Stmt} {t u:TS} {e:Expr} {te:TE} {pos:Pos}
def um4:TS:=λ D σ H=>D.nx σ H
def tSeq (t u:TS):TS:=λ D σ H=>t { D with nx:=u D } σ H
theorem ye3:PSs X [] um4:=λ _ _ σ H _ I h=>wpAny_execs_nil ⟨σ,H,I,h⟩
theorem sm2 (h1:PS X st t) (h2:PSs X rest u):PSs X (st :: rest) (tSeq t u):=by
 intro pins s σ H D I h;refine wpAny_execs_cons (thn (h1 pins s σ H { D with nx:=u D } I h) λ f s1 q=>?_);cases f with
 | next =>
  obtain ⟨σ',H',I',q⟩:=q;exact h2 pins s1 σ' H' D I' q
 | ret v=>exact q
 | brk=>exact q
 | cont=>exact q
theorem xe3 (h1:PS X st t):PSs X [st] t:=by
 intro pins s σ H D I h;refine wpAny_execs_cons (thn (h1 pins s σ H D I h) λ f s1 q=>?_);cases f with
 | next=>exact wpAny_execs_nil q
 | ret v=>exact q
 | brk=>exact q
 | cont=>exact q
theorem Inv.quiet {pins:[5]} {σ:St} {H:Hp} {s:Shared} (I:[6]):interactive X.env=false:=by simp [interactive,I.ok.kind]
def tm4 (te:TE):TS:=λ D σ H=>te σ H λ _ H1=>D.nx σ H1
theorem we3 (he:PE X e te) (hs:swapsWith e none pos.line X.env=pure false:=by rfl):PS X (.Expr e pos) (tm4 te):=by
 intro pins s σ H D I h;exact wpAny_Expr_any (thn (he pins s σ H _ I h) λ v s1 ⟨x,H1,I1,r1,q1⟩=>⟨σ,H1,I1,q1⟩) I.quiet hs
def tRet (te:TE):TS:=λ D σ H=>te σ H D.rt
theorem wc4 (he:PE X e te):PS X (.Return (some e) pos) (tRet te):=by
 intro pins s σ H D I h;exact wpAny_Return_some (thn (he pins s σ H _ I h) λ v s1 ⟨x,H1,I1,r1,q1⟩=>⟨x,σ,H1,I1,r1,q1⟩)
def tIfS (c:TT) (t u:TS):TS:=λ D σ H=>c σ H λ b H1=>if b=true then t D σ H1 else u D σ H1
theorem ts4 {c:Expr} {a b:List Stmt} {tc:TT} (hc:PT X c tc) (ha:PSs X a t) (hb:PSs X b u):PS X (.If c a b pos) (tIfS tc t u):=by
 intro pins s σ H D I h;refine wpAny_If (thn (hc pins s σ H _ I h) λ d s1 ⟨H1,I1,q1⟩=>?_);cases d with
 | true=>exact ha pins s1 σ H1 D I1 q1
 | false=>exact hb pins s1 σ H1 D I1 q1
def zr3:TS:=λ _ _ _=>False
theorem yn2:PS X st zr3:=λ _ _ _ _ _ _ h=>h.elim
end
abbrev TG:=V->St->Hp->(St->Hp->Prop)->Prop
abbrev TGs:=List V->St->Hp->(St->Hp->Prop)->Prop
def PG (X:Cx) (target:Expr) (t:TG):Prop :=
 ∀ (pins:[5]) (s:Shared) (σ:St) (H:Hp) (v:V) (u:Value) (Q:St->Hp->Prop),Inv X pins σ H s->RelV v u->t v σ H Q ->
  wpAny [9] X.A (assign target X.env u) (λ _ s'=>∃ σ' H',Inv X pins σ' H' s' /\ Q σ' H') X.xe s
def PGs (X:Cx) (ts:List Expr) (t:TGs):Prop :=
 ∀ (pins:[5]) (s:Shared) (σ:St) (H:Hp) (vs:List V) (us:[24]) (Q:St->Hp->Prop),Inv X pins σ H s->Vals vs us->t vs σ H Q ->
  wpAny [9] X.A (assignInOrder ((assignEach ts X.env).map (·.2)) us) (λ _ s'=>∃ σ' H',Inv X pins σ' H' s' /\ Q σ' H') X.xe s
abbrev TSet:=V->V->V->Hp->(Hp->Prop)->Prop
def PSet (X:Cx) (t:TSet):Prop :=
 ∀ (pins:[5]) (s:Shared) (σ:St) (H:Hp) (o i v:V) (ov iv u:Value) (Q:Hp->Prop),Inv X pins σ H s->RelV o ov->RelV i iv->RelV v u->t o i v H Q ->
  wpAny [9] X.A (setItem ov iv u) (λ _ s'=>∃ H',Inv X pins σ H' s' /\ Q H') X.xe s
section
variable {X:Cx} {pos:Pos}
def yj3 (i:Nat):TG:=λ v σ H Q=>Q (σ.set i (some v)) H
theorem zf3 {i:Nat} {x:Str} (hN:X.N.Nodup) (hi:X.N[i]?=some x) (hx:Loc X.env.scope x) (hf:X.fn x=true \/ X.env.scope.names.lookup x=some .local:=by first | exact .inl rfl | exact .inr rfl | assumption):PG X (.Name x pos) (yj3 i):=by
 intro pins s σ H v u Q I r h;exact wpAny_assign_Name (yk1 I hN hi hx r (λ s' I'=>⟨_,H,I',h⟩) hf)
def gNil:TGs:=λ vs σ H Q=>vs=[] /\ Q σ H
def wv4 (t:TG) (u:TGs):TGs:=λ vs σ H Q=>∃ v r,vs=v :: r /\ t v σ H λ σ' H'=>u r σ' H' Q
theorem yf3:PGs X [] gNil:=by
 intro pins s σ H vs us Q I r h;obtain ⟨e,h⟩:=h;subst e;cases r;exact assignInOrder_nil ⟨σ,H,I,h⟩
theorem wn2 {e:Expr} {es:List Expr} {t:TG} {u:TGs} (h1:PG X e t) (h2:PGs X es u)
    (hs:(assignEach (e :: es) X.env).map (·.2)=assign e X.env :: (assignEach es X.env).map (·.2):=by rfl):PGs X (e :: es) (wv4 t u):=by
 intro pins s σ H vs us Q I r h;obtain ⟨v,vr,e1,h⟩:=h;subst e1;cases r with
 | cons r rr =>
  rw [hs];refine assignInOrder_cons (thn (h1 pins s σ H _ _ _ I r h) λ _ s1 ⟨σ1,H1,I1,q1⟩=>?_);exact h2 pins s1 σ1 H1 _ _ Q I1 rr q1
def gTup (K:PySem.W.Frag) (n:Nat) (t:TGs):TG:=λ v σ H Q=>∃ a xs,v=.ref a /\ SqT K H a xs /\ xs.length=n /\ t xs σ H Q
theorem yd4 {es:List Expr} {k:Nat} {t:TGs} {n:Nat} (hc:X.calm=true) (h:PGs X es t)
    (hn:(assignEach es X.env).length=n:=by rfl) (hst:(assignEach es X.env).findIdx? (·.1)=none:=by rfl):PG X (.Tuple es k pos) (gTup X.K n t):=by
 intro pins s σ H v u Q I r hw;obtain ⟨a,xs,e1,hq,hl,hw⟩:=hw;subst e1;cases r;obtain ⟨its,rv,ht,hz⟩:=I.tuple hq;refine assign_Tuple_tuple (I.ok.hd hc) ht (by simp [hn,<- hl,rv.length]) hst λ h' hx=>?_;have I1:Inv X pins σ H [36]:=I.kept (t':=s.toks) λ b o e=>hx b o (Nat.ne_of_lt (Heap.lt_size e)) e;exact h pins _ σ H xs _ Q I1 (by simpa using rv) hw
def gSub (to ti:TE) (t:TSet):TG:=λ v σ H Q=>to σ H λ o H1=>ti σ H1 λ i H2=>t o i v H2 λ H3=>Q σ H3
theorem zd4 {o i:Expr} {to ti:TE} {t:TSet} (ho:PE X o to) (hi:PE X i ti) (hs:PSet X t)
    (ha:∀ v,assign (.Subscript o i pos) X.env v=(do
     let ov <- holding [v] (eval o X.env)
     let iv <- holding [v,ov] (eval i X.env)
     standAt pos
     holding [v,ov,iv] (setItem ov iv v)
     release [v,ov,iv] []):=by intro _; rfl):PG X (.Subscript o i pos) (gSub to ti t):=by
 intro pins s σ H v u Q I r h;rw [ha];refine wpAny_bind (wpAny_holding (thn (ho pins s σ H _ I h) λ ov s1 ⟨x,H1,I1,r1,q1⟩=>?_));refine wpAny_bind (wpAny_holding (thn (hi pins s1 σ H1 _ I1 q1) λ iv s2 ⟨y,H2,I2,r2,q2⟩=>?_));refine wpAny_bind (wpAny_standAt (wpAny_bind (wpAny_holding (thn (hs pins s2 σ H2 x y v ov iv u _ I2 r1 r2 r q2) λ _ s3 ⟨H3,I3,q3⟩=>?_))));exact wpAny_release ⟨σ,H3,I3,q3⟩
def tAsg (te:TE) (g:TG):TS:=λ D σ H=>te σ H λ x H1=>g x σ H1 D.nx
theorem uc4 {tg e:Expr} {te:TE} {g:TG} (he:PE X e te) (hg:PG X tg g) (hs:swapsWithSole [tg] e pos.line X.env=pure false:=by rfl) (hw:swappedStores [tg] e X.env=pure none:=by rfl)
    (h1:(assignEach [tg] X.env).map (·.2)=[assign tg X.env]:=by rfl):PS X (.Assign [tg] e pos) (tAsg te g):=by
 intro pins s σ H D I h;refine wpAny_Assign_stores (thn (he pins s σ H _ I h) λ v s1 ⟨x,H1,I1,r1,q1⟩=>?_) hs hw;rw [h1];exact thn (hg pins s1 σ H1 x v _ I1 r1 q1) λ _ s2 q=>q
theorem xz1 {i:Nat} {x:Str} {e:Expr} {te:TE} {pos':Pos} (hN:X.N.Nodup) (hi:X.N[i]?=some x) (hx:Loc X.env.scope x) (he:PE X e te) (hs:swapsWith e (some (.Name x pos')) pos.line X.env=pure false:=by rfl) (hf:X.fn x=true \/ X.env.scope.names.lookup x=some .local:=by first | exact .inl rfl | exact .inr rfl | assumption) :
    PS X (.Assign [.Name x pos'] e pos) (tAsg te (yj3 i)):=by
 intro pins s σ H D I h;refine wpAny_Assign_Name (thn (he pins s σ H _ I h) λ v s1 ⟨y,H1,I1,r1,q1⟩=>?_) hs;exact yk1 I1 hN hi hx r1 (λ s2 I2=>⟨_,H1,I2,q1⟩) hf
end
section
variable {X:Cx} {pos:Pos}
def xr3 (c:TT) (tb:TS):TS:=λ D σ H=>∃ W:Nat->St->Hp->Prop,(∃ m,W m σ H) /\ ∀ m σ H,W m σ H ->
 c σ H λ b H1=>if b=true then ∃ N:St->Hp->Prop,(∀ σ' H',N σ' H'->∃ m',m' < m /\ W m' σ' H') /\ tb { D with nx:=N,ct:=N,bk:=D.nx } σ H1 else D.nx σ H1
theorem xn2 {c:Expr} {body:List Stmt} {tc:TT} {tb:TS} (hp:PassesOwn [9] X.A X.env X.xe) (hc:PT X c tc) (hb:PSs X body tb):PS X (.While c body [] pos) (xr3 tc tb):=by
 intro pins s σ H D I h;obtain ⟨W,⟨m0,w0⟩,turn⟩:=h;refine wpAny_While (codeAny_whileLoop (λ n s'=>∃ σ' H',Inv X pins σ' H' s' /\ W n σ' H') ?_ m0 ⟨σ,H,I,w0⟩);rintro n s1 ⟨σ1,H1,I1,w1⟩;refine wpAny_passesOwn hp (thn (hc pins s1 σ1 H1 _ I1 (turn n σ1 H1 w1)) λ b s2 ⟨H2,I2,q2⟩=>?_);cases b with
 | true =>
  obtain ⟨N,hN,q2⟩:=q2;rw [if_pos rfl];refine wpAny_passesOwn hp (thn (hb pins s2 σ1 H2 _ I2 q2) λ f s3 q3=>?_);cases f with
  | next =>
   obtain ⟨σ3,H3,I3,n3⟩:=q3;obtain ⟨m',hm,w3⟩:=hN σ3 H3 n3;exact ⟨m',hm,σ3,H3,I3,w3⟩
  | cont =>
   obtain ⟨σ3,H3,I3,n3⟩:=q3;obtain ⟨m',hm,w3⟩:=hN σ3 H3 n3;exact ⟨m',hm,σ3,H3,I3,w3⟩
  | brk=>exact q3
  | ret v=>exact q3
 | false =>
  rw [if_neg Bool.false_ne_true];exact wpAny_execs_nil ⟨σ1,H2,I2,q2⟩
end
structure It where
 go:Nat->Hp->Prop
 yld:Nat->Hp->V->Hp->Prop
 stop:Nat->Hp->Prop
def FpOk (X:Cx) (pins:[5]) (H:Hp) (b:Addr):Prop :=
 H b=none /\ b ≠ X.env.locals /\ b ∉ X.fs /\ (b ∈ X.ex \/ X.s₀.heap.objs.size<=b) /\ (∀ x c,X.env.cells.lookup x=some c->c ≠ b) /\ ∀ p ∈ X.pn ++ pins,p.1 ≠ b
theorem Inv.fpOk {X:Cx} {pins:[5]} {σ:St} {H H':Hp} {s:Shared} {b:Addr} (I:[6]) (hb:s.heap.objs.size<=b) (hn:H' b=none):FpOk X pins H' b:=by
 refine ⟨hn,Nat.ne_of_gt (Nat.lt_of_lt_of_le I.lt hb),I.nofs hb,.inr (Nat.le_trans I.sz hb),λ x c e z=>?_,λ p hp z=>?_⟩
 ·obtain ⟨v,q⟩:=I.cell x c e;exact absurd (Nat.lt_of_lt_of_le q.lt (by rw [z]; exact hb)) (Nat.lt_irrefl _)
 ·exact absurd (Nat.lt_of_lt_of_le (Heap.lt_size (I.pin p hp).1) (by rw [z]; exact hb)) (Nat.lt_irrefl _)
structure Turn (P:Program) (w:World) (K:PySem.W.Frag) (tg:Expr) (J:It) (fp:List Addr) (it:Addr) (tn:Nat->Heap->Prop):Prop where
 mem:it ∈ fp
 obj:∀ i h,tn i h->∀ b ∈ fp,∃ o,h.get? b=some o /\ ∀ v,o.data ≠ .cell v
 keep:∀ i h h',tn i h->(∀ b ∈ fp,∀ o,h.get? b=some o->h'.get? b=some o)->tn i h'
 item:∀ (X:Cx),X.prog=P->X.w=w->X.K=K->X.calm=true->∀ (i:Nat) (pins:List (Addr × Obj)) (s:Shared) (σ:St) (H:Hp) (E:Value->Shared->Prop),Inv X pins σ H s->(∀ b ∈ fp,FpOk X pins H b)->tn i s.heap->J.go i H ->
  wpAny (model P w) X.A (pyNext (.ref it)) (λ r s1=>∃ u,r=some u ∧
   wpAny (model P w) X.A (letOwnedTupleGo tg (.ref it) u) (λ _ s2=>∃ x H',Inv X pins σ H' s2 /\ RelV x u /\ J.yld i H x H' /\ tn (i + 1) s2.heap /\ ∀ b ∈ fp,H' b=none) E s1) E s
 done:∀ (X:Cx),X.prog=P->X.w=w->X.K=K->X.calm=true->∀ (i:Nat) (pins:List (Addr × Obj)) (s:Shared) (σ:St) (H:Hp) (E:Value->Shared->Prop),Inv X pins σ H s->(∀ b ∈ fp,FpOk X pins H b)->tn i s.heap->J.stop i H ->
  wpAny (model P w) X.A (pyNext (.ref it)) (λ r s1=>r=none /\ Inv X pins σ H s1) E s
 self:∀ (A:Around) (i:Nat) (s:Shared) (Q:Value->Shared->Prop) (E:Value->Shared->Prop),tn i s.heap->Q (.ref it) s->wpAny (model P w) A (pyIter (.ref it)) Q E s
abbrev TI:=St->Hp->(It->Hp->Prop)->Prop
def PIE (X:Cx) (pins:[5]) (σ:St) (tg:Expr) (R:It->Hp->Prop) (itv:Value) (s2:Shared):Prop :=
 ∃ (it:Addr) (fp:List Addr) (tn:Nat->Heap->Prop) (J:It) (H':Hp),itv=.ref it /\ Inv X pins σ H' s2 /\ Turn X.prog X.w X.K tg J fp it tn /\ tn 0 s2.heap /\ (∀ b ∈ fp,FpOk X pins H' b) /\ R J H'
def PI (X:Cx) (tg iter:Expr) (wi:TI):Prop :=
 ∀ (pins:[5]) (s:Shared) (σ:St) (H:Hp) (R:It->Hp->Prop),Inv X pins σ H s->wi σ H R ->
  wpAny [9] X.A (eval iter X.env) (λ v s1=>wpAny [9] X.A (pyIter v) (PIE X pins σ tg R) X.xe s1) X.xe s
theorem sg1 {M:Model} {A:Around} {E:[4]} {s:Shared} {tg:Expr} {it:Addr} {u:Value} {o:Obj} {n:String} {vs:Array Value} {Q:Unit->Shared->Prop} (ho:s.heap.get? it=some o) (hc:o.cls=.type n) (hd:o.data=.fields vs)
    (hn:["enumerate", "zip", "dict_itemiterator", "dict_reverseitemiterator", "odict_iterator", "itertools.zip_longest", "itertools.pairwise"].contains n=false) (hQ:Q () s):wpAny M A (letOwnedTupleGo tg (.ref it) u) Q E s:=by
 unfold letOwnedTupleGo
 cases tg <;> first
  | exact wpAny_pure hQ
  | (cases u <;> first
      | exact wpAny_pure hQ
      | (refine wpAny_bind (wpAny_load ho ?_)
         rw [hc,hd];show wpAny M A (if (["enumerate", "zip", "dict_itemiterator", "dict_reverseitemiterator", "odict_iterator", "itertools.zip_longest", "itertools.pairwise"].contains n && vs[0]? == some (rawInt _))=true then _ else _) Q E s;rw [if_neg (by intro h; rw [hn,Bool.false_and] at h; cases h)];exact wpAny_pure hQ))
def Itl (K:PySem.W.Frag) (a:Addr):It :=
 ⟨λ i H=>∃ xs x,SqL K H a xs /\ xs[i]?=some x,λ i H x H'=>H'=H /\ ∀ xs,SqL K H a xs->xs[i]?=some x,λ i H=>∃ xs,SqL K H a xs /\ xs.length<=i⟩
def Itt (K:PySem.W.Frag) (a:Addr):It :=
 ⟨λ i H=>∃ xs x,SqT K H a xs /\ xs[i]?=some x,λ i H x H'=>H'=H /\ ∀ xs,SqT K H a xs->xs[i]?=some x,λ i H=>∃ xs,SqT K H a xs /\ xs.length<=i⟩
def Itr (lo:Int) (n:Nat):It:=⟨λ i _=>i < n,λ i H x H'=>H'=H /\ x=.int (lo + i),λ i _=>n<=i⟩
theorem yu1 {P:Program} {w:World} {K:PySem.W.Frag} {tg:Expr} (a it:Addr):Turn P w K tg (Itl K a) [it] it (λ i h=>h.IsListIter it a i) where
 mem:=by simp
 obj:=λ i h st b hb=>by
  have e:b=it:=by simpa using hb
  subst e;obtain ⟨o,e,c,d⟩:=st;exact ⟨o,e,λ v z=>by rw [d] at z; cases z⟩
 keep:=λ i h h' st k=>st.at λ o e=>k it [16] o e
 item:=by
  intro X hP hw hK hc i pins s σ H E I hf st hg;subst hP hw hK;obtain ⟨xs,x,hq,hx⟩:=hg;obtain ⟨its,rv,p,hz⟩:=I.list hq;obtain ⟨u,hu,ru⟩:=rv.get hx;obtain ⟨f0,f1,f2,f3,f4,f5⟩:=hf it [16];refine wpAny_pyNext_list_item st p.isList (x:=u) (by simpa using hu) λ h' st' sb=>?_;have I1:Inv X pins σ H [36]:=I.turned (t':=s.toks) (λ b o hb e=>(sb.2 b hb).trans e) f0 f1 f3 f4 f5;obtain ⟨o,e,c,d⟩:=id st';exact ⟨u,rfl,sg1 (s:=[36]) e c d [7] ⟨x,H,I1,ru,⟨rfl,λ ys hy=>by rw [I.list_inj hy hq]; exact hx⟩,st',λ b hb=>(hf b hb).1⟩⟩
 done:=by
  intro X hP hw hK hc i pins s σ H E I hf st hg;subst hP hw hK;obtain ⟨xs,hq,hx⟩:=hg;obtain ⟨its,rv,p,hz⟩:=I.list hq;obtain ⟨f0,f1,f2,f3,f4,f5⟩:=hf it [16];have hl:=rv.length;exact wpAny_pyNext_list_end (I.ok.hd hc) st p.isList (by simp; omega) λ h' eb=>⟨rfl,I.turned (t':=s.toks) (λ b o hb e=>eb b o hb e) f0 f1 f3 f4 f5⟩
 self:=λ _ _ _ _ _ st h=>wpAny_pyIter_listiter st h
theorem to1 {P:Program} {w:World} {K:PySem.W.Frag} {tg:Expr} (a it:Addr):Turn P w K tg (Itt K a) [it] it (λ i h=>h.IsTupleIter it a i) where
 mem:=by simp
 obj:=λ i h st b hb=>by
  have e:b=it:=by simpa using hb
  subst e;obtain ⟨o,e,c,d⟩:=st;exact ⟨o,e,λ v z=>by rw [d] at z; cases z⟩
 keep:=λ i h h' st k=>st.at λ o e=>k it [16] o e
 item:=by
  intro X hP hw hK hc i pins s σ H E I hf st hg;subst hP hw hK;obtain ⟨xs,x,hq,hx⟩:=hg;obtain ⟨its,rv,p,hz⟩:=I.tuple hq;obtain ⟨u,hu,ru⟩:=rv.get hx;obtain ⟨f0,f1,f2,f3,f4,f5⟩:=hf it [16];refine wpAny_pyNext_tuple_item st (show s.heap.IsTuple a its.toArray from p) (x:=u) (by simpa using hu) λ h' st' sb=>?_;have I1:Inv X pins σ H [36]:=I.turned (t':=s.toks) (λ b o hb e=>(sb.2 b hb).trans e) f0 f1 f3 f4 f5;obtain ⟨o,e,c,d⟩:=id st';exact ⟨u,rfl,sg1 (s:=[36]) e c d [7] ⟨x,H,I1,ru,⟨rfl,λ ys hy=>by rw [I.tuple_inj hy hq]; exact hx⟩,st',λ b hb=>(hf b hb).1⟩⟩
 done:=by
  intro X hP hw hK hc i pins s σ H E I hf st hg;subst hP hw hK;obtain ⟨xs,hq,hx⟩:=hg;obtain ⟨its,rv,p,hz⟩:=I.tuple hq;obtain ⟨f0,f1,f2,f3,f4,f5⟩:=hf it [16];have hl:=rv.length;exact wpAny_pyNext_tuple_end (I.ok.hd hc) st (show s.heap.IsTuple a its.toArray from p) (by simp; omega) λ h' eb=>⟨rfl,I.turned (t':=s.toks) (λ b o hb e=>eb b o hb e) f0 f1 f3 f4 f5⟩
 self:=λ _ _ _ _ _ st h=>wpAny_pyIter_tupleiter st h
theorem so1 {P:Program} {w:World} {K:PySem.W.Frag} {tg:Expr} (it:Addr) (lo:Int) (n:Nat):Turn P w K tg (Itr lo n) [it] it (λ i h=>IsRangeIter h it (lo + (i:Nat) * 1) ((n:Int) - (i:Nat)) 1) where
 mem:=by simp
 obj:=λ i h st b hb=>by
  have e:b=it:=by simpa using hb
  subst e
  exact ⟨_,st,λ v z=>by
   have z':Data.fields _=Data.cell v:=z;cases z'⟩
 keep:=λ i h h' st k=>k it [16] _ st
 item:=by
  intro X hP hw hK hc i pins s σ H E I hf st hg;subst hP hw hK;obtain ⟨f0,f1,f2,f3,f4,f5⟩:=hf it [16];have W:=Walks.range (prog:=X.prog) (w:=X.w) (I.ok.hd hc) it lo 1 n;refine W.item i s _ _ hg st λ v h' tk hv st' kk=>?_;obtain ⟨t,rfl⟩:=hv;have I1:Inv X pins σ H { s with heap:=h',toks:=tk }:=I.turned (λ b o hb e=>kk b o (by simpa using hb) e) f0 f1 f3 f4 f5;refine ⟨_,rfl,sg1 (s:={ s with heap:=h',toks:=tk }) (n := "range_iterator") st' rfl rfl [7] ⟨.int (lo + i),H,I1,⟨t,?_⟩,⟨rfl,rfl⟩,st',λ b hb=>(hf b hb).1⟩⟩;rw [Int.mul_one]
 done:=by
  intro X hP hw hK hc i pins s σ H E I hf st hg;subst hP hw hK;obtain ⟨f0,f1,f2,f3,f4,f5⟩:=hf it [16];exact wpAny_pyNext_range_end (I.ok.hd hc) st (by have:n<=i:=hg; omega) λ h' eb=>⟨rfl,I.turned (t':=s.toks) (λ b o hb e=>eb b o hb e) f0 f1 f3 f4 f5⟩
 self:=λ _ _ _ _ _ st h=>wpAny_pyIter_rangeiter st h
section
variable {X:Cx} {tg:Expr}
theorem tl1 {pins:[5]} {σ:St} {H:Hp} {s:Shared} {R:It->Hp->Prop} {E:[4]} {lo hi:Int} {t u v:Tok} {tk:Nat} (I:[6]) (h1 : -(2 ^ 62)<=lo) (h2:lo < 2 ^ 62) (h3 : -(2 ^ 62)<=hi) (h4:hi < 2 ^ 62)
    (q:R (Itr lo (hi - lo).toNat) H):wpAny [9] X.A (pyIter (.ref s.heap.objs.size)) (PIE X pins σ tg R) E { s with heap:=s.heap.push [37],toks:=tk }:=by
 refine wpAny_pyIter_range (IsRange.new ..) (small_one h1 h2 h3 h4) ?_;have I1:Inv X pins σ H { s with heap:=s.heap.push [37],toks:=tk }:=I.kept λ b o e=>Heap.get?_push_of_some _ e
 refine ⟨(s.heap.push [37]).objs.size,[(s.heap.push [37]).objs.size],_,_,H,rfl,
  I1.kept (t':=tk) λ b o e=>Heap.get?_push_of_some _ e,so1 _ lo (hi - lo).toNat,?_,λ b hb=>?_,q⟩
 ·have e1:lo + ((0:Nat):Int) * 1=lo:=by simp
  have e2:(((hi - lo).toNat:Nat):Int) - ((0:Nat):Int)=Builtin.Range.rangeSize lo hi 1:=by rw [rangeSize_one]; split <;> omega
  show IsRangeIter _ _ (lo + ((0:Nat):Int) * 1) ((((hi - lo).toNat:Nat):Int) - ((0:Nat):Int)) 1;rw [e1,e2];exact Heap.get?_push_size _ rfl
 ·have e:b=(s.heap.push [37]).objs.size:=by simpa using hb
  subst e;exact I1.fpOk [14] (I1.hok.fresh [14])
def yv4 (ta:TA):TI:=λ σ H R=>ta σ H λ vs H1=>∃ j:Int,vs=[.int j] /\ -(2 ^ 62)<=j /\ j < 2 ^ 62 /\ R (Itr 0 j.toNat) H1
def xv4 (ta:TA):TI:=λ σ H R=>ta σ H λ vs H1=>∃ i j:Int,vs=[.int i,.int j] /\ (-(2 ^ 62)<=i /\ i < 2 ^ 62 /\ -(2 ^ 62)<=j /\ j < 2 ^ 62) /\ R (Itr i (j - i).toNat) H1
theorem xa2 {a:Expr} {ta:TA} {p pos:Pos} (hg:Gl X "range") (hm:X.mg "range" = none) (ha:PA X [a] ta) (hs:starEach [a] X.env=[(false,eval a X.env)]:=by rfl):PI X tg (.Call (.Name "range" p) [a] [] pos) (yv4 ta):=by
 intro pins s σ H R I h;refine Call_ (yl0 I hg hm boot_range (PyProof.Rows.callWith_type1 (thn (ha pos pins s σ H _ I h) λ us s1 ⟨vs,H1,I1,r1,q1⟩=>?_) hs rfl));obtain ⟨j,e,q1,q2,q⟩:=q1;subst e;cases r1 with
 | cons r rr =>
  cases rr;obtain ⟨t,rfl⟩:=r;exact call_range_1 (tl1 I1 [2] [2] q1 q2 (by simpa using q))
theorem sz1 {a b:Expr} {ta:TA} {p pos:Pos} (hg:Gl X "range") (hm:X.mg "range" = none) (ha:PA X [a,b] ta) (hs:starEach [a,b] X.env=[(false,eval a X.env),(false,eval b X.env)]:=by rfl) (hs2:starEach [b] X.env=[(false,eval b X.env)]:=by rfl) :
    PI X tg (.Call (.Name "range" p) [a,b] [] pos) (xv4 ta):=by
 intro pins s σ H R I h;refine Call_ (yl0 I hg hm boot_range (PyProof.Rows.callWith_type1 (thn (ha pos pins s σ H _ I h) λ us s1 ⟨vs,H1,I1,r1,q1⟩=>?_) (by rw [hs,hs2]) (by rw [hs2]; rfl)));obtain ⟨i,j,e,⟨q1,q2,q3,q4⟩,q⟩:=q1;subst e;cases r1 with
 | cons r rr =>
  cases rr with
  | cons r' rr =>
   cases rr;obtain ⟨t,rfl⟩:=r;obtain ⟨t',rfl⟩:=r';exact call_range_2 (tl1 I1 q1 q2 q3 q4 q)
def tFor (wi:TI) (g:TG) (tb:TS):TS:=λ D σ H=>wi σ H λ J H1=>∃ W:Nat->Nat->St->Hp->Prop,(∃ m,W 0 m σ H1) /\ ∀ i m σ H,W i m σ H ->
 (J.stop i H /\ D.nx σ H) \/ (J.go i H /\ ∃ N:St->Hp->Prop,(∀ σ' H',N σ' H'->∃ m',m' < m /\ W (i + 1) m' σ' H') /\ ∀ x H',J.yld i H x H'->g x σ H' λ σ2 H2=>tb { D with nx:=N,ct:=N,bk:=D.nx } σ2 H2)
def yv0 (fp:List Addr) (h:Heap):List (Addr × Obj):=fp.filterMap λ b=>(h.get? b).map λ o=>(b,o)
theorem ug0 {fp:List Addr} {h:Heap} {b:Addr} {o:Obj} (hb:b ∈ fp) (e:h.get? b=some o):(b,o) ∈ yv0 fp h:=List.mem_filterMap.mpr ⟨b,hb,by rw [e]; rfl⟩
theorem sa2 {fp:List Addr} {h:Heap} {p:Addr × Obj} (hp:p ∈ yv0 fp h):p.1 ∈ fp /\ h.get? p.1=some p.2:=by
 obtain ⟨b,hb,e⟩:=List.mem_filterMap.mp hp;cases q:h.get? b with
 | none=>rw [q] at e; cases e
 | some o =>
  rw [q] at e;have e':(b,o)=p:=Option.some.inj e;subst e';exact ⟨hb,q⟩
theorem Inv.pinned {pins:[5]} {σ:St} {H:Hp} {s:Shared} {fp:List Addr} (I:[6]) (hf:∀ b ∈ fp,FpOk X pins H b) (ho:∀ b ∈ fp,∃ o,s.heap.get? b=some o /\ ∀ v,o.data ≠ .cell v):Inv X (pins ++ yv0 fp s.heap) σ H s :=
 I.pins_of λ p hp=>(List.mem_append.mp hp).elim (λ z=>I.pin p (mem_append_right _ z)) λ z=>by
  obtain ⟨hb,e⟩:=sa2 z;obtain ⟨f0,f1,f2,_⟩:=hf p.1 hb;obtain ⟨o,e',d⟩:=ho p.1 hb;rw [e] at e'; cases e';exact ⟨e,f0,f1,f2,d⟩
theorem Inv.unpinned {pins pl:[5]} {σ:St} {H:Hp} {s:Shared} (I:Inv X (pins ++ pl) σ H s):Inv X pins σ H s:=I.pins_of λ p hp=>I.pin p (mem_append_right _ (mem_append_left _ hp))
theorem vc4 {iter:Expr} {body:List Stmt} {wi:TI} {g:TG} {tb:TS} {pos:Pos} (hp:PassesOwn [9] X.A X.env X.xe) (hc:X.calm=true) (hi:PI X tg iter wi) (hg:PG X tg g) (hb:PSs X body tb)
    (hs:∀ x,foldedSetIterable iter X.env x=pure x:=by intro _; rfl):PS X (.For tg iter body [] pos) (tFor wi g tb):=by
 intro pins s σ H D I h;refine wpAny_For (thn (hi pins s σ H _ I h) λ v s1 h1=>thn h1 λ itv s2 h2=>?_) hs;obtain ⟨it,fp,tn,J,H2,e,I2,T,st2,f2,W,⟨m0,w0⟩,turn⟩:=h2;subst e;have stat:∀ {H':Hp},(∀ b ∈ fp,H' b=none)->∀ b ∈ fp,FpOk X pins H' b:=λ hn b hb=>⟨hn b hb,(f2 b hb).2⟩;refine codeAny_forLoop_any (λ n s'=>∃ i σ' H',Inv X pins σ' H' s' /\ tn i s'.heap /\ (∀ b ∈ fp,H' b=none) /\ W i n σ' H') ?_ m0 ⟨0,σ,H2,I2,st2,λ b hb=>(f2 b hb).1,w0⟩;rintro n s3 ⟨i,σ3,H3,I3,st3,fr3,w3⟩;rcases turn i n σ3 H3 w3 with ⟨stop,qn⟩ | ⟨go,N,hN,step⟩
 ·refine wpAny_passesOwn hp (thn (T.done X rfl rfl rfl hc i pins s3 σ3 H3 X.xe I3 (stat fr3) st3 stop) λ r s4 ⟨hr,I4⟩=>?_);subst hr;exact wpAny_execs_nil ⟨σ3,H3,I4,qn⟩
 ·refine wpAny_passesOwn hp (thn (T.item X rfl rfl rfl hc i pins s3 σ3 H3 X.xe I3 (stat fr3) st3 go) λ r s4 ⟨u,hr,h4⟩=>?_);subst hr;refine wpAny_passesOwn hp (thn h4 λ _ s5 ⟨x,H5,I5,r5,y5,st5,fr5⟩=>?_);have I5':=I5.pinned (stat fr5) (T.obj _ _ st5);refine wpAny_passesOwn hp (thn (hg _ s5 σ3 H5 x u _ I5' r5 (step x H5 y5)) λ _ s6 ⟨σ6,H6,I6,q6⟩=>?_);refine wpAny_passesOwn hp (thn (hb _ s6 σ6 H6 _ I6 q6) λ f s7 q7=>?_)
  have again:∀ {σ7:St} {H7:Hp},Inv X (pins ++ yv0 fp s5.heap) σ7 H7 s7->N σ7 H7->∃ m,m < n /\ ∃ i σ' H',Inv X pins σ' H' s7 /\ tn i s7.heap /\ (∀ b ∈ fp,H' b=none) /\ W i m σ' H':=λ {σ7 H7} I7 n7=>by
   obtain ⟨m',hm,w7⟩:=hN σ7 H7 n7;refine ⟨m',hm,i + 1,σ7,H7,I7.unpinned,T.keep _ _ _ st5 λ b hb o e=>(I7.pin (b,o) (mem_append_right _ (mem_append_right _ (ug0 hb e)))).1,λ b hb=>?_,w7⟩;obtain ⟨o,e,d⟩:=T.obj _ _ st5 b hb;exact (I7.pin (b,o) (mem_append_right _ (mem_append_right _ (ug0 hb e)))).2.1
  cases f with
  | next=>obtain ⟨σ7,H7,I7,n7⟩:=q7; exact again I7 n7
  | cont=>obtain ⟨σ7,H7,I7,n7⟩:=q7; exact again I7 n7
  | brk=>obtain ⟨σ7,H7,I7,q7⟩:=q7; exact ⟨σ7,H7,I7.unpinned,q7⟩
  | ret v=>obtain ⟨x7,σ7,H7,I7,r7,q7⟩:=q7; exact ⟨x7,σ7,H7,I7.unpinned,r7,q7⟩
end
abbrev R2:=V->V->Hp->VK->Prop
def OpR (X:Cx) (f:Value->Value->Sem Value) (r:R2):Prop :=
 ∀ (pins:[5]) (s:Shared) (σ:St) (H:Hp) (x y:V) (v u:Value) (Q:VK),Inv X pins σ H s->RelV x v->RelV y u->r x y H Q ->
  wpAny [9] X.A (f v u) (EP X pins σ Q) X.xe s
def UnR (X:Cx) (f:Value->Sem Value) (r:V->Hp->VK->Prop):Prop :=
 ∀ (pins:[5]) (s:Shared) (σ:St) (H:Hp) (x:V) (v:Value) (Q:VK),Inv X pins σ H s->RelV x v->r x H Q ->
  wpAny [9] X.A (f v) (EP X pins σ Q) X.xe s
def CallR (X:Cx) (f:Value) (r:List V->Hp->VK->Prop):Prop :=
 ∀ (pins:[5]) (s:Shared) (σ:St) (H:Hp) (xs:List V) (us:[24]) (Q:VK),Inv X pins σ H s->Vals xs us->r xs H Q ->
  wpAny [9] X.A (call f us) (EP X pins σ Q) X.xe s
def tOp (r:R2) (ta tb:TE):TE:=λ σ H Q=>ta σ H λ x H1=>tb σ H1 λ y H2=>r x y H2 Q
def tUn (r:V->Hp->VK->Prop) (ta:TE):TE:=λ σ H Q=>ta σ H λ x H1=>r x H1 Q
def rI (C:Int->Int->Prop) (g:Int->Int->V):R2:=λ x y H Q=>∃ i j,x=.int i /\ y=.int j /\ C i j /\ Q (g i j) H
def rI0 (g:Int->Int->V):R2:=λ x y H Q=>∃ i j,x=.int i /\ y=.int j /\ Q (g i j) H
def rU (g:Int->V):V->Hp->VK->Prop:=λ x H Q=>∃ i,x=.int i /\ Q (g i) H
section
variable {X:Cx} {a b c:Expr} {ta tb tc:TE} {pos:Pos}
theorem binT (ha:PE X a ta) (hb:PE X b tb) {pins:[5]} {s:Shared} {σ:St} {H:Hp} {R:V->V->Hp->Prop} (I:[6])
    (h:ta σ H λ x H1=>tb σ H1 λ y H2=>R x y H2) {Q:[4]} {f:Value->Value->Sem Value}
    (hf:∀ v u s2 x y H2,Inv X pins σ H2 s2->RelV x v->RelV y u->R x y H2->wpAny [9] X.A (f v u) Q X.xe s2) :
    wpAny [9] X.A (eval a X.env) (λ v s₁=>wpAny [9] X.A (eval b X.env) (λ u s₂=>wpAny [9] X.A (f v u) Q X.xe s₂) X.xe s₁) X.xe s:=by
 refine thn (ha pins s σ H _ I h) λ v s1 ⟨x,H1,I1,r1,q1⟩=>?_;refine thn (hb pins s1 σ H1 _ I1 q1) λ u s2 ⟨y,H2,I2,r2,q2⟩=>?_;exact hf v u s2 x y H2 I2 r1 r2 q2
theorem yt4 {op:Operator} {r:R2} (ho:OpR X (binaryOp op) r) (ha:PE X a ta) (hb:PE X b tb):PE X (.BinOp a op b pos) (tOp r ta tb):=by
 intro pins s σ H Q I h;exact wpAny_BinOp (binT ha hb I h λ v u s2 x y H2 I2 rx ry q=>ho pins s2 σ H2 x y v u Q I2 rx ry q)
theorem ss4 {op:UnaryOp} {r:V->Hp->VK->Prop} (ho:UnR X (unaryOp op) r) (ha:PE X a ta):PE X (.UnaryOp op a pos) (tUn r ta):=by
 intro pins s σ H Q I h;exact UnaryOp_ (thn (ha pins s σ H _ I h) λ v s1 ⟨x,H1,I1,r1,q1⟩=>ho pins s1 σ H1 x v Q I1 r1 q1)
theorem opI {f:Value->Value->Sem Value} {C:Int->Int->Prop} {g:Int->Int->Int}
    (rule:∀ (i j:Int) (t u:Tok) (s:Shared) (Q:[4]) (E:[4]),C i j->Q (.int (g i j) s.toks) { s with toks:=s.toks + 1 }->wpAny [9] X.A (f (.int i t) (.int j u)) Q E s) :
    OpR X f (rI C λ i j=>.int (g i j)):=by
 intro pins s σ H x y v u Q I rx ry h;obtain ⟨i,j,rfl,rfl,hc,q⟩:=h;obtain ⟨t,rfl⟩:=rx;obtain ⟨t',rfl⟩:=ry;exact rule i j t t' s _ _ hc ⟨.int (g i j),H,I.tok _,⟨_,rfl⟩,q⟩
theorem opI0 {f:Value->Value->Sem Value} {g:Int->Int->Int}
    (rule:∀ (i j:Int) (t u:Tok) (s:Shared) (Q:[4]) (E:[4]),Q (.int (g i j) s.toks) { s with toks:=s.toks + 1 }->wpAny [9] X.A (f (.int i t) (.int j u)) Q E s) :
    OpR X f (rI0 λ i j=>.int (g i j)):=by
 intro pins s σ H x y v u Q I rx ry h;obtain ⟨i,j,rfl,rfl,q⟩:=h;obtain ⟨t,rfl⟩:=rx;obtain ⟨t',rfl⟩:=ry;exact rule i j t t' s _ _ ⟨.int (g i j),H,I.tok _,⟨_,rfl⟩,q⟩
theorem opB0 {f:Value->Value->Sem Value} {g:Int->Int->Bool}
    (rule:∀ (i j:Int) (t u:Tok) (s:Shared) (Q:[4]) (E:[4]),Q (.bool (g i j)) s->wpAny [9] X.A (f (.int i t) (.int j u)) Q E s) :
    OpR X f (rI0 λ i j=>.bl (g i j)):=by
 intro pins s σ H x y v u Q I rx ry h;obtain ⟨i,j,rfl,rfl,q⟩:=h;obtain ⟨t,rfl⟩:=rx;obtain ⟨t',rfl⟩:=ry;exact rule i j t t' s _ _ ⟨.bl (g i j),H,I,rfl,q⟩
def CPow (i j:Int):Prop:=0<=j /\ j<=1000000 /\ i.natAbs < 2 ^ 64
def CMul (i j:Int):Prop:=(-(2 ^ 64) < i /\ i < 2 ^ 64) \/ (-(2 ^ 64) < j /\ j < 2 ^ 64)
theorem CMul.ok {i j:Int} (h:CMul i j):IntMulOk i j:=by
 rcases h with ⟨h1,h2⟩ | ⟨h1,h2⟩
 ·exact .of_left (intBits_le_64 h1 h2)
 ·exact .of_right (intBits_le_64 h1 h2)
theorem op_add:OpR X (binaryOp .Add) (rI0 λ i j=>.int (i + j)):=opI0 λ _ _ _ _ _ _ _ q=>add_int q
theorem te4:OpR X (binaryOp .Sub) (rI0 λ i j=>.int (i - j)):=opI0 λ _ _ _ _ _ _ _ q=>sub_int q
theorem zf4:OpR X (binaryOp .Mod) (rI (λ _ j=>0 < j) λ i j=>.int (i % j)):=opI λ i j _ _ _ _ _ hc q=>by
 have h1:(0:Int) < j:=hc;exact mod_int' [2] (by rw [Int.fmod_eq_emod_of_nonneg i [2]]; exact q)
theorem xf4:OpR X (binaryOp .Pow) (rI CPow λ i j=>.int (i ^ j.toNat)):=opI λ _ _ _ _ _ _ _ hc q=>pow_int_small hc.1 hc.2.1 hc.2.2 q
theorem unI {f:Value->Sem Value} {g:Int->Int}
    (rule:∀ (i:Int) (t:Tok) (s:Shared) (Q:[4]) (E:[4]),Q (.int (g i) s.toks) { s with toks:=s.toks + 1 }->wpAny [9] X.A (f (.int i t)) Q E s) :
    UnR X f (rU λ i=>.int (g i)):=by
 intro pins s σ H x v Q I rx h;obtain ⟨i,rfl,q⟩:=h;obtain ⟨t,rfl⟩:=rx;exact rule i t s _ _ ⟨.int (g i),H,I.tok _,⟨_,rfl⟩,q⟩
theorem zo3:UnR X (unaryOp .USub) (rU λ i=>.int (-i)):=unI λ _ _ _ _ _ q=>neg_int q
end
def scal:V->V->Bool
 | .non,.non=>true | .non,.int _=>true | .int _,.non=>true | .non,.bl _=>true | .bl _,.non=>true | .non,.str _=>true | .str _,.non=>true
 | .int _,.int _=>true | .bl _,.bl _=>true | .str _,.str _=>true | .byt _,.byt _=>true
 | .int _,.str _=>true | .str _,.int _=>true | .bl _,.str _=>true | .str _,.bl _=>true
 | _,_=>false
def rEq:R2:=λ x y H Q=>scal x y=true /\ Q (.bl (decide (x=y))) H
def rNe:R2:=λ x y H Q=>scal x y=true /\ Q (.bl (!decide (x=y))) H
theorem vg2 {i j:Int}:decide (V.int i=V.int j)=(i == j):=by
 rw [Bool.eq_iff_iff];simp
theorem xy2 {i j:Bool}:decide (V.bl i=V.bl j)=(i == j):=by
 rw [Bool.eq_iff_iff];simp
theorem wg2 {i j:Str}:decide (V.str i=V.str j)=(i == j):=by
 rw [Bool.eq_iff_iff];simp
theorem ug2 {i j:Array UInt8}:decide (V.byt i=V.byt j)=(i.toList == j.toList):=by
 rw [Bool.eq_iff_iff];cases i;cases j;simp
section
variable {X:Cx} {a b c:Expr} {ta tb tc:TE} {pos:Pos}
theorem zd0 {pins:[5]} {σ:St} {H:Hp} {s:Shared} {Q:VK} {k k':Bool} (I:[6]) (q:Q (.bl k) H) (e:k=k'):EP X pins σ Q (.bool k') s:=by
 subst e;exact ⟨.bl k,H,I,rfl,q⟩
theorem op_eq:OpR X (compareOp .Eq) rEq:=by
 intro pins s σ H x y v u Q I rx ry h;obtain ⟨hs,q⟩:=h;cases x with
 | non =>
  cases rx;cases y with
  | non=>cases ry; exact PySem.EqNone.eq_none_none (zd0 I q [16])
  | bl j=>cases ry; exact PySem.EqNone.eq_none_bool (zd0 I q [16])
  | int j=>obtain ⟨t',rfl⟩:=ry; exact PySem.EqNone.eq_none_int (zd0 I q [16])
  | str j=>obtain ⟨t',rfl⟩:=ry; exact PySem.EqNone.eq_none_str (zd0 I q [16])
  | _=>exact absurd (show false=true from hs) Bool.false_ne_true
 | bl i =>
  cases rx;cases y with
  | non=>cases ry; exact PySem.EqNone.eq_bool_none (zd0 I q [16])
  | bl j=>cases ry; exact eq_bool (zd0 I q xy2)
  | str j=>obtain ⟨t',rfl⟩:=ry; exact PySem.EqMixed.eq_bool_str (zd0 I q [16])
  | _=>exact absurd (show false=true from hs) Bool.false_ne_true
 | int i =>
  obtain ⟨t,rfl⟩:=rx;cases y with
  | non=>cases ry; exact PySem.EqNone.eq_int_none (zd0 I q [16])
  | int j=>obtain ⟨t',rfl⟩:=ry; exact eq_int (zd0 I q vg2)
  | str j=>obtain ⟨t',rfl⟩:=ry; exact PySem.EqMixed.eq_int_str (zd0 I q [16])
  | _=>exact absurd (show false=true from hs) Bool.false_ne_true
 | str i =>
  obtain ⟨t,rfl⟩:=rx;cases y with
  | non=>cases ry; exact PySem.EqNone.eq_str_none (zd0 I q [16])
  | bl j=>cases ry; exact PySem.EqMixed.eq_str_bool (zd0 I q [16])
  | int j=>obtain ⟨t',rfl⟩:=ry; exact PySem.EqMixed.eq_str_int (zd0 I q [16])
  | str j=>obtain ⟨t',rfl⟩:=ry; exact eq_str (zd0 I q wg2)
  | _=>exact absurd (show false=true from hs) Bool.false_ne_true
 | byt i =>
  obtain ⟨t,rfl⟩:=rx;cases y with
  | byt j=>obtain ⟨t',rfl⟩:=ry; exact PySem.W.eq_bytes (zd0 I q ug2)
  | _=>exact absurd (show false=true from hs) Bool.false_ne_true
 | _=>cases y <;> exact absurd (show false=true from hs) Bool.false_ne_true
theorem op_ne:OpR X (compareOp .NotEq) rNe:=by
 intro pins s σ H x y v u Q I rx ry h;obtain ⟨hs,q⟩:=h;cases x with
 | non =>
  cases rx;cases y with
  | non=>cases ry; exact PySem.EqNone.ne_none_none (zd0 I q [16])
  | bl j=>cases ry; exact PySem.EqNone.ne_none_bool (zd0 I q [16])
  | int j=>obtain ⟨t',rfl⟩:=ry; exact PySem.EqNone.ne_none_int (zd0 I q [16])
  | str j=>obtain ⟨t',rfl⟩:=ry; exact PySem.EqNone.ne_none_str (zd0 I q [16])
  | _=>exact absurd (show false=true from hs) Bool.false_ne_true
 | bl i =>
  cases rx;cases y with
  | non=>cases ry; exact PySem.EqNone.ne_bool_none (zd0 I q [16])
  | bl j=>cases ry; exact ne_bool (zd0 I q (congrArg not xy2))
  | str j=>obtain ⟨t',rfl⟩:=ry; exact PySem.EqMixed.ne_bool_str (zd0 I q [16])
  | _=>exact absurd (show false=true from hs) Bool.false_ne_true
 | int i =>
  obtain ⟨t,rfl⟩:=rx;cases y with
  | non=>cases ry; exact PySem.EqNone.ne_int_none (zd0 I q [16])
  | int j=>obtain ⟨t',rfl⟩:=ry; exact ne_int (zd0 I q (congrArg not vg2))
  | str j=>obtain ⟨t',rfl⟩:=ry; exact PySem.EqMixed.ne_int_str (zd0 I q [16])
  | _=>exact absurd (show false=true from hs) Bool.false_ne_true
 | str i =>
  obtain ⟨t,rfl⟩:=rx;cases y with
  | non=>cases ry; exact PySem.EqNone.ne_str_none (zd0 I q [16])
  | bl j=>cases ry; exact PySem.EqMixed.ne_str_bool (zd0 I q [16])
  | int j=>obtain ⟨t',rfl⟩:=ry; exact PySem.EqMixed.ne_str_int (zd0 I q [16])
  | str j=>obtain ⟨t',rfl⟩:=ry; exact ne_str (zd0 I q (congrArg not wg2))
  | _=>exact absurd (show false=true from hs) Bool.false_ne_true
 | byt i =>
  obtain ⟨t,rfl⟩:=rx;cases y with
  | byt j=>obtain ⟨t',rfl⟩:=ry; exact PySem.W.ne_bytes (zd0 I q (congrArg not ug2))
  | _=>exact absurd (show false=true from hs) Bool.false_ne_true
 | _=>cases y <;> exact absurd (show false=true from hs) Bool.false_ne_true
theorem xu4:OpR X (compareOp .Lt) (rI0 λ i j=>.bl (decide (i < j))):=opB0 λ _ _ _ _ _ _ _ q=>lt_int q
theorem yu4:OpR X (compareOp .Gt) (rI0 λ i j=>.bl (decide (j < i))):=opB0 λ _ _ _ _ _ _ _ q=>gt_int q
theorem op_ge:OpR X (compareOp .GtE) (rI0 λ i j=>.bl (decide (j<=i))):=opB0 λ _ _ _ _ _ _ _ q=>ge_int q
theorem wf4:OpR X (compareOp .Is) (λ x y H Q=>y=.non /\ Q (.bl (decide (x=.non))) H):=by
 intro pins s σ H x y v u Q I rx ry h;obtain ⟨rfl,q⟩:=h;cases ry;refine is_none_gen (zd0 I q ?_)
 cases x <;> first
  | (cases rx; rfl)
  | (obtain ⟨t,rfl⟩:=rx; rfl)
theorem OpR.or {f:Value->Value->Sem Value} {r r':R2} (h:OpR X f r) (h':OpR X f r'):OpR X f (λ x y H Q=>r x y H Q \/ r' x y H Q):=by
 intro pins s σ H x y v u Q I rx ry q;rcases q with q | q
 ·exact h pins s σ H x y v u Q I rx ry q
 ·exact h' pins s σ H x y v u Q I rx ry q
theorem yw2 (b:Expr) {op:CmpOp} (h:op ≠ .In:=by decide) (h2:op ≠ .NotIn:=by decide):behindInMarks op b=false:=by
 have e1:(op == CmpOp.In)=false:=by cases op <;> first | rfl | exact absurd rfl h
 have e2:(op == CmpOp.NotIn)=false:=by cases op <;> first | rfl | exact absurd rfl h2
 cases b <;> simp [behindInMarks,e1,e2]
theorem sf3 {op:CmpOp} {r:R2} (ho:OpR X (compareOp op) r) (ha:PE X a ta) (hb:PE X b tb) (hm:behindInMarks op b=false):PE X (.Compare a [op] [b] pos) (tOp r ta tb):=by
 intro pins s σ H Q I h;exact wpAny_Compare1 (binT ha hb I h λ v u s2 x y H2 I2 rx ry q=>ho pins s2 σ H2 x y v u Q I2 rx ry q) hm
def yr3 (t:TE):TT:=λ σ H Q=>t σ H λ x H'=>∃ k,x=.bl k /\ Q k H'
theorem sd3 {op:CmpOp} {r:R2} (ho:OpR X (compareOp op) r) (ha:PE X a ta) (hb:PE X b tb) (hm:behindInMarks op b=false):PT X (.Compare a [op] [b] pos) (yr3 (tOp r ta tb)):=by
 intro pins s σ H Q I h
 refine wpAny_isTrue_Compare1 (thn (ha pins s σ H _ I h) λ v s1 ⟨x,H1,I1,r1,q1⟩=>thn (hb pins s1 σ H1 _ I1 q1) λ u s2 ⟨y,H2,I2,r2,q2⟩ =>
  thn (ho pins s2 σ H2 x y v u _ I2 r1 r2 q2) λ c s3 ⟨z,H3,I3,r3,k,e,q3⟩=>?_) hm
 subst e;cases r3;exact wpAny_truthy_bool ⟨H3,I3,q3⟩
theorem zv0:(sizeLine:Nat) < 2 ^ 63:=by rw [sizeLine_eq]; decide
theorem xs1:OpR X (binaryOp .Add) (λ x y H Q=>∃ i j,x=.str i /\ y=.str j /\ i.length + j.length<=sizeLine /\ Q (.str (i ++ j)) H):=by
 intro pins s σ H x y v u Q I rx ry h;obtain ⟨i,j,rfl,rfl,hz,q⟩:=h;obtain ⟨t,rfl⟩:=rx;obtain ⟨t',rfl⟩:=ry;exact add_str (λ t' tk=>⟨.str (i ++ j),H,I.tok _,⟨_,rfl⟩,q⟩) hz
theorem ue1 {x:V} {us:[24]} (r:Vals [x] us):∃ u,us=[u] /\ RelV x u:=by
 cases r with
 | cons r1 r2=>cases r2; exact ⟨_,rfl,r1⟩
theorem xo3 {x y:V} {us:[24]} (r:Vals [x,y] us):∃ u w',us=[u,w'] /\ RelV x u /\ RelV y w':=by
 cases r with
 | cons r1 r2 =>
  cases r2 with
  | cons r3 r4=>cases r4; exact ⟨_,_,rfl,r1,r3⟩
theorem sr2:CallR X (.builtin "abs") (λ xs H Q=>∃ i,xs=[.int i] /\ Q (.int (if i < 0 then -i else i)) H):=by
 intro pins s σ H xs us Q I r h;obtain ⟨i,rfl,q⟩:=h;obtain ⟨u,rfl,t,rfl⟩:=ue1 r;exact call_abs_int λ u tk=>⟨.int (if i < 0 then -i else i),H,I.tok _,⟨_,rfl⟩,q⟩
theorem th2 (hc:X.calm=true):CallR X (.builtin "min") (λ xs H Q=>∃ i j,xs=[.int i,.int j] /\ Q (.int (if j < i then j else i)) H):=by
 intro pins s σ H xs us Q I r h;obtain ⟨i,j,rfl,q⟩:=h;obtain ⟨u,w',rfl,⟨t,rfl⟩,⟨t',rfl⟩⟩:=xo3 r;refine min_two_ints (I.ok.hd hc) λ h' tk k=>⟨_,H,I.kept k,?_,q⟩;by_cases hj:j < i
 ·rw [if_pos hj,if_pos hj]; exact ⟨_,rfl⟩
 ·rw [if_neg hj,if_neg hj]; exact ⟨_,rfl⟩
end
theorem RelO.some_of {v:V} {o:Option Value} (r:RelO (some v) o):∃ u,o=some u /\ RelV v u:=by
 cases o with
 | none=>exact (show False from r).elim
 | some u=>exact ⟨u,rfl,r⟩
structure Cls (K:PySem.W.Frag) (C:Addr):Prop where
 pg:PySem.W.plainGet K C Str.empty=true
 hd:PySem.W.hasDictIn K C=true
 po:PySem.W.plainOver K C=true
 sa:findIn K (.ref C) "__setattr__" = some (some (.builtin "object.__setattr__"))
section
variable {X:Cx} {pins:[5]} {σ:St} {H:Hp} {s:Shared} {A:Around} {E:[4]} {Q:[4]} {c:Value} {b:Bool}
inductive TyOf (K:PySem.W.Frag) (H:Hp):V->Value->Prop where
 | non:TyOf K H .non (.type "NoneType")
 | bl (x:Bool):TyOf K H (.bl x) (.type "bool")
 | int (i:Int):TyOf K H (.int i) (.type "int")
 | str (x:Str):TyOf K H (.str x) (.type "str")
 | flt (x:UInt64):TyOf K H (.flt x) (.type "float")
 | lst {a:Addr} {xs:List V} (e:H a=some (.lst xs)):TyOf K H (.ref a) (.type "list")
 | frz {a:Addr} {o:Obj} {xs:List V} (e:H a=some (.frz o (.lst xs))):TyOf K H (.ref a) (.type "list")
 | tup {a:Addr} {xs:List V} (e:H a=some (.tup xs)):TyOf K H (.ref a) (.type "tuple")
 | dK {a:Addr} {kvs:List (Key × V)} (e:H a=some (.dK kvs)):TyOf K H (.ref a) (.type "dict")
 | dT {a:Addr} {kvs:List (List Key × V)} (e:H a=some (.dT kvs)):TyOf K H (.ref a) (.type "dict")
 | ins {a C dx:Addr} {fs:List (Str × V)} (e:H a=some (.ins C dx fs)) (cl:Cls K C) (ha:findIn K (.ref C) "__class__" = some (some (.builtin "object.__class__")))
     (hn:PySem.W.specialIn K (.builtin "object.__class__") "__get__" = some (some (.builtin "getset_descriptor.__get__"))) (htk:PySem.W.takesIn K (.builtin "object.__class__")=some true)
     (hm:PySem.W.mroIn K C (.type "object")=some true):TyOf K H (.ref a) (.ref C)
end
structure Room (k:Nat) (A:Around):Prop where
 hd:A.handled=none
 dp:A.depth + 3 * k + 5 < recursionLimit
 un:A.units + 16 * k + 200 < cLine
theorem Room.mono {j k:Nat} {A:Around} (r:Room k A) (h:j<=k):Room j A:=⟨r.hd,by have:=r.dp; omega,by have:=r.un; omega⟩
theorem Room.deeper {k:Nat} {A:Around} (r:Room (k + 1) A) (env:Env):Room k (A.deeper env) :=
 ⟨r.hd,by have:=r.dp; show A.depth + 1 + 3 * k + 5 < _; omega,by have:=r.un; show A.units + 3 + 16 * k + 200 < _; omega⟩
theorem Room.depth {k:Nat} {A:Around} (r:Room k A):A.depth < recursionLimit:=by have:=r.dp; omega
def tNil:TA:=λ _ H Q=>Q [] H
def xn4 (ta:TE) (tr:TA):TA:=λ σ H Q=>ta σ H λ x H1=>tr σ H1 λ xs H2=>Q (x :: xs) H2
section
variable {X:Cx} {e:Expr} {es:List Expr} {te:TE} {t:TA} {pos:Pos}
theorem ue4:PA X [] tNil:=λ _ _ _ _ H Q I h=>Calls.spliced_nil ⟨[],H,I,.nil,h⟩
theorem wg3 (ha:PE X e te) (hr:PA X es t) (hs:starEach (e :: es) X.env=[35] :: starEach es X.env:=by rfl):PA X (e :: es) (xn4 te t):=by
 intro pos pins s σ H Q I h;rw [hs];show wpAny _ _ (spliced ([35] :: backTo pos (starEach es X.env))) _ _ s;refine Calls.spliced_cons (thn (ha pins s σ H _ I h) λ u s1 ⟨x,H1,I1,r1,q1⟩=>?_);exact thn (hr pos pins s1 σ H1 _ I1 q1) λ us s2 ⟨xs,H2,I2,r2,q2⟩=>⟨x :: xs,H2,I2,.cons r1 r2,q2⟩
def tTup (t:TA):TE:=λ σ H Q=>t σ H λ xs H1=>xs.length<=sizeLine /\ ∀ p,H1 p=none->Q (.ref p) (upd H1 p (.tup xs))
def tLst (t:TA):TE:=λ σ H Q=>t σ H λ xs H1=>xs.length<=sizeLine /\ ∀ p,H1 p=none->Q (.ref p) (upd H1 p (.lst xs))
theorem wd4 {x1} (h:PA X es t):PE X (.Tuple es x1 pos) (tTup t):=by
 intro pins s σ H Q I hq;refine wpAny_Tuple_spliced (thn (h pos pins s σ H _ I hq) λ us s1 ⟨xs,H1,I1,r,z,q⟩=>⟨by rw [<- r.length]; exact z,?_⟩);have hf:H1 s1.heap.objs.size=none:=I1.hok.fresh [14];refine ⟨.ref s1.heap.objs.size,upd H1 s1.heap.objs.size (.tup xs),I1.laid (t':=s1.toks) (λ b u e=>Heap.get?_push_of_some _ e) [14] ?_,rfl,q _ hf⟩;exact ⟨z,us,r,⟨_,Heap.get?_push_size _ rfl,rfl,_,rfl⟩⟩
theorem xe4 (h:PA X es t):PE X (.List es pos) (tLst t):=by
 intro pins s σ H Q I hq;refine wpAny_List_spliced (thn (h pos pins s σ H _ I hq) λ us s1 ⟨xs,H1,I1,r,z,q⟩=>⟨by rw [<- r.length]; exact z,?_⟩);have hf:H1 s1.heap.objs.size=none:=I1.hok.fresh [14];refine ⟨.ref s1.heap.objs.size,upd H1 s1.heap.objs.size (.lst xs),I1.laid (t':=s1.toks) (λ b u e=>Heap.get?_push_of_some _ e) [14] ?_,rfl,q _ hf⟩;exact ⟨z,us,0,r,Heap.get?_push_size _ rfl⟩
end
abbrev Sp:=List V->Hp->VK->XK->Prop
abbrev CXT:=List Env->Hp->Shared->XK->Value->Shared->Prop
structure Env0 (P:Program) (w:World) (K:PySem.W.Frag) (mg:Str->Option Value) (base:Heap) (A:Around) (outer:List Env) (s:Shared) (H:Hp):Prop where
 frames:A.frames=some outer
 mod:Mod K mg base
 bs:∀ b o,base.get? b=some o->s.heap.get? b=some o /\ H b=none
 bsz:base.objs.size<=s.heap.objs.size
 funs:s.heap.FunFrames base outer
 frf:∀ b ∈ frs outer,H b=none
 hok:HOk P w H s.heap
 bare:AllBare s.gens
def CE (outer:List Env) (P:Program) (w:World) (H:Hp) (s:Shared) (Q:VK) (u:Value) (s':Shared):Prop :=
 ∃ v H',s'.os=s.os /\ AllBare s'.gens /\ Un (frs outer) [] H H' s.heap s'.heap /\ HOk P w H' s'.heap /\ RelV v u /\ Q v H'
def CR (CX:CXT) (outer:List Env) (P:Program) (w:World) (H:Hp) (s:Shared) (Q:VK) (E:XK) (r:Result) (s':Shared):Prop :=
 match r with
 | .ok (.ret u)=>CE outer P w H s Q u s'
 | .ok _=>False
 | .error e=>CX outer H s E e s'
structure FnOk (P:Program) (w:World) (K:PySem.W.Frag) (mg:Str->Option Value) (base:Heap) (CX:CXT) (k:Nat) (f:Addr) (fd:FuncData) (ps:List Str) (sp:Sp):Prop where
 len:∀ vs H Q E,sp vs H Q E->vs.length=ps.length
 run:∀ (A:Around) (outer:List Env) (s:Shared) (H:Hp) (args:Args) (us:List Value) (vs:List V) (Q:VK) (E:XK),Room k A->Env0 P w K mg base A outer s H->BindsTo s fd args (ps.zip us)->Vals vs us->sp vs H Q E ->
  codeAny (model P w) A (.call (.ref f) args) (CR CX outer P w H s Q E) s
theorem FnOk.mono {P:Program} {w:World} {K:PySem.W.Frag} {mg:Str->Option Value} {base:Heap} {CX:CXT} {j k:Nat} {f:Addr} {fd:FuncData} {ps:List Str} {sp:Sp} (F:FnOk P w K mg base CX j f fd ps sp) (h:j<=k) :
    FnOk P w K mg base CX k f fd ps sp:=⟨F.len,λ A outer s H args us vs Q E hr=>F.run A outer s H args us vs Q E (hr.mono h)⟩
section
variable {X:Cx} {pins:[5]} {σ:St} {H:Hp} {s s':Shared}
theorem Inv.env0 (I:[6]):Env0 X.prog X.w X.K X.mg X.base X.A X.stack s H :=
 ⟨I.ok.frames,I.ok.mod,I.bs,Nat.le_trans I.ok.bsz I.sz,I.stack,I.stkFree,I.hok,I.bare⟩
theorem Inv.after {Q:VK} {u:Value} (I:[6]) (h:CE X.stack X.prog X.w H s Q u s'):EP X pins σ Q u s':=by
 obtain ⟨v,H',os,bare,un,hok,r,q⟩:=h;obtain ⟨hh,g,d,t,os'⟩:=s';obtain rfl:os'=s.os:=os;exact ⟨v,H',I.call (h':=hh) (g':=g) (d':=d) (t':=t) (ch:=[]) un hok bare (λ b z=>absurd z [16]),r,q⟩
end
def yn4 (sp:Sp) (dvs:List V) (E:XK) (t:TA):TE:=λ σ H Q=>t σ H λ vs H1=>sp (vs ++ dvs) H1 Q E
def Binds (K:PySem.W.Frag) (fd:FuncData) (ps:List Str) (ds:[24]):Prop :=
 ∀ (s:Shared) (us:[24]),K.In s.heap->(us ++ ds).length=ps.length->BindsTo s fd ⟨us,[]⟩ (ps.zip (us ++ ds))
theorem Binds.all {K:PySem.W.Frag} {fd:FuncData} {ps:List Str} (h:∀ us:List Value,us.length=ps.length->bindArgs fd ⟨us,[]⟩=pure (ps.zip us)):Binds K fd ps []:=λ s us _ hl=>by
 rw [append_nil] at hl ⊢;exact .of_eq (h us hl)
def uj2 (CX:CXT) (X:Cx) (E:XK):Prop:=∀ (pins:[5]) (σ:St) (H:Hp) (s:Shared) (e:Value) (s':Shared),Inv X pins σ H s->CX X.stack H s E e s'->X.xe e s'
section
variable {X:Cx} {CX:CXT} {k:Nat} {f C:Addr} {fd:FuncData} {ps:List Str} {sp:Sp} {dvs:List V} {ds:[24]} {E:XK} {x m:Str} {p pos apos:Pos} {e o:Expr} {es:List Expr} {ta:TE} {t:TA}
theorem uu3 {pins:[5]} {σ:St} {H:Hp} {s:Shared} {Q:VK} {us:[24]} {vs:List V} (F:FnOk X.prog X.w X.K X.mg X.base CX k f fd ps sp) (hr:Room k X.A) (hb:Binds X.K fd ps ds) (hd:Vals dvs ds) (hx:uj2 CX X E)
    (I:[6]) (r:Vals vs us) (h:sp (vs ++ dvs) H Q E):wpAny [9] X.A (call (.ref f) us) (EP X pins σ Q) X.xe s:=by
 have r2:Vals (vs ++ dvs) (us ++ ds):=r.append hd;have hl:(us ++ ds).length=ps.length:=by rw [<- r2.length]; exact F.len _ _ _ _ h
 refine wpAny_call (codeAny_mono (F.run X.A X.stack s H ⟨us,[]⟩ (us ++ ds) (vs ++ dvs) Q E hr I.env0 (hb s us I.kIn hl) r2 h) λ r s' hq=>?_);cases r with
 | error e=>exact hx pins σ H s e s' I hq
 | ok fl =>
  cases fl with
  | ret u=>exact I.after hq
  | next=>exact False.elim hq
  | brk=>exact False.elim hq
  | cont=>exact False.elim hq
theorem xg3 (F:FnOk X.prog X.w X.K X.mg X.base CX k f fd ps sp) (hr:Room k X.A) (hg:Gl X x) (hm:X.mg x=some (.ref f)) (hk:keepIn X.K (.ref f)=true) (hb:Binds X.K fd ps ds) (hd:Vals dvs ds) (hx:uj2 CX X E)
    (ha:PA X (e :: es) t) (hdb:(x == ("__debug__" : Str))=false:=by decide) (he:starEach (e :: es) X.env=[35] :: starEach es X.env:=by rfl) (hpl:(backTo pos (starEach es X.env)).any (·.1)=false:=by rfl) :
    PE X (.Call (.Name x p) (e :: es) [] pos) (yn4 sp dvs E t):=by
 intro pins s σ H Q I h;refine wpAny_Call_Name_kw (zc2 I hg hm ?_ hdb);refine PySem.W.callWith_K (h₀:=X.base) I.ok.mod.kin hk (thn (ha pos pins s σ H _ I h) λ us s1 ⟨vs,H1,I1,r,q⟩=>⟨I1.kIn,?_⟩) he hpl;exact uu3 F hr hb hd hx I1 r q
structure Mk (K:PySem.W.Frag) (C f:Addr):Prop where
 makes:PySem.W.makesIn K C=true
 init:findIn K (.ref C) "__init__" = some (some (.ref f))
 fn:PySem.W.isFn K (.ref f)=true
 kp:keepIn K (.ref C)=true
end
structure FnScope (N P:List Str) (sc:Scope):Prop where
 kind:sc.kind=.function
 co:sc.isCoroutine=false
 gen:sc.isGenerator=false
 nd:N.Nodup
 pre:N.take P.length=P
 par:∀ x ∈ P,sc.names.lookup x=some .local \/ sc.names.lookup x=some .cell
 nofree:∀ y ∈ sc.names,y.2 ≠ .free
theorem sd1 {kindOf:Str->Option NameKind} {x:Str}:∀ {binds:List (Str × Value)} {m:Str->Option Value},(∀ v,(x,v) ∉ binds)->bindL kindOf binds m x=m x
 | [],_,_=>rfl
 | (n,v) :: r,m,h=>by
  unfold bindL;rw [sd1 λ w hw=>h w (mem_cons_of_mem _ hw)];split
  ·have:x ≠ n:=by rintro rfl; exact h v mem_cons_self
   simp [this]
  ·rfl
theorem ye1 {kindOf:Str->Option NameKind} {x:Str}:∀ {binds:List (Str × Value)} {m:Str->Option Value},(∀ v,(x,v) ∉ binds)->bindC kindOf binds m x=m x
 | [],_,_=>rfl
 | (n,v) :: r,m,h=>by
  unfold bindC;rw [ye1 λ w hw=>h w (mem_cons_of_mem _ hw)];split
  ·rfl
  ·have:x ≠ n:=by rintro rfl; exact h v mem_cons_self
   simp [this]
theorem xe1 {kindOf:Str->Option NameKind} {x:Str} {v:Value}:∀ {P:List Str} {vs:[24]} {i:Nat} {m:Str->Option Value},P.Nodup->P[i]?=some x->vs[i]?=some v->kindOf x=some .local ->
    bindL kindOf (P.zip vs) m x=some v
 | [],_,_,_,_,h,_,_=>by simp at h
 | _ :: _,[],_,_,_,_,h,_=>by simp at h
 | p :: P,w :: vs,0,m,nd,h1,h2,hk=>by
  simp at h1 h2; subst h1; subst h2;show bindL kindOf ((p,w) :: P.zip vs) m p=_;unfold bindL;rw [sd1 λ v hv=>(List.nodup_cons.mp nd).1 (List.of_mem_zip hv).1,if_pos hk];simp
 | p :: P,w :: vs,i + 1,m,nd,h1,h2,hk=>by
  show bindL kindOf ((p,w) :: P.zip vs) m x=_;unfold bindL;exact xe1 (i:=i) (List.nodup_cons.mp nd).2 (by simpa using h1) (by simpa using h2) hk
theorem ze1 {kindOf:Str->Option NameKind} {x:Str} {v:Value}:∀ {P:List Str} {vs:[24]} {i:Nat} {m:Str->Option Value},P.Nodup->P[i]?=some x->vs[i]?=some v->kindOf x ≠ some .local ->
    bindC kindOf (P.zip vs) m x=some v
 | [],_,_,_,_,h,_,_=>by simp at h
 | _ :: _,[],_,_,_,_,h,_=>by simp at h
 | p :: P,w :: vs,0,m,nd,h1,h2,hk=>by
  simp at h1 h2; subst h1; subst h2;show bindC kindOf ((p,w) :: P.zip vs) m p=_;unfold bindC;rw [ye1 λ v hv=>(List.nodup_cons.mp nd).1 (List.of_mem_zip hv).1,if_neg hk];simp
 | p :: P,w :: vs,i + 1,m,nd,h1,h2,hk=>by
  show bindC kindOf ((p,w) :: P.zip vs) m x=_;unfold bindC;exact ze1 (i:=i) (List.nodup_cons.mp nd).2 (by simpa using h1) (by simpa using h2) hk
def start (N:List Str) (vs:List V):St:=vs.map some ++ List.replicate (N.length - vs.length) none
def cxOf (CX:CXT) (P:Program) (w:World) (K:PySem.W.Frag) (mg:Str->Option Value) (base:Heap) (N:List Str) (qual:Str) (scope:Scope) (f:Addr) (cd:Value) (A:Around) (outer:List Env) (s:Shared) (H:Hp) (E:XK):Cx where
 prog:=P
 w:=w
 K:=K
 mg:=mg
 base:=base
 A:=A.deeper (envOfC qual scope s.heap.objs.size f cd)
 N:=N
 s₀:=s
 H₀:=H
 env:=envOfC qual scope s.heap.objs.size f cd
 outer:=outer
 stack:=envOfC qual scope s.heap.objs.size f cd :: outer
 ex:=[]
 calm:=true
 fn:=λ _=>true
 pn:=[]
 xe:=λ e s'=>wpAny (model P w) (A.deeper (envOfC qual scope s.heap.objs.size f cd)) (leaving (envOfC qual scope s.heap.objs.size f cd) e) (λ _ s''=>CX outer H s E e s'') (λ e' s''=>CX outer H s E e' s'') s'
theorem sy0 {sc:Scope} {n:Nat} {x:Str} (h:sc.names.lookup x=some .cell):∃ c,(cellsFrom n sc.names []).lookup x=some c:=by
 have q:=cellsFrom_some sc.names n [] (.inl h);exact Option.isSome_iff_exists.mp q
theorem vd2 {CX:CXT} {P:Program} {w:World} {K:PySem.W.Frag} {mg:Str->Option Value} {base:Heap} {N ps:List Str} {qual:Str} {scope:Scope} {f:Addr} {cd:Value} {A:Around} {outer:List Env} {s s1:Shared} {H:Hp} {E:XK} {us:[24]} {vs:List V}
    (S:FnScope N ps scope) (hd:A.handled=none) (e0:Env0 P w K mg base A outer s H) (hl:vs.length=ps.length) (r:Vals vs us)
    (x:InCallC s s.heap.objs.size (bindL (envOfC qual scope s.heap.objs.size f cd).kindOf (ps.zip us) λ _=>none) (cellsFrom (s.heap.objs.size + 1) scope.names []) (bindC (envOfC qual scope s.heap.objs.size f cd).kindOf (ps.zip us) λ _=>none) s1) :
    Inv (cxOf CX P w K mg base N qual scope f cd A outer s H E) [] (start N vs) H s1:=by
 have hpl:ps.length<=N.length:=by have:=congrArg List.length S.pre; rw [length_take] at this; omega
 obtain ⟨h1,tk,rfl,hk⟩:=x.done;have noA:∀ b:Addr,b ∉ (cxOf CX P w K mg base N qual scope f cd A outer s H E).ex:=λ b z=>absurd (show b ∈ ([]:List Addr) from z) [16]
 refine ⟨⟨e0.mod,S.kind,rfl,rfl,Nat.le_refl _,λ y z c h1 h2=>?_,λ y hy=>?_,λ y c _ h=>?_,λ _=>hd,Around.frames_deeper e0.frames,.inr ⟨rfl,rfl⟩,λ b z=>absurd z (noA b),e0.bs,e0.bsz,λ b _ _=>noA b,λ b z=>absurd z (noA b),e0.funs,e0.frf⟩,
  rfl,e0.bare,Un.kept hk,⟨_,x.toInCall.ns,λ i y v h1 h2 h3=>?_⟩,λ y c h=>⟨_,x.cell y c h⟩,e0.hok.fresh [14],λ y c h=>?_,λ p hp=>absurd (show p ∈ ([]:List (Addr × Obj)) from hp) [16],e0.hok.kept hk,?_⟩
 ·exact name_of_addr x.apart (PySem.mem_of_lookup h1) (PySem.mem_of_lookup h2)
 ·have hy:scope.names.lookup y=some .cell \/ scope.names.lookup y=some .free:=hy;rcases hy with hy | hy
  ·exact sy0 hy
  ·exact absurd rfl (S.nofree _ (PySem.mem_of_lookup hy))
 ·exact Nat.le_of_lt (x.above y c (PySem.mem_of_lookup h))
 ·have hi:i < vs.length:=by
    unfold start at h2;by_cases hi:i < vs.length
    ·exact hi
    ·rw [List.getElem?_append_right (by simpa using hi)] at h2;rw [List.getElem?_replicate] at h2;split at h2 <;> cases h2
  have ha:vs[i]?=some v:=by
   unfold start at h2;rw [getElem?_append_left (by simpa using hi),getElem?_map] at h2;cases e:vs[i]? with
   | none=>rw [e] at h2; cases h2
   | some a=>rw [e] at h2; cases h2; rfl
  obtain ⟨u,hu,rv⟩:=r.get ha
  have hp:ps[i]?=some y:=by
   rw [<- S.pre,List.getElem?_take_of_lt [2]]; exact h1
  have ndP:ps.Nodup:=by rw [<- S.pre]; exact S.nd.sublist (List.take_sublist _ _)
  refine ⟨u,rv,?_⟩;rcases S.par y (mem_of_getElem? hp) with k | k
  ·exact .inl ⟨k,xe1 ndP hp hu k⟩
  ·obtain ⟨c,e⟩:=sy0 (n:=s.heap.objs.size + 1) k;refine .inr ⟨.inl k,c,e,?_⟩;have q:=x.cell y c e;rw [ze1 ndP hp hu (by show scope.names.lookup y ≠ _; rw [k]; decide)] at q;exact q
 ·exact e0.hok.fresh (Nat.le_of_lt (x.above y c (PySem.mem_of_lookup h)))
 ·unfold start;show _=N.length;rw [length_append,length_map,List.length_replicate];omega
theorem vv4 {CX:CXT} {P:Program} {w:World} {K:PySem.W.Frag} {mg:Str->Option Value} {base:Heap} {k:Nat} {f:Addr} {name qual:Str} {params:Arguments} {body:List Stmt} {scope:Scope} {dV kV doc pm cdv ct oc:Value} {an od:Option Addr}
    {osl:Array (Option Value)} {N ps:List Str} {sp:Sp} (lk:K.lookup f=some ⟨oc,od,.func (fnOf name qual params body scope dV kV doc pm an cdv ct),osl⟩) (hcd:codeIn K cdv qual=true) (S:FnScope N ps scope)
    (len:∀ vs H Q E,sp vs H Q E->vs.length=ps.length)
    (hbody:∀ (A:Around) (outer:List Env) (s:Shared) (H:Hp) (vs:List V) (Q:VK) (E:XK),Room k (A.deeper (envOfC qual scope s.heap.objs.size f cdv))->sp vs H Q E ->
     ∃ t,PSs (cxOf CX P w K mg base N qual scope f cdv A outer s H E) body t /\ t { nx:=λ _ H'=>Q .non H',rt:=Q } (start N vs) H) :
    FnOk P w K mg base CX (k + 1) f (fnOf name qual params body scope dV kV doc pm an cdv ct) ps sp:=by
 refine ⟨len,λ A outer s H args us vs Q E hr e0 hb r hsp=>?_⟩;have hl:=len _ _ _ _ hsp;have KX:K.In s.heap:=e0.mod.kin.keeps λ b o e=>(e0.bs b o e).1;have lim:s.heap.NoLimit:=e0.mod.nolimit.keeps λ b o e=>(e0.bs b o e).1
 have hkind:∀ y ∈ ps.zip us,scope.names.lookup y.1=some .local \/ (scope.names.lookup y.1=some .cell /\ ((cellsFrom (s.heap.objs.size + 1) scope.names []).lookup y.1).isSome=true):=λ ⟨n,v⟩ hy=>by
  rcases S.par n (List.of_mem_zip hy).1 with q | q
  ·exact .inl q
  ·exact .inr ⟨q,cellsFrom_some _ _ _ (.inl q)⟩
 refine codeAny_call_function hr.depth (KX _ _ lk) rfl S.co S.gen rfl (PySem.W.codeRec_of KX hcd) (hb _ _ _ _ ?_);refine wpAny_newFunctionEnv_cells S.kind hkind λ env he s1 x=>?_;subst he;refine ⟨lim.keeps x.toInCall.keep,codeAny_func ?_⟩;obtain ⟨t,ht,hq⟩:=hbody A outer s H vs Q E (hr.deeper _) hsp;have I:Inv (cxOf CX P w K mg base N qual scope f cdv A outer s H E) [] (start N vs) H s1:=vd2 S hr.hd e0 hl r x;refine wpAny_mono (ht [] s1 (start N vs) H _ I hq) (λ fl s' hs=>?_) λ e s' hs=>hs
 have fin:∀ {σ':St} {H':Hp} {v:V} {u:Value},Inv (cxOf CX P w K mg base N qual scope f cdv A outer s H E) [] σ' H' s'->RelV v u->Q v H'->CE outer P w H s Q u s' :=
  λ {σ' H' v u} J rv q=>⟨v,H',J.os,J.bare,J.base,J.hok,rv,q⟩
 cases fl with
 | ret u =>
  obtain ⟨v,σ',H',J,rv,q⟩:=hs;exact fin J rv q
 | next =>
  obtain ⟨σ',H',J,q⟩:=hs;exact fin (v:=V.non) (u:=Value.none) J rfl q
 | brk =>
  obtain ⟨_,_,_,q⟩:=hs;exact False.elim q
 | cont =>
  obtain ⟨_,_,_,q⟩:=hs;exact False.elim q
section
variable {X:Cx} {x:Str} {p pos:Pos} {e:Expr} {es:List Expr} {t:TA} {id T:String} {r:List V->Hp->VK->Prop}
def tCB (r:List V->Hp->VK->Prop) (t:TA):TE:=λ σ H Q=>t σ H λ vs H1=>r vs H1 Q
theorem yo2 (hc:CallR X (.builtin id) r) (hg:Gl X x) (hm:X.mg x=none) (hv:bootBuiltins x=some (.builtin id)) (ha:PA X (e :: es) t) (hn:x ≠ "__name__" := by decide) (hdb:(x == ("__debug__" : Str))=false:=by decide)
    (he:starEach (e :: es) X.env=[35] :: starEach es X.env:=by rfl) (hpl:(backTo pos (starEach es X.env)).any (·.1)=false:=by rfl):PE X (.Call (.Name x p) (e :: es) [] pos) (tCB r t):=by
 intro pins s σ H Q I h;refine wpAny_Call_Name_kw (yl0 I hg hm hv ?_ hn hdb);exact PyProof.Rows.callWith_builtin1 (thn (ha pos pins s σ H _ I h) λ us s1 ⟨vs,H1,I1,r1,q1⟩=>hc pins s1 σ H1 vs us Q I1 r1 q1) he hpl
theorem ya2 (hc:CallR X (.type T) r) (hg:Gl X x) (hm:X.mg x=none) (hv:bootBuiltins x=some (.type T)) (ha:PA X (e :: es) t) (hn:x ≠ "__name__" := by decide) (hdb:(x == ("__debug__" : Str))=false:=by decide)
    (he:starEach (e :: es) X.env=[35] :: starEach es X.env:=by rfl) (hpl:(backTo pos (starEach es X.env)).any (·.1)=false:=by rfl):PE X (.Call (.Name x p) (e :: es) [] pos) (tCB r t):=by
 intro pins s σ H Q I h;refine wpAny_Call_Name_kw (yl0 I hg hm hv ?_ hn hdb);exact PyProof.Rows.callWith_type1 (thn (ha pos pins s σ H _ I h) λ us s1 ⟨vs,H1,I1,r1,q1⟩=>hc pins s1 σ H1 vs us Q I1 r1 q1) he hpl
end
end L2
namespace HT
open PySem PyProof.Rows
section
variable {prog:Program} {w:World} {A:Around} {E:[4]} {s:Shared}
theorem cat_tup {t b:Addr} {vs ws:[24]} {Q:[4]} (ht:IsTup s.heap t vs.toArray) (hb:IsTup s.heap b ws.toArray) (hv:vs ≠ [])
    (h1:ws=[]->Q (.ref t) s) (h2:ws ≠ []->Q (.ref s.heap.objs.size) { s with heap:=s.heap.push { cls:=.type "tuple",data:=.seq (vs ++ ws).toArray } })
    (hsz:vs.length + ws.length<=sizeLine):wpAny [11] A (binaryOp .Add (.ref t) (.ref b)) Q E s:=by
 obtain ⟨⟨cls,dd,data,sl⟩,ho,hc,n,hd⟩:=id ht;obtain ⟨⟨cls2,dd2,data2,sl2⟩,ho2,hc2,n2,hd2⟩:=id hb;simp only at hc hd hc2 hd2;subst hc hd hc2 hd2;have e:vs.toArray ++ ws.toArray=(vs ++ ws).toArray:=by simp
 by_cases hw:ws=[]
 ·exact concat_meets ⟨_,ho,rfl⟩ ⟨_,ho2,rfl⟩ noFill_tuple_add seq_tuple_add slot_tuple_add entry_tuple_add (args_tuple_add_2 _ _)
    (tuple_addW1 t b vs.toArray ws.toArray n n2 dd dd2 sl sl2 (by simpa using hv) (by simp [hw])) ⟨ho,ho2,h1 hw⟩
 ·refine concat_meets ⟨_,ho,rfl⟩ ⟨_,ho2,rfl⟩ noFill_tuple_add seq_tuple_add slot_tuple_add entry_tuple_add (args_tuple_add_2 _ _)
    (tuple_addW2 t b vs.toArray ws.toArray n n2 dd dd2 sl sl2 (by simpa using hv) (by simpa using hw) (by rw [size_toArray,size_toArray]; exact hsz)) ⟨ho,ho2,?_⟩
  rw [e];exact h2 hw
def sIx (n d:Nat):Option Int->Nat
 | none=>d
 | some v=>if v < 0 then (v + (n:Int)).toNat else min v.toNat n
theorem yu3 (n d:Nat) (hd:d<=n) (o:Option Int):sIx n d o<=n:=by
 cases o with
 | none=>exact hd
 | some v =>
  show (if v < 0 then (v + (n:Int)).toNat else min v.toNat n)<=n;by_cases hv:v < 0
  ·rw [if_pos hv]; omega
  ·rw [if_neg hv]; exact Nat.min_le_right _ _
theorem uh2 (v:Int) (n d:Nat):(if v < 0 then max (v + (n:Int)) 0 else min v (n:Int))=((sIx n d (some v):Nat):Int):=by
 show (if v < 0 then max (v + (n:Int)) 0 else min v (n:Int))=(((if v < 0 then (v + (n:Int)).toNat else min v.toNat n):Nat):Int);by_cases hv:v < 0
 ·simp only [if_pos hv]; omega
 ·simp only [if_neg hv]; omega
theorem wt1 (lo hi:Option Int) (n:Nat):Builtin.Slice.sliceAdjust lo hi 1 (n:Int)=(((sIx n 0 lo:Nat):Int),((sIx n n hi:Nat):Int)):=by
 have h1:¬ ((1:Int) < 0):=by omega
 unfold Builtin.Slice.sliceAdjust;simp only [h1,if_false];refine Prod.ext ?_ ?_
 ·cases lo with
  | none=>rfl
  | some v=>exact uh2 v n 0
 ·cases hi with
  | none=>rfl
  | some v=>exact uh2 v n n
theorem vr1 (i j:Nat):Builtin.Slice.slicePlaces (i:Int) (j:Int) 1=j - i:=by
 unfold Builtin.Slice.slicePlaces;have h1:(1:Int) > 0:=by omega
 simp only [h1,if_true,Int.ediv_one];split <;> omega
theorem tu0 {v:Value} {o:Option Int} {Q:Option Int->Shared->Prop} (p:IsPart v o) (h:Q o s):wpAny [11] A (Builtin.Slice.slicePartIndex v) Q E s:=by
 cases p with
 | none=>exact slicePart_none h
 | int i t=>exact slicePart_int h
theorem sliceApplied_gen {sl:Addr} {vl vu:Value} {lo hi:Option Int} {n:Nat} {Q:Int × Int × Nat->Shared->Prop} (hs:s.heap.IsSliceOf sl vl vu .none) (pl:IsPart vl lo) (pu:IsPart vu hi)
    (h:Q (((sIx n 0 lo:Nat):Int),1,sIx n n hi - sIx n 0 lo) s):wpAny [11] A (Builtin.Slice.sliceApplied (.ref sl) (pure (n:Int))) Q E s:=by
 obtain ⟨os,hos,hcs,hds⟩:=id hs;unfold Builtin.Slice.sliceApplied Builtin.Slice.sliceFields;refine wpAny_bind (wpAny_bind (wpAny_field hos hds (x:=vl) rfl (wpAny_bind (wpAny_field hos hds (x:=vu) rfl (wpAny_bind (wpAny_field hos hds (x:=.none) rfl [17]))))));refine wpAny_bind (slicePart_none ?_);show wpAny _ _ (if ((1:Int) == 0)=true then _ else _) _ _ s;rw [if_neg [7]];refine wpAny_bind (tu0 pl (wpAny_bind (tu0 pu (wpAny_bind [17]))));show wpAny _ _ (match Builtin.Slice.sliceAdjust lo hi 1 (n:Int) with | (lo,hi)=>pure (lo,(1:Int),Builtin.Slice.slicePlaces lo hi 1)) _ _ s;rw [wt1 lo hi n];show wpAny _ _ (pure (((sIx n 0 lo:Nat):Int),(1:Int),Builtin.Slice.slicePlaces ((sIx n 0 lo:Nat):Int) ((sIx n n hi:Nat):Int) 1)) _ _ s;rw [vr1];exact wpAny_pure h
theorem zn2 (xs:Array Value) (i k:Nat):((List.range k).filterMap λ (m:Nat)=>xs[((i:Int) + (m:Int) * 1).toNat]?).toArray=((xs.toList.drop i).take k).toArray:=by
 have e:(λ (m:Nat)=>xs[((i:Int) + (m:Int) * 1).toNat]?)=λ m=>xs[i + m]?:=by
  funext m;have:((i:Int) + (m:Int) * 1).toNat=i + m:=by omega
  rw [this]
 rw [e];have:=pick_run xs i k;rw [List.filterMap_map] at this;have e2:((λ x=>xs[x]?) ∘ λ x=>i + x)=λ m=>xs[i + m]?:=rfl;rw [e2] at this;rw [this]
theorem getItem_tuple_cut {t sl:Addr} {items:Array Value} {vl vu:Value} {lo hi:Option Int} {Q:[4]} (ht:IsTup s.heap t items) (hs:s.heap.IsSliceOf sl vl vu .none) (pl:IsPart vl lo) (pu:IsPart vu hi)
    (hw:¬ (sIx items.size 0 lo=0 /\ sIx items.size items.size hi=items.size))
    (h:Q (.ref s.heap.objs.size) { s with heap:=s.heap.push { cls:=.type "tuple",data:=.seq ((items.toList.drop (sIx items.size 0 lo)).take (sIx items.size items.size hi - sIx items.size 0 lo)).toArray } })
    (hsz:items.size<=sizeLine):wpAny [11] A (getItem (.ref t) (.ref sl)) Q E s:=by
 have htake:sizeOk (.seq ((items.toList.drop (sIx items.size 0 lo)).take (sIx items.size items.size hi - sIx items.size 0 lo)).toArray):=by
  show ((items.toList.drop (sIx items.size 0 lo)).take (sIx items.size items.size hi - sIx items.size 0 lo)).toArray.size<=sizeLine;rw [size_toArray,length_take,length_drop,length_toList];omega
 have hj:sIx items.size items.size hi<=items.size:=yu3 _ _ [14] hi;obtain ⟨os,hos,hcs,hds⟩:=id hs;have hTs:s.TypeIs (.ref sl) "slice" := ⟨os,hos,hcs⟩;unfold getItem
 try with_reducible refine wpAny_holding ?_
 first | refine wpAny_bind [17] | skip
 refine wpAny_bind (wpAny_sequenceKey ht.typeIs [7] ?_)
 refine wpAny_bind (wpAny_callSpecial?_slot (name:=Str.ofString "__getitem__") ht.typeIs PyProof.Rows.slot_tuple_getitem
  (wpAny_call_entry PyProof.Rows.slot_tuple_getitem ht.typeIs entry_tuple_getitem ?_ (args_tuple_getitem _ _)))
 show wpAny _ _ (Builtin.Tuple.tupleItemsOf (.ref t) >>= _) _ _ s;refine wpAny_bind (tupleItemsOf_ ht ?_);refine wpAny_bind (wpAny_typeOf hTs ?_);rw [if_pos [7]];refine wpAny_bind (sliceApplied_gen hs pl pu ?_)
 have hno:¬ ((((sIx items.size 0 lo:Nat):Int) == 0 && (1:Int) == 1 && (sIx items.size items.size hi - sIx items.size 0 lo) == items.size)=true):=by
  intro q;rw [Bool.and_eq_true,Bool.and_eq_true] at q;have q1:((sIx items.size 0 lo:Nat):Int)=0:=eq_of_beq q.1.1;have q2:sIx items.size items.size hi - sIx items.size 0 lo=items.size:=eq_of_beq q.2;exact hw ⟨by omega,by omega⟩
 show wpAny _ _ (if (((sIx items.size 0 lo:Nat):Int) == 0 && (1:Int) == 1 && (sIx items.size items.size hi - sIx items.size 0 lo) == items.size)=true then _ else _) _ _ s;rw [if_neg hno,zn2]
 first
  | exact wpAny_bind (m:=Builtin.Tuple.tupleExact _) (wpAny_newObj_type (wpAny_pure ⟨_,rfl,wpAny_pure h⟩) htake)
  | exact wpAny_bind (m:=Builtin.Tuple.tupleExact _) (wpAny_newObj_type (wpAny_bind (wpAny_pure (wpAny_pure ⟨_,rfl,wpAny_pure h⟩))) htake)
  | exact wpAny_bind (wpAny_bind (m:=Builtin.Tuple.tupleExact _) (wpAny_newObj_type (wpAny_pure (wpAny_pure ⟨_,rfl,wpAny_pure h⟩)) htake))
  | exact wpAny_bind (wpAny_bind (m:=Builtin.Tuple.tupleExact _) (wpAny_newObj_type (wpAny_pure ⟨_,rfl,wpAny_pure h⟩) htake))
end
end HT
namespace L2
open PySem PySem.Spec PyProof.Rows
abbrev TO:=St->Hp->(Option Int->Hp->Prop)->Prop
def PO (X:Cx) (e:Option Expr) (t:TO):Prop :=
 ∀ (pins:[5]) (s:Shared) (σ:St) (H:Hp) (Q:Option Int->Hp->Prop),Inv X pins σ H s->t σ H Q ->
  wpAny [9] X.A (evalPart e X.env) (λ u s'=>∃ o H',Inv X pins σ H' s' /\ IsPart u o /\ Q o H') X.xe s
def ya3:TO:=λ _ H Q=>Q none H
def wm4 (t:TE):TO:=λ σ H Q=>t σ H λ x H1=>∃ i,x=.int i /\ Q (some i) H1
theorem us1 {ns:List Int}:∀ {us:[24]},Vals (ns.map V.int) us->IntsAre us ns:=by
 induction ns with
 | nil=>intro us r; rw [map_nil] at r; cases r; exact .nil
 | cons n ns ih =>
  intro us r;rw [map_cons] at r;cases r with
  | cons r1 r2 =>
   obtain ⟨t,e⟩:=r1;subst e;exact .cons n t (ih r2)
section
variable {X:Cx} {e:Expr} {te:TE} {lo hi:Option Expr} {tl th:TO} {pos p2:Pos}
theorem ue3:PO X none ya3:=by
 intro pins s σ H Q I h;rw [evalPart_none];exact wpAny_pure ⟨none,H,I,.none,h⟩
theorem ve3 (h:PE X e te):PO X (some e) (wm4 te):=by
 intro pins s σ H Q I hw;rw [evalPart_some];refine thn (h pins s σ H _ I hw) λ u s1 ⟨x,H1,I1,r1,q1⟩=>?_;obtain ⟨i,rfl,q⟩:=q1;obtain ⟨t,rfl⟩:=r1;exact ⟨some i,H1,I1,.int i t,q⟩
def SlR (X:Cx) (r:V->Option Int->Option Int->Hp->VK->Prop):Prop :=
 ∀ (pins:[5]) (s:Shared) (σ:St) (H:Hp) (x:V) (v vl vu:Value) (lo hi:Option Int) (sl:Addr) (Q:VK),Inv X pins σ H s->RelV x v->s.heap.IsSliceOf sl vl vu .none->IsPart vl lo->IsPart vu hi->r x lo hi H Q ->
  ∃ T id,typeLookup (.type T) "__getitem__" = pure (some (.builtin id)) /\ s.TypeIs v T /\ wpAny [9] X.A (getItem v (.ref sl)) (EP X pins σ Q) X.xe s
theorem SlR.or {r r':V->Option Int->Option Int->Hp->VK->Prop} (h:SlR X r) (h':SlR X r'):SlR X (λ x lo hi H Q=>r x lo hi H Q \/ r' x lo hi H Q):=by
 intro pins s σ H x v vl vu lo hi sl Q I rx hs pl pu q;rcases q with q | q
 ·exact h pins s σ H x v vl vu lo hi sl Q I rx hs pl pu q
 ·exact h' pins s σ H x v vl vu lo hi sl Q I rx hs pl pu q
def tSl (r:V->Option Int->Option Int->Hp->VK->Prop) (te:TE) (tl th:TO):TE:=λ σ H Q=>te σ H λ x H1=>tl σ H1 λ l H2=>th σ H2 λ u H3=>r x l u H3 Q
theorem un2 {r:V->Option Int->Option Int->Hp->VK->Prop} (hr:SlR X r) (he:PE X e te) (hl:PO X lo tl) (hu:PO X hi th):PE X (.Subscript e (.Slice lo hi none p2) pos) (tSl r te tl th):=by
 intro pins s σ H Q I h;refine Subscript_ (thn (he pins s σ H _ I h) λ v s1 ⟨x,H1,I1,r1,q1⟩=>?_);refine wpAny_Slice (thn (hl pins s1 σ H1 _ I1 q1) λ vl s2 ⟨l,H2,I2,pl,q2⟩=>thn (hu pins s2 σ H2 _ I2 q2) λ vu s3 ⟨u,H3,I3,pu,q3⟩=>?_);rw [evalPart_none];refine wpAny_pure ?_;have I4:Inv X pins σ H3 { s3 with heap:=s3.heap.push { cls:=.type "slice",data:=.fields #[vl,vu,.none] } }:=I3.kept (t':=s3.toks) λ b ob q=>Heap.get?_push_of_some _ q;obtain ⟨T,id,hT,ht,hg⟩:=hr pins { s3 with heap:=s3.heap.push { cls:=.type "slice",data:=.fields #[vl,vu,.none] } } σ H3 x v vl vu l u s3.heap.objs.size Q I4 r1 (Heap.IsSliceOf.new ..) pl pu q3;show wpAny [9] X.A (subscriptTail e (.Slice lo hi none p2) v (.ref s3.heap.objs.size)) (EP X pins σ Q) X.xe { s3 with heap:=s3.heap.push { cls:=.type "slice",data:=.fields #[vl,vu,.none] } };exact tail_any (ops:=[.ref s3.heap.objs.size,v]) ht hT hg (by with_unfolding_all rfl)
def cutV (xs:List V) (lo hi:Option Int):List V:=(xs.drop (HT.sIx xs.length 0 lo)).take (HT.sIx xs.length xs.length hi - HT.sIx xs.length 0 lo)
theorem zt0 (xs:List V) (lo hi:Option Int):(cutV xs lo hi).length<=xs.length:=by
 unfold cutV;rw [length_take,length_drop];omega
def rSlT (K:PySem.W.Frag):V->Option Int->Option Int->Hp->VK->Prop:=λ x lo hi H Q=>∃ a xs,x=.ref a /\ SqT K H a xs ∧
 ¬ (HT.sIx xs.length 0 lo=0 /\ HT.sIx xs.length xs.length hi=xs.length) /\ ∀ p,H p=none->Q (.ref p) (upd H p (.tup (cutV xs lo hi)))
theorem ws3:SlR X (rSlT X.K):=by
 intro pins s σ H x v vl vu lo hi sl Q I rx hs pl pu h;obtain ⟨a,xs,rfl,hx,hw,q⟩:=h;cases rx;obtain ⟨its,r,ht,hz⟩:=I.tuple hx;have hlen:its.toArray.size=xs.length:=by rw [size_toArray]; exact r.length.symm
 refine ⟨"tuple",_,PyProof.Rows.slot_tuple_getitem.lookup,ht.typeIs,?_⟩;refine HT.getItem_tuple_cut ht hs pl pu (by rw [hlen]; exact hw) ?_ (by rw [hlen]; exact hz);rw [hlen];refine ⟨.ref s.heap.objs.size,_,I.laid (t':=s.toks) (o:=.tup (cutV xs lo hi)) (λ b ob q=>Heap.get?_push_of_some _ q) [14] ?_,rfl,q _ (I.hok.fresh [14])⟩;exact ⟨Nat.le_trans (zt0 xs lo hi) hz,_,(r.drop (HT.sIx xs.length 0 lo)).take (HT.sIx xs.length xs.length hi - HT.sIx xs.length 0 lo),IsTup.new _ _⟩
def tr4 (K:PySem.W.Frag):R2:=λ x y H Q=>∃ a b xs ys,x=.ref a /\ y=.ref b /\ SqT K H a xs /\ SqT K H b ys /\ xs ≠ [] /\ xs.length + ys.length<=sizeLine ∧
 (ys=[]->Q (.ref a) H) /\ (ys ≠ []->∀ p,H p=none->Q (.ref p) (upd H p (.tup (xs ++ ys))))
theorem Vals.nil_iff {xs:List V} {us:[24]} (r:Vals xs us):us=[] ↔ xs=[]:=by
 cases r with
 | nil=>simp
 | cons _ _=>simp
theorem ug3:OpR X (binaryOp .Add) (tr4 X.K):=by
 intro pins s σ H x y v u Q I rx ry h;obtain ⟨a,b,xs,ys,rfl,rfl,ha,hb,hx,hz,q1,q2⟩:=h;cases rx;cases ry;obtain ⟨its,r1,p1,_⟩:=I.tuple ha;obtain ⟨its2,r2,p2,_⟩:=I.tuple hb;refine HT.cat_tup p1 p2 (λ z=>hx (r1.nil_iff.mp z)) (λ z=>⟨.ref a,H,I,rfl,q1 (r2.nil_iff.mp z)⟩) (λ z=>?_) (by rw [<- r1.length,<- r2.length]; exact hz);refine ⟨.ref s.heap.objs.size,_,I.laid (t':=s.toks) (o:=.tup (xs ++ ys)) (λ b ob q=>Heap.get?_push_of_some _ q) [14] ?_,rfl,q2 (λ w=>z (r2.nil_iff.mpr w)) _ (I.hok.fresh [14])⟩;exact ⟨by rw [length_append]; exact hz,_,r1.append r2,IsTup.new _ _⟩
end
def ixN (n:Nat) (i:Int):Option Nat:=if 0<=i then (if i < n then some i.toNat else none) else if -(n:Int)<=i then some (i + n).toNat else none
def atI {α:Type} (xs:List α) (i:Int):Option α:=(ixN xs.length i).bind λ j=>xs[j]?
theorem xd2 {n:Nat} {i:Int} {j:Nat} (h:ixN n i=some j):seqIndex? i n=some j /\ j < n /\ -(n:Int)<=i /\ i < n:=by
 unfold ixN at h;by_cases h0:0<=i
 ·rw [if_pos h0] at h;by_cases h1:i < n
  ·rw [if_pos h1] at h;have e:i.toNat=j:=Option.some.inj h;exact ⟨by rw [seqIndex_of h0 h1,e],by omega,by omega,h1⟩
  ·rw [if_neg h1] at h; cases h
 ·rw [if_neg h0] at h;by_cases h1 : -(n:Int)<=i
  ·rw [if_pos h1] at h;have e:(i + n).toNat=j:=Option.some.inj h;exact ⟨by rw [seqIndex_neg [2] h1,e],by omega,h1,by omega⟩
  ·rw [if_neg h1] at h; cases h
theorem yj2 {α:Type} {xs:List α} {i:Int} {v:α} (h:atI xs i=some v):∃ j,seqIndex? i xs.length=some j /\ xs[j]?=some v /\ j < xs.length /\ -(xs.length:Int)<=i /\ i < xs.length:=by
 unfold atI at h;cases e:ixN xs.length i with
 | none=>rw [e] at h; cases h
 | some j =>
  rw [e] at h;obtain ⟨h1,h2,h3,h4⟩:=xd2 e;exact ⟨j,h1,h,h2,h3,h4⟩
def vj2 (b:Expr):Prop:=∀ o i,subscripted b false o i=operate [o,i] (getItem o i)
def IxR (X:Cx) (r:R2):Prop :=
 ∀ (value slice:Expr) (pins:[5]) (s:Shared) (σ:St) (H:Hp) (x y:V) (v u:Value) (Q:VK),Inv X pins σ H s->RelV x v->RelV y u->r x y H Q ->
  subscripted slice false v u=operate [v,u] (getItem v u)->wpAny [9] X.A (subscriptTail value slice v u) (EP X pins σ Q) X.xe s
def MtR (X:Cx) (id:String) (r:V->List V->Hp->VK->Prop):Prop :=
 ∀ (pins:[5]) (s:Shared) (σ:St) (H:Hp) (x:V) (xs:List V) (v:Value) (us:[24]) (Q:VK),Inv X pins σ H s->RelV x v->Vals xs us->r x xs H Q ->
  wpAny [9] X.A (call (.builtin id) (v :: us)) (EP X pins σ Q) X.xe s
section
variable {X:Cx} {a b:Expr} {ta tb:TE} {pos:Pos}
theorem IxR.or {r r':R2} (h:IxR X r) (h':IxR X r'):IxR X (λ x y H Q=>r x y H Q \/ r' x y H Q):=by
 intro value slice pins s σ H x y v u Q I rx ry q hs;rcases q with q | q
 ·exact h value slice pins s σ H x y v u Q I rx ry q hs
 ·exact h' value slice pins s σ H x y v u Q I rx ry q hs
theorem wt4 {r:R2} (hr:IxR X r) (ha:PE X a ta) (hb:PE X b tb) (hs:vj2 b):PE X (.Subscript a b pos) (tOp r ta tb):=by
 intro pins s σ H Q I h;exact Subscript_ (binT ha hb I h λ v u s2 x y H2 I2 rx ry q=>hr a b pins s2 σ H2 x y v u Q I2 rx ry q (hs _ _))
def rIxL (K:PySem.W.Frag):R2:=λ x y H Q=>∃ p xs i v,x=.ref p /\ y=.int i /\ SqL K H p xs /\ atI xs i=some v /\ Q v H
def rIxT (K:PySem.W.Frag):R2:=λ x y H Q=>∃ p xs i v,x=.ref p /\ y=.int i /\ SqT K H p xs /\ atI xs i=some v /\ Q v H
theorem ix_list:IxR X (rIxL X.K):=by
 intro value slice pins s σ H x y v u Q I rx ry h hs;obtain ⟨p,xs,i,z,rfl,rfl,hq,he,q⟩:=h;cases rx;obtain ⟨t,rfl⟩:=ry;obtain ⟨its,r,pl,hz⟩:=I.list hq;obtain ⟨j,h1,h2,h3,h4,h5⟩:=yj2 he;obtain ⟨w,ew,rw'⟩:=r.get h2;have hl:=r.length;have hn:=zv0;have fin:EP X pins σ Q w s:=⟨z,H,I,rw',q⟩;by_cases h0:0<=i
 ·have hj:i.toNat=j:=by
    rw [seqIndex_of h0 h5] at h1;exact Option.some.inj h1
  exact item_listR pl.isList h0 [2] (by rw [hj]; simpa using ew) fin hs
 ·have hj:(i + (its.toArray.size:Int)).toNat=j:=by
    rw [seqIndex_neg [2] h4] at h1;rw [size_toArray,<- hl];exact Option.some.inj h1
  exact subscriptTail_builtinR (x:=w) pl.isList.typeIs slot_list_getitem.lookup
   (wpAny_getItem_list_neg (Q:=λ r s'=>r=w /\ EP X pins σ Q r s') pl.isList [2] (by rw [size_toArray] <;> omega) [2] (by rw [hj]; simpa using ew) ⟨rfl,fin⟩) hs
theorem uh4:IxR X (rIxT X.K):=by
 intro value slice pins s σ H x y v u Q I rx ry h hs;obtain ⟨p,xs,i,z,rfl,rfl,hq,he,q⟩:=h;cases rx;obtain ⟨t,rfl⟩:=ry;obtain ⟨its,r,pl,hz⟩:=I.tuple hq;obtain ⟨j,h1,h2,h3,h4,h5⟩:=yj2 he;obtain ⟨w,ew,rw'⟩:=r.get h2;have hl:=r.length;have hn:=zv0;have fin:EP X pins σ Q w s:=⟨z,H,I,rw',q⟩
 exact subscriptTail_builtinR (x:=w) pl.typeIs slot_tuple_getitem.lookup
  (getItem_tuple (j:=j) (Q:=λ r s'=>r=w /\ EP X pins σ Q r s') pl [2] [2] (by rw [size_toArray,<- hl]; exact h1) (by simpa using ew) ⟨rfl,fin⟩) hs
theorem ys1 (its:[24]) (n j:Nat) (u:Value):Obj.mapSeq (·.setIfInBounds j u) { cls:=.type "list",data:=.seq its.toArray n }={ cls:=.type "list",data:=.seq (its.set j u).toArray n }:=by
 simp [Obj.mapSeq]
theorem Inv.lst {pins:[5]} {σ:St} {H:Hp} {s:Shared} {p:Addr} {xs:List V} (I:[6]) (h:H p=some (.lst xs)) :
    ∃ (its:[24]) (n:Nat),Vals xs its /\ s.heap.get? p=some { cls:=.type "list",data:=.seq its.toArray n } /\ xs.length<=sizeLine:=by
 obtain ⟨z,its,n,r,e⟩:=I.hok p _ h;exact ⟨its,n,r,e,z⟩
theorem Inv.lstUpd {pins:[5]} {σ:St} {H:Hp} {s:Shared} {p:Addr} {xs ys:List V} {its its':[24]} {n n':Nat} {f:Obj->Obj} (I:[6]) (h:H p=some (.lst xs))
    (ho:s.heap.get? p=some { cls:=.type "list",data:=.seq its.toArray n }) (hf:f { cls:=.type "list",data:=.seq its.toArray n }={ cls:=.type "list",data:=.seq its'.toArray n' }) (r:Vals ys its') (hz:ys.length<=sizeLine) (t:Nat) :
    Inv X pins σ (upd H p (.lst ys)) { s with heap:=s.heap.update p f,toks:=t }:=by
 have e:(s.heap.update p f).get? p=some { cls:=.type "list",data:=.seq its'.toArray n' }:=by
  rw [Heap.get?_update_self f ho (by rw [hf] <;> rfl),hf]
 refine I.write (x:=p) (e:=p) (by rw [h]; trivial) (.inl rfl) (λ b u hb q=>(Heap.get?_update_other _ _ (Ne.symm hb)).trans q) ⟨_,e⟩ ?_;exact ⟨hz,its',n',r,e⟩
def vr4:V->V->V->Hp->(Hp->Prop)->Prop:=λ o i v H Q=>∃ p xs k j,o=.ref p /\ i=.int k /\ H p=some (.lst xs) /\ ixN xs.length k=some j /\ Q (upd H p (.lst (xs.set j v)))
theorem uw0:PSet X vr4:=by
 intro pins s σ H o i v ov iv u Q I ro ri rv h;obtain ⟨p,xs,k,j,rfl,rfl,hp,hj,q⟩:=h;cases ro;obtain ⟨t,rfl⟩:=ri;obtain ⟨its,n,r,ho,hz⟩:=I.lst hp;obtain ⟨h1,h2,h3,h4⟩:=xd2 hj;have hl:=r.length;have hn:=zv0
 have I':Inv X pins σ (upd H p (.lst (xs.set j v))) { s with heap:=s.heap.update p (Obj.mapSeq (·.setIfInBounds j u)) } :=
  I.lstUpd hp ho (ys1 its n j u) (r.set rv j) (by rw [List.length_set]; exact hz) s.toks
 by_cases h0:0<=k
 ·have hk:k.toNat=j:=by
    rw [seqIndex_of h0 h4] at h1;exact Option.some.inj h1
  exact PySem.W.ki_setAt ho h0 [2] (by rw [size_toArray,<- hl]; exact h4) (by rw [hk]; exact ⟨_,I',q⟩)
 ·have hk:(k + (its.toArray.size:Int)).toNat=j:=by
    rw [seqIndex_neg [2] h3] at h1;rw [size_toArray,<- hl];exact Option.some.inj h1
  exact PySem.W.ki_setBack ho [2] (by rw [size_toArray,<- hl]; exact h3) [2] (by rw [hk]; exact ⟨_,I',q⟩)
theorem ta1 (lo hi:Option Int) (n:Nat):(sliceBounds lo hi none n).1=((HT.sIx n 0 lo:Nat):Int) /\ (sliceBounds lo hi none n).2.1=((HT.sIx n n hi:Nat):Int) /\ (sliceBounds lo hi none n).2.2=1:=by
 refine ⟨?_,?_,rfl⟩
 ·cases lo with
  | none=>simp [sliceBounds,HT.sIx]
  | some i =>
   simp only [sliceBounds,HT.sIx,Option.getD_none,show (1:Int) > 0 by decide,if_true];by_cases h:i < 0
   ·simp only [h,if_true] <;> omega
   ·simp only [h,if_false] <;> omega
 ·cases hi with
  | none=>simp [sliceBounds,HT.sIx]
  | some i =>
   simp only [sliceBounds,HT.sIx,Option.getD_none,show (1:Int) > 0 by decide,if_true];by_cases h:i < 0
   ·simp only [h,if_true] <;> omega
   ·simp only [h,if_false] <;> omega
theorem vw0 (its:[24]) (lo hi:Option Int):slicePick its.toArray lo hi none=((its.drop (HT.sIx its.length 0 lo)).take (HT.sIx its.length its.length hi - HT.sIx its.length 0 lo)).toArray:=by
 obtain ⟨h1,h2,h3⟩:=ta1 lo hi its.toArray.size;unfold slicePick;rw [h1,h2,h3];simp only [sliceRange_one,pick_run,size_toArray] <;> rfl
def rSlL (K:PySem.W.Frag):V->Option Int->Option Int->Hp->VK->Prop:=λ x lo hi H Q=>∃ a xs,x=.ref a /\ SqL K H a xs /\ ∀ p,H p=none->Q (.ref p) (upd H p (.lst (cutV xs lo hi)))
theorem zb3:SlR X (rSlL X.K):=by
 intro pins s σ H x v vl vu lo hi sl Q I rx hs pl pu h;obtain ⟨a,xs,rfl,hx,q⟩:=h;cases rx;obtain ⟨its,r,ht,hz⟩:=I.list hx;have hlen:=r.length;refine ⟨"list",_,slot_list_getitem.lookup,ht.isList.typeIs,?_⟩;refine wpAny_getItem_list_slice ht.isList hs pl pu .none [16] ?_ (by rw [size_toArray] <;> omega);rw [vw0,<- hlen];refine ⟨.ref s.heap.objs.size,_,I.laid (t':=s.toks) (o:=.lst (cutV xs lo hi)) (λ b ob q=>Heap.get?_push_of_some _ q) [14] ?_,rfl,q _ (I.hok.fresh [14])⟩;exact ⟨Nat.le_trans (zt0 xs lo hi) hz,_,0,(r.drop (HT.sIx xs.length 0 lo)).take (HT.sIx xs.length xs.length hi - HT.sIx xs.length 0 lo),Heap.get?_push_size _ rfl⟩
def yy0:V->Bool
 | .non=>true
 | .bl _=>true
 | .int _=>true
 | .str _=>true
 | _=>false
def eqV:V->V->Bool
 | .non,.non=>true
 | .bl a,.bl b=>a == b
 | .bl a,.int b=>(if a then 1 else 0) == b
 | .int a,.bl b=>a == (if b then 1 else 0)
 | .int a,.int b=>a == b
 | .str a,.str b=>a == b
 | _,_=>false
theorem zj4 {A:Around} {s:Shared} {y x:V} {u v:Value} (ry:RelV y u) (rx:RelV x v) (fy:yy0 y=true) (fx:yy0 x=true):SeqAt.EqAt A s u v (eqV y x):=by
 cases y with
 | non =>
  cases ry;cases x with
  | non=>cases rx; exact SeqAt.EqAt.same _
  | bl b=>cases rx; exact SeqAt.EqAt.none_bool b
  | int b=>obtain ⟨t,rfl⟩:=rx; exact SeqAt.EqAt.none_int b t
  | str b=>obtain ⟨t,rfl⟩:=rx; exact SeqAt.EqAt.none_str b t
  | _=>exact absurd (show false=true from fx) Bool.false_ne_true
 | bl a =>
  cases ry;cases x with
  | non=>cases rx; exact SeqAt.EqAt.bool_none a
  | bl b=>cases rx; exact SeqAt.EqAt.bool_bool a b
  | int b=>obtain ⟨t,rfl⟩:=rx; exact SeqAt.EqAt.bool_int a b t
  | str b=>obtain ⟨t,rfl⟩:=rx; exact SeqAt.EqAt.bool_str a b t
  | _=>exact absurd (show false=true from fx) Bool.false_ne_true
 | int a =>
  obtain ⟨t',rfl⟩:=ry;cases x with
  | non=>cases rx; exact SeqAt.EqAt.int_none a t'
  | bl b=>cases rx; exact SeqAt.EqAt.int_bool a t' b
  | int b=>obtain ⟨t,rfl⟩:=rx; exact SeqAt.EqAt.int_int a t' b t
  | str b=>obtain ⟨t,rfl⟩:=rx; exact SeqAt.EqAt.int_str a t' b t
  | _=>exact absurd (show false=true from fx) Bool.false_ne_true
 | str a =>
  obtain ⟨t',rfl⟩:=ry;cases x with
  | non=>cases rx; exact SeqAt.EqAt.str_none a t'
  | bl b=>cases rx; exact SeqAt.EqAt.str_bool a t' b
  | int b=>obtain ⟨t,rfl⟩:=rx; exact SeqAt.EqAt.str_int a t' b t
  | str b=>obtain ⟨t,rfl⟩:=rx; exact SeqAt.EqAt.str_str a t' b t
  | _=>exact absurd (show false=true from fx) Bool.false_ne_true
 | _=>exact absurd (show false=true from fy) Bool.false_ne_true
def eqU (x:V) (u:Value):Bool:=match u with
 | .none=>eqV .non x
 | .bool b=>eqV (.bl b) x
 | .int i _=>eqV (.int i) x
 | .str z _=>eqV (.str z) x
 | _=>false
theorem tx2 {x y:V} {u:Value} (r:RelV y u) (f:yy0 y=true):eqU x u=eqV y x:=by
 cases y with
 | non=>cases r; rfl
 | bl b=>cases r; rfl
 | int i=>obtain ⟨t,rfl⟩:=r; rfl
 | str z=>obtain ⟨t,rfl⟩:=r; rfl
 | _=>exact absurd (show false=true from f) Bool.false_ne_true
theorem yi1 {x:V}:∀ {xs:List V} {us:[24]},Vals xs us->xs.all yy0=true->us.any (eqU x)=xs.any λ y=>eqV y x
 | _,_,.nil,_=>rfl
 | y :: xs,u :: us,.cons r t,f=>by
  rw [List.all_cons,Bool.and_eq_true] at f;rw [any_cons,any_cons,tx2 r f.1,yi1 t f.2]
theorem ux0 {A:Around} {s:Shared} {x:V} {v:Value} (rx:RelV x v) (fx:yy0 x=true):∀ {xs:List V} {us:[24]},Vals xs us->xs.all yy0=true->∀ u ∈ us,SeqAt.EqAt A s u v (eqU x u)
 | _,_,.nil,_=>λ u hu=>by cases hu
 | y :: xs,u :: us,.cons r t,f=>λ u' hu=>by
  rw [List.all_cons,Bool.and_eq_true] at f;rcases List.mem_cons.mp hu with rfl | hu
  ·rw [tx2 r f.1]; exact zj4 r rx f.1 fx
  ·exact ux0 rx fx t f.2 u' hu
def inV (x:V) (xs:List V):Bool:=xs.any λ y=>eqV y x
def rIn (K:PySem.W.Frag) (neg:Bool):R2:=λ x y H Q=>∃ p xs,y=.ref p /\ (SqL K H p xs \/ SqT K H p xs) /\ yy0 x=true /\ xs.all yy0=true /\ Q (.bl (if neg then !inV x xs else inV x xs)) H
theorem op_notIn_seq:OpR X (compareOp .NotIn) (rIn X.K true):=by
 intro pins s σ H x y v u Q I rx ry h;obtain ⟨p,xs,rfl,hq,fx,fs,q⟩:=h;cases ry;rcases hq with hq | hq
 ·obtain ⟨its,r,pl,hz⟩:=I.list hq;refine SeqAt.notIn_listAt (eqU x) pl.isList (λ w hw=>ux0 rx fx r fs w (by simpa using hw)) ⟨.bl _,H,I,rfl,?_⟩;rw [show its.toArray.any (eqU x)=its.any (eqU x) by simp,yi1 r fs];exact q
 ·obtain ⟨its,r,pl,hz⟩:=I.tuple hq;refine SeqAt.notIn_tupleAt (eqU x) pl (λ w hw=>ux0 rx fx r fs w (by simpa using hw)) ⟨.bl _,H,I,rfl,?_⟩;rw [show its.toArray.any (eqU x)=its.any (eqU x) by simp,yi1 r fs];exact q
theorem tb1:OpR X (compareOp .NotIn) (λ x y H Q=>∃ i j,x=.str i /\ y=.str j /\ Q (.bl (!(!(Builtin.Str.occurrences j i 0 j.length 1).isEmpty))) H):=by
 intro pins s σ H x y v u Q I rx ry h;obtain ⟨i,j,rfl,rfl,q⟩:=h;obtain ⟨t,rfl⟩:=rx;obtain ⟨t',rfl⟩:=ry;exact notIn_str ⟨.bl _,H,I,rfl,q⟩
theorem call_len_seq:CallR X (.builtin "len") (λ xs H Q=>∃ p ys,xs=[.ref p] /\ (SqL X.K H p ys \/ SqT X.K H p ys) /\ Q (.int ys.length) H):=by
 intro pins s σ H xs us Q I r h;obtain ⟨p,ys,rfl,hq,q⟩:=h;obtain ⟨u,rfl,rx⟩:=ue1 r;cases rx;have hn:=zv0;rcases hq with hq | hq
 ·obtain ⟨its,r',pl,hz⟩:=I.list hq;have hlen:=r'.length;exact Calls.call_len_list pl.isList (by simp only [size_toArray] <;> omega) ⟨.int ys.length,H,I.tok _,⟨s.toks + 1,by rw [size_toArray,hlen]⟩,q⟩
 ·obtain ⟨its,r',pl,hz⟩:=I.tuple hq;have hlen:=r'.length;exact len_tuple pl (by simp only [size_toArray] <;> omega) ⟨.int ys.length,H,I.tok _,⟨s.toks + 1,by rw [size_toArray,hlen]⟩,q⟩
theorem td1:CallR X (.builtin "len") (λ xs H Q=>∃ z,xs=[.str z] /\ z.length<=sizeLine /\ Q (.int z.length) H):=by
 intro pins s σ H xs us Q I r h;obtain ⟨z,rfl,hz,q⟩:=h;obtain ⟨u,rfl,t,rfl⟩:=ue1 r;have hn:=zv0;exact len_str [2] ⟨.int z.length,H,I.tok _,⟨_,rfl⟩,q⟩
theorem CallR.or {f:Value} {r r':List V->Hp->VK->Prop} (h:CallR X f r) (h':CallR X f r'):CallR X f (λ xs H Q=>r xs H Q \/ r' xs H Q):=by
 intro pins s σ H xs us Q I rs q;rcases q with q | q
 ·exact h pins s σ H xs us Q I rs q
 ·exact h' pins s σ H xs us Q I rs q
theorem xz0:CallR X (.type "tuple") (λ xs H Q=>∃ p ys,xs=[.ref p] /\ ((SqL X.K H p ys /\ ∀ l,H l=none->Q (.ref l) (upd H l (.tup ys))) \/ (SqT X.K H p ys /\ Q (.ref p) H))):=by
 intro pins s σ H xs us Q I r h;obtain ⟨p,ys,rfl,h⟩:=h;obtain ⟨u,rfl,rx⟩:=ue1 r;cases rx;rcases h with ⟨hq,q⟩ | ⟨hq,q⟩
 ·obtain ⟨its,r',pl,hz⟩:=I.list hq;have hlen:=r'.length;refine call_tuple_list pl.isList (λ h' kp=>?_) (by simp only [size_toArray] <;> omega);have I1:Inv X pins σ H [36]:=I.kept (t':=s.toks) kp
  have I2:Inv X pins σ (upd H h'.objs.size (.tup ys)) { s with heap:=h'.push { cls:=.type "tuple",data:=.seq its.toArray } } :=
   I1.laid (t':=s.toks) (λ b o e=>Heap.get?_push_of_some _ e) [14] (show ObjOk X.prog X.w _ _ _ (.tup ys) from ⟨hz,its,r',IsTup.new _ _⟩)
  exact ⟨.ref h'.objs.size,_,I2,rfl,q _ (I1.hok.fresh [14])⟩
 ·obtain ⟨its,r',pl,hz⟩:=I.tuple hq;exact call_tuple_same pl ⟨.ref p,H,I,rfl,q⟩
def tyV (K:PySem.W.Frag) (T:String) (x:V) (H:Hp):Prop:=match x with
 | .str _=>T = "str"
 | .int _=>T = "int"
 | .ref p=>(T = "list" /\ ∃ xs,SqL K H p xs) \/ (T = "tuple" /\ ∃ o,K.lookup p=some o /\ o.cls=.type "tuple" /\ o.dict=none) ∨
     (T = "dict" /\ ((∃ kvs,H p=some (.dK kvs)) \/ ∃ kvs,H p=some (.dT kvs))) \/ (T = "set" /\ ∃ S n,H p=some (.set S n))
 | _=>False
theorem wt2 {pins:[5]} {σ:St} {H:Hp} {s:Shared} {T:String} {x:V} {v:Value} (I:[6]) (r:RelV x v) (ty:tyV X.K T x H) :
    s.TypeIs v T /\ ∀ a,v=.ref a->∃ ob,s.heap.get? a=some ob /\ ob.dict=none:=by
 cases x with
 | str z =>
  obtain ⟨t,rfl⟩:=r;cases (show T = "str" from ty);exact ⟨typeIs_str s z t,λ _ e=>nomatch e⟩
 | int i =>
  obtain ⟨t,rfl⟩:=r;cases (show T = "int" from ty);exact ⟨typeIs_int s i t,λ _ e=>nomatch e⟩
 | ref p =>
  cases r;rcases ty with ⟨rfl,xs,hq⟩ | ⟨rfl,o,hk,hc,hd⟩ | ⟨rfl,hk⟩ | ⟨rfl,S,n,hk⟩
  ·obtain ⟨its,_,pl,_⟩:=I.list hq;refine ⟨pl.isList.typeIs,λ a e=>?_⟩;cases e;obtain ⟨o,n,e,c,hd,_⟩:=pl;exact ⟨o,e,hd⟩
  ·refine ⟨⟨o,I.kIn p o hk,hc⟩,λ a e=>?_⟩;cases e;exact ⟨o,I.kIn _ o hk,hd⟩
  ·have z:∃ o,s.heap.get? p=some o /\ o.ExactDict:=by
     rcases hk with ⟨kvs,hk⟩ | ⟨kvs,hk⟩
     ·obtain ⟨_,_,_,_,o,_,_,e,ex,_⟩:=I.hok p _ hk;exact ⟨o,e,ex⟩
     ·obtain ⟨_,_,_,_,o,_,_,e,ex,_⟩:=I.hok p _ hk;exact ⟨o,e,ex⟩
   obtain ⟨o,e,ex⟩:=z;refine ⟨⟨o,e,ex.1⟩,λ a e2=>?_⟩;cases e2;exact ⟨o,e,ex.2.1⟩
  ·obtain ⟨o,_,_,_,e,ex,_⟩:=I.hok p _ hk;refine ⟨⟨o,e,ex.1⟩,λ a e2=>?_⟩;cases e2;exact ⟨o,e,ex.2.1⟩
 | _=>exact False.elim ty
def tBM0 (K:PySem.W.Frag) (T:String) (r:V->List V->Hp->VK->Prop) (to:TE):TE:=λ σ H Q=>to σ H λ x H1=>tyV K T x H1 /\ r x [] H1 Q
def tBM (K:PySem.W.Frag) (T:String) (r:V->List V->Hp->VK->Prop) (to:TE) (t:TA):TE:=λ σ H Q=>to σ H λ x H1=>tyV K T x H1 /\ t σ H1 λ xs H2=>r x xs H2 Q
variable {o e:Expr} {es:List Expr} {to:TE} {t:TA} {name:Str} {apos cpos:Pos} {T id:String} {r:V->List V->Hp->VK->Prop}
theorem ze4 (pa:PlainAttrs T) (slot:Slot T name id) (hty:typeOf (.builtin id)=pure (.type "method_descriptor")) (hm:MtR X id r) (ho:PE X o to)
    (hbase:attributeBase o name X.env (eval o X.env)=eval o X.env:=by rfl) (hline:(apos.endLine == cpos.line)=true:=by rfl):PE X (.Call (.Attribute o name apos) [] [] cpos) (tBM0 X.K T r to):=by
 intro pins s σ H Q I h;refine wpAny_Call_method0_late hbase hline (thn (ho pins s σ H _ I h) λ v s1 ⟨x,H1,I1,r1,ty,q1⟩=>?_);obtain ⟨h1,h2⟩:=wt2 I1 r1 ty;exact ⟨T,id,pa,slot,hty,h1,h2,Calls.callWith_builtin rfl (PySem.evalArgs_none (hm pins s1 σ H1 x [] v [] Q I1 r1 .nil q1))⟩
theorem yg3 (pa:PlainAttrs T) (slot:Slot T name id) (hty:typeOf (.builtin id)=pure (.type "method_descriptor")) (hm:MtR X id r) (ho:PE X o to) (ha:PA X (e :: es) t)
    (hbase:attributeBase o name X.env (eval o X.env)=eval o X.env:=by rfl)
    (hfew:((backTo cpos (starEach (e :: es) X.env)).all (λ x=>!x.1) && (backToKw cpos (keywordEach [] X.env)).all (λ x=>x.1.isSome)
     && decide [20])=true:=by rfl)
    (hline:(apos.endLine == cpos.line)=true:=by rfl) (hs:starEach (e :: es) X.env=[35] :: starEach es X.env:=by rfl) (hplain:(backTo cpos (starEach es X.env)).any (·.1)=false:=by rfl) :
    PE X (.Call (.Attribute o name apos) (e :: es) [] cpos) (tBM X.K T r to t):=by
 intro pins s σ H Q I h;refine wpAny_Call_method_late hbase hfew hline rfl (thn (ho pins s σ H _ I h) λ v s1 ⟨x,H1,I1,r1,ty,q1⟩=>?_);obtain ⟨h1,h2⟩:=wt2 I1 r1 ty;refine ⟨T,id,pa,slot,hty,h1,h2,?_⟩;have hA:=ha cpos pins s1 σ H1 _ I1 q1;rw [hs] at hA ⊢;refine Calls.callWith_builtin (by show (false || (backTo cpos (starEach es X.env)).any (·.1))=false; rw [hplain] <;> rfl) (Calls.evalArgs_plain ?_);exact thn hA λ us s2 ⟨vs,H2,I2,r2,q2⟩=>hm pins s2 σ H2 x vs v us Q I2 r1 r2 q2
end
def MtM (X:Cx) (id:String) (r:V->List V->Hp->VK->Prop):Prop :=
 ∀ (pins:[5]) (s:Shared) (σ:St) (H:Hp) (x:V) (xs:List V) (v:Value) (us:[24]) (Q:VK),Inv X pins σ H s->RelV x v->Vals xs us->r x xs H Q ->
  wpAny [9] X.A (call (.builtin id) (v :: us)) (EP X pins σ Q) X.xe s
theorem Vals.one:∀ {x:V} {us:[24]},Vals [x] us->∃ u,us=[u] /\ RelV x u
 | _,_,.cons r .nil=>⟨_,rfl,r⟩
theorem Vals.zero:∀ {us:[24]},Vals [] us->us=[]
 | _,.nil=>rfl
theorem Vals.dropLast {xs:List V} {us:[24]} (h:Vals xs us):Vals xs.dropLast us.dropLast:=by
 induction h with
 | nil=>exact .nil
 | cons r t ih =>
  cases t with
  | nil=>exact .nil
  | cons q t'=>exact .cons r ih
theorem Vals.rep {xs:List V} {us:[24]} (h:Vals xs us):∀ k:Nat,Vals (List.replicate k xs).flatten (List.replicate k us).flatten
 | 0=>.nil
 | k + 1=>by
  rw [replicate_succ,replicate_succ,flatten_cons,flatten_cons];exact Vals.append h (Vals.rep h k)
theorem ts1 {α:Type} (l:List α):l.eraseIdx (l.length - 1)=l.dropLast:=by
 induction l with
 | nil=>rfl
 | cons a r ih =>
  cases r with
  | nil=>rfl
  | cons b r =>
   have e:(a :: b :: r).length - 1=((b :: r).length - 1) + 1:=by
    have h1:(a :: b :: r).length=r.length + 2:=rfl;have h2:(b :: r).length=r.length + 1:=rfl;omega
   rw [e,List.eraseIdx_cons_succ,ih]
   all_goals rfl
theorem ts0 (its:[24]):∀ (k:Nat) (acc:[24]),
    List.foldl (λ x1 x2=>x1 ++ x2) acc.toArray (List.replicate k its.toArray)=(acc ++ (List.replicate k its).flatten).toArray
 | 0,acc=>by simp
 | k + 1,acc=>by
  have e:acc.toArray ++ its.toArray=(acc ++ its).toArray:=by simp
  have e2:(acc ++ its) ++ (List.replicate k its).flatten=acc ++ (List.replicate (k + 1) its).flatten:=by
   rw [replicate_succ,flatten_cons,append_assoc]
  rw [<- e2,<- ts0 its k (acc ++ its),<- e,replicate_succ,List.foldl_cons]
section
variable {X:Cx} {pins:[5]} {σ:St} {H:Hp} {s:Shared} {l b:Addr} {xs ys zs:List V}
theorem Inv.lset {its its':[24]} {n:Nat} {f:Array Value->Array Value} {t':Nat} (I:[6]) (hH:H l=some (.lst xs))
    (e:s.heap.get? l=some { cls:=.type "list",data:=.seq its.toArray n }) (hf:f its.toArray=its'.toArray) (hv:Vals ys its') (hz:ys.length<=sizeLine) :
    Inv X pins σ (upd H l (.lst ys)) { s with heap:=s.heap.update l (Obj.mapSeq f),toks:=t' }:=by
 have q:=PySem.IsL.update e f;rw [hf] at q;refine I.write (x:=l) (e:=l) (by rw [hH]; exact trivial) (.inl rfl) (λ b' u hb hu=>(Heap.get?_update_other s.heap (Obj.mapSeq f) (Ne.symm hb)).trans hu) ⟨_,q⟩ ?_;exact ⟨hz,its',_,hv,q⟩
theorem Inv.lnew {its:[24]} {t':Nat} (I:[6]) (hv:Vals ys its) (hz:ys.length<=sizeLine) :
    Inv X pins σ (upd H s.heap.objs.size (.lst ys)) { s with heap:=s.heap.push { cls:=.type "list",data:=.seq its.toArray },toks:=t' } :=
 I.laid (λ _ _ q=>Heap.get?_push_of_some _ q) [14] ⟨hz,its,0,hv,Heap.get?_push_size _ rfl⟩
theorem Inv.fresh (I:[6]):H s.heap.objs.size=none:=I.hok.fresh [14]
theorem Inv.lstM (I:[6]) (hH:H l=some (.lst xs)):xs.length<=sizeLine /\ ∃ (its:[24]) (n:Nat),Vals xs its /\ xs.length=its.length /\ s.heap.get? l=some { cls:=.type "list",data:=.seq its.toArray n }:=by
 obtain ⟨z,its,n,r,e⟩:=I.hok l _ hH;exact ⟨z,its,n,r,r.length,e⟩
theorem wm1 {n:Nat} (h:n<=sizeLine):Builtin.List.listTooLong n=false:=by
 unfold Builtin.List.listTooLong;exact decide_eq_false [2]
end
section
variable {X:Cx}
def xd3:V->List V->Hp->VK->Prop:=λ x vs H Q=>∃ l xs y,x=.ref l /\ vs=[y] /\ H l=some (.lst xs) /\ xs.length < sizeLine /\ Q .non (upd H l (.lst (xs ++ [y])))
theorem tr0:MtM X "list.append" xd3:=by
 intro pins s σ H x vs v us Q I rx rv h;obtain ⟨l,xs,y,rfl,rfl,hH,hz,q⟩:=h;cases rx;obtain ⟨u,rfl,ru⟩:=rv.one;obtain ⟨z,its,n,r,hl,e⟩:=I.lstM hH;refine call_meets F.slot_list_append ⟨_,e,rfl⟩ F.entry_list_append (F.args_list_append_2 _ _) (PySem.list_append l its.toArray n u (by rw [size_toArray]; omega)) ⟨e,?_⟩;refine ⟨.non,_,I.lset (its':=its ++ [u]) hH e [16] (r.append (.cons ru .nil)) ?_,rfl,q⟩;rw [length_append,length_singleton];omega
def sc3:V->List V->Hp->VK->Prop:=λ x vs H Q=>∃ l b xs zs,x=.ref l /\ vs=[.ref b] /\ H l=some (.lst xs) /\ H b=some (.lst zs) /\ xs.length + zs.length<=sizeLine /\ Q .non (upd H l (.lst (xs ++ zs)))
theorem zb2:MtM X "list.extend" sc3:=by
 intro pins s σ H x vs v us Q I rx rv h;obtain ⟨l,b,xs,zs,rfl,rfl,hH,hB,hz,q⟩:=h;cases rx;obtain ⟨u,rfl,ru⟩:=rv.one;cases ru;obtain ⟨z,its,n,r,hl,e⟩:=I.lstM hH;obtain ⟨z2,its2,n2,r2,hl2,e2⟩:=I.lstM hB;have hsz:its.toArray.size + its2.toArray.size<=sizeLine:=by rw [size_toArray,size_toArray]; omega
 have hlong:¬ (!its.toArray.isEmpty && Builtin.List.listTooLong (its.toArray.size + its2.toArray.size))=true:=by
  rw [wm1 hsz,Bool.and_false];exact Bool.false_ne_true
 refine call_meets F.slot_list_extend ⟨_,e,rfl⟩ F.entry_list_extend (F.args_list_extend_2 _ _)
  (AutoSeq1.list_extend_list_list_0 l its.toArray n b its2.toArray n2 hlong (by rw [size_toArray]; omega) [2]) ⟨e,e2,?_⟩
 refine ⟨.non,_,I.lset (its':=its ++ its2) hH e [16] (r.append r2) ?_,rfl,q⟩;rw [length_append];omega
def rPop:V->List V->Hp->VK->Prop:=λ x vs H Q=>∃ l xs y,x=.ref l /\ vs=[] /\ H l=some (.lst xs) /\ xs[xs.length - 1]?=some y /\ Q y (upd H l (.lst xs.dropLast))
theorem sf4:MtM X "list.pop" rPop:=by
 intro pins s σ H x vs v us Q I rx rv h;obtain ⟨l,xs,y,rfl,rfl,hH,hy,q⟩:=h;cases rx;have hus:=rv.zero;subst hus;obtain ⟨z,its,n,r,hl,e⟩:=I.lstM hH;obtain ⟨u,hu,ru⟩:=r.get hy
 have hy':its.toArray[its.toArray.size - 1]?=some u:=by
  show its.toArray[its.length - 1]?=some u;rw [<- getElem?_toList,<- hl];exact hu
 refine call_meets F.slot_list_pop ⟨_,e,rfl⟩ F.entry_list_pop (F.args_list_pop_1 _) (MeetsSeq.list_pop_last l its.toArray n u hy' (by rw [size_toArray]; omega)) ⟨e,?_⟩;refine ⟨y,_,I.lset (its':=its.dropLast) hH e ?_ r.dropLast ?_,ru,q⟩
 ·show its.toArray.eraseIdxIfInBounds (its.toArray.size - 1)=its.dropLast.toArray;rw [size_toArray,List.eraseIdxIfInBounds_toArray,ts1]
 ·rw [List.length_dropLast];omega
def rCat:R2:=λ x y H Q=>∃ l b xs zs,x=.ref l /\ y=.ref b /\ H l=some (.lst xs) /\ H b=some (.lst zs) /\ xs.length + zs.length<=sizeLine /\ ∀ p,H p=none->Q (.ref p) (upd H p (.lst (xs ++ zs)))
theorem op_cat:OpR X (binaryOp .Add) rCat:=by
 intro pins s σ H x y v u Q I rx ry h;obtain ⟨l,b,xs,zs,rfl,rfl,hH,hB,hz,q⟩:=h;cases rx;cases ry;obtain ⟨z,its,n,r,hl,e⟩:=I.lstM hH;obtain ⟨z2,its2,n2,r2,hl2,e2⟩:=I.lstM hB;refine PySem.P.add_list e e2 ?_ (by rw [size_toArray,size_toArray]; omega);have ea:its.toArray ++ its2.toArray=(its ++ its2).toArray:=by simp
 rw [ea];exact ⟨.ref _,_,I.lnew (t':=s.toks) (r.append r2) (by rw [length_append]; omega),rfl,q _ I.fresh⟩
def rRep:R2:=λ x y H Q=>∃ l k xs,x=.ref l /\ y=.int k /\ H l=some (.lst xs) /\ -(2 ^ 63)<=k /\ k < 2 ^ 63 /\ xs.length * k.toNat<=sizeLine ∧
 ∀ p,H p=none->Q (.ref p) (upd H p (.lst (List.replicate k.toNat xs).flatten))
theorem wg1 {α:Type} (xs:List α) (k:Nat):(List.replicate k xs).flatten.length=k * xs.length:=by
 induction k with
 | zero=>simp
 | succ k ih=>rw [replicate_succ,flatten_cons,length_append,ih,Nat.succ_mul,Nat.add_comm]
theorem se4:OpR X (binaryOp .Mult) rRep:=by
 intro pins s σ H x y v u Q I rx ry h;obtain ⟨l,k,xs,rfl,rfl,hH,h1,h2,hz,q⟩:=h;cases rx;obtain ⟨t,rfl⟩:=ry;obtain ⟨z,its,n,r,hl,e⟩:=I.lstM hH;have hlen:its.toArray.size * k.toNat<=sizeLine:=by rw [size_toArray,<- hl]; exact hz
 have hcap:¬ its.toArray.size * k.toNat > (2 ^ 63 - 1) / 8:=by
  have:(sizeLine:Nat)<=(2 ^ 63 - 1) / 8:=by decide
  omega
 have hfit:¬ (!Builtin.List.listFitsIndex k)=true:=by
  rw [fitsIndex_both h1 h2];exact Bool.false_ne_true
 have hlong:¬ Builtin.List.listTooLong (its.toArray.size * k.toNat)=true:=by
  rw [wm1 hlen];exact Bool.false_ne_true
 have hnew:List.foldl (λ x1 x2=>x1 ++ x2) #[] (List.replicate (if its.toArray.isEmpty=true then 0 else k.toNat) its.toArray)=(List.replicate k.toNat its).flatten.toArray:=by
  have f0:∀ m:Nat,List.foldl (λ x1 x2=>x1 ++ x2) #[] (List.replicate m its.toArray)=(List.replicate m its).flatten.toArray:=λ m=>by
   have:=ts0 its m [];rw [nil_append] at this;exact this
  rw [f0];cases its with
  | nil=>simp
  | cons a r'=>rw [if_neg [16]]
 refine wpAny_binaryOp_repeat_ref (T := "list") (U := "int") [7] ⟨_,e,rfl⟩ (λ s'=>typeIs_int s' k t) noFill_list_mul F.fills_int_mul F.slot_int_rmul repeat_list F.slot_int_index.lookup
  (call_meets F.slot_int_rmul (typeIs_int s k t) F.entry_int_rmul (F.args_int_rmul_2 _ _) (int___rmul___int_list k t l its.toArray n)
   ⟨e,rfl,⟨_,e,rfl⟩,call_meets F.slot_list_mul ⟨_,e,rfl⟩ F.entry_list_mul (F.args_list_mul_2 _ _) (AutoListH.list___mul___list_int_3 l its.toArray n k t hfit hcap hlong) ⟨e,?_⟩⟩)
 rw [hnew];exact ⟨.ref _,_,I.lnew (t':=s.toks) (r.rep k.toNat) (by rw [wg1,Nat.mul_comm]; exact hz),rfl,q _ I.fresh⟩
end
end L2
namespace Att
open PySem PySem.W PySem.Calls PyProof.Rows
theorem zs0 {P:Params} {h:Heap}:∀ (ns:List Int) (vs:[24]),WellAll P h vs (ns.map WData.int)->IntsAre vs ns:=by
 intro ns
 induction ns with
 | nil =>
  intro vs w;rw [map_nil] at w;cases w;exact .nil
 | cons n ns ih =>
  intro vs w;rw [map_cons] at w;cases w with
  | cons a b =>
   cases a;exact .cons _ _ (ih _ b)
theorem uw1 {l:OpenLaw} {n:Nat} (hn:l.most=some n) {P:Params} {h:Heap} {args:List WData} {vals:[24]}
    (hpre:l.row.toRowW.claim.pre args=true) (hwl:WellAll P h vals args) :
    ∃ a vs ns,vals=[Value.ref a] /\ args=[WData.list (ns.map WData.int)] /\ h.get? a=some { cls:=.type "list",data:=.seq vs.toArray } /\ IntsAre vs ns /\ ns.length<=n:=by
 have hsh:WShape.hasAll [] args [.list .int]=true:=(pre_splitW hpre).1;have hc:l.pre.holds [] { args:=args }=true:=(pre_splitW hpre).2;obtain ⟨d,r,rfl,h1,h2⟩:=hasAllW_cons hsh;obtain rfl:=hasAllW_nil h2;obtain ⟨xs,rfl,h3⟩:=hasW_list h1;obtain ⟨ns,rfl⟩:=items_int h3
 have hlen:ns.length<=n:=by
  unfold OpenLaw.pre at hc
  have h4:(WTm.not (.lt (.lit (.int (n:Int))) (.len (.arg 0)))).holds [] { args:=[.list (ns.map .int)] }=true:=by
   have h4:=(holds_andW hc).1;rw [hn] at h4;exact h4
  have h5:=condW_of h4 (w_not (w_lt w_lit (w_len_list (w_arg rfl))));rw [length_map] at h5;refine Nat.le_of_not_lt λ q=>?_;have q':(n:Int) < ((ns.length:Nat):Int):=by omega
  first
   | (rw [decide_eq_true q'] at h5; exact absurd h5 [7])
   | (simp at h5; omega)
 cases hwl with
 | cons w1 w2 =>
  cases w2;cases w1 with
  | list ho hall=>exact ⟨_,_,ns,rfl,rfl,ho,zs0 ns _ hall,hlen⟩
theorem zz1 (l:OpenLaw) (args:List WData):l.row.toRowW.claim.post args (.bool true) args=true :=
 postW_of (r:=l.row.toRowW) (X:=(true == true))
  (show WShape.has [] (.bool true) .bool=true by first | rfl | decide | simp [WShape.has,WShape.arms,WShape.armsAll])
  (show (WTm.eq .res (.lit (.bool true))).value [] { args:=args,res:=some (.bool true),after:=args }=some (.bool (true == true)) from w_eq_bool (w_res rfl) w_lit) rfl
theorem attach_call {l:OpenLaw} {n:Nat} {q:Program} {loose:List Str} {XP:(Str->Option Value)->Heap->Prop} {YP:World->Heap->Prop} {d:DefRec}
    (hn:l.most=some n) (hdf:d.params.defaults=[])
    (call:∀ (w:World) (s₀ s₁:Shared) (mg mb:Str->Option Value) (fa:Addr) (o:Obj) (pm cd doc:Value) (a:Addr) (vs:[24]) (ns:List Int),
     Ground q loose [] XP w s₀ mg mb s₁.heap->YP w s₁.heap ->
     s₁.heap.get? fa=some o->o.data=.func (docDef d.name d.params d.body d.scope pm cd doc)->s₁.heap.CodeRec cd d.name->mg d.name=some (.ref fa) ->
     s₁.heap.get? a=some { cls:=.type "list",data:=.seq vs.toArray }->IntsAre vs ns->ns.length<=n->s₁.gens = #[] ->
     codeAny (model l.prog w) callerA (.call (.ref fa) ⟨[.ref a],[]⟩) (λ r s'=>r=.ok (.ret (.bool true)) /\ OldK s₁.heap s'.heap /\ s'.os=s₁.os /\ AllBare s'.gens) s₁) :
    WalkO q loose XP YP l.row.toRowW d [] (λ f vs=>PySem.call f vs):=by
 intro w s₀ s₁ mg mb G Y fa o pm cd doc dV kV ho hd hcd hD hmg hg args vals as hpre hlay hrd hwl hlo;obtain rfl:dV=.none:=Dflts.none hD hdf;obtain rfl:kV=.none:=Dflts.noKw hD;obtain ⟨a,vs,ns,rfl,rfl,hobj,hints,hlen⟩:=uw1 hn hpre hwl;refine enter_call (codeAny_mono (call w s₀ s₁ mg mb fa o pm cd doc a vs ns G Y ho (fd_plain hd) hcd hmg hobj hints hlen hg) λ r s' hq=>?_);obtain ⟨rfl,h2,h3,h4⟩:=hq;exact ⟨.inl ⟨.bool true,.bool true,[],rfl,λ _=>rfl,.bool true,zz1 l _,λ _=>⟨List.Pairwise.nil,λ _ hm=>(nomatch hm)⟩⟩,h2,h3,h4⟩
section
variable {prog:Program} {w:World} {A:Around} {E:[4]} {s:Shared} {K:Frag}
def ledger (h:Heap) (L d:Addr):List (Addr × Obj):=(List.range h.objs.size).filterMap λ a=>if a=L \/ a=d then none else (h.get? a).map λ o=>(a,o)
end
end Att
namespace L2
open PySem PySem.Spec PyProof.Rows
theorem uz0:∀ {vs:[24]} {ns:List Int},IntsAre vs ns->Vals (ns.map V.int) vs
 | _,_,.nil=>.nil
 | _,_,.cons n t h=>.cons ⟨t,rfl⟩ (uz0 h)
def Only (H:Hp):Prop:=∀ b,H b=none \/ ∃ o xs,H b=some (.frz o (.lst xs))
theorem to2 {P:Program} {w:World} {K:PySem.W.Frag} {mg mb:Str->Option Value} {CX:CXT} {k:Nat} {fa a:Addr} {fd:FuncData} {x:Str} {sp:Sp} {s₁:Shared} {vs:[24]} {ns:List Int}
    (KX:K.In s₁.heap) (hns:s₁.heap.Ns mainGlobals mg) (hb:s₁.heap.Ns builtinsNs mb) (hbb:∀ x:Str,x ≠ "__name__" -> mb x=bootBuiltins x) (hlim:s₁.heap.NoLimit) (hg:s₁.gens = #[])
    (ha:s₁.heap.get? a=some { cls:=.type "list",data:=.seq vs.toArray }) (hi:IntsAre vs ns) (hl:ns.length<=sizeLine) (hr:Room k callerA)
    (F:∀ base:Heap,K.In base->base.Ns mainGlobals mg->FnOk P w K mg base CX k fa fd [x] sp) (hbind:∀ (s:Shared) (u:Value),BindsTo s fd ⟨[u],[]⟩ [(x,u)])
    (hsp:∀ H:Hp,Only H->SqL K H a (ns.map V.int)->sp [.ref a] H (λ v _=>v=.bl true) λ _ _ _=>False)
    (hCX:∀ H e s',CX [] H s₁ (λ _ _ _=>False) e s'->False) :
    codeAny (model P w) callerA (.call (.ref fa) ⟨[.ref a],[]⟩) (λ r s'=>r=.ok (.ret (.bool true)) /\ OldK s₁.heap s'.heap /\ s'.os=s₁.os /\ AllBare s'.gens) s₁:=by
 have rv:=uz0 hi;have lenV:=hi.length
 have core:∀ H:Hp,Only H->SqL K H a (ns.map V.int)->HOk P w H s₁.heap->(∀ b,H b ≠ none->b=a)->(H a ≠ none->K.lookup a=none) ->
     codeAny (model P w) callerA (.call (.ref fa) ⟨[.ref a],[]⟩) (λ r s'=>r=.ok (.ret (.bool true)) /\ OldK s₁.heap s'.heap /\ s'.os=s₁.os /\ AllBare s'.gens) s₁:=by
  intro H hO hS hok hA hK;have base_of:∀ {b:Addr} {o:Obj},s₁.heap.get? b=some o->H b=none->(hidT s₁.heap H).get? b=some o:=λ e n=>wq2 e n
  have noA:∀ {b:Addr} {o:Obj} {es:Array DictEntry} {ep:Nat},s₁.heap.get? b=some o->o.data=.dict es ep->H b=none:=λ {b o es ep} e d=>by
   cases q:H b with
   | none=>rfl
   | some u =>
    have e':b=a:=hA b (by rw [q]; simp);subst e';rw [ha] at e; cases e;have d':Data.seq vs.toArray _=Data.dict es ep:=d;cases d'
  have nsK:∀ {b:Addr} {m:Str->Option Value},s₁.heap.Ns b m->(hidT s₁.heap H).Ns b m:=λ {b m} ⟨o,es,ep,e,d,r⟩=>⟨o,es,ep,base_of e (noA e d),d,r⟩
  have hKb:K.In (hidT s₁.heap H):=λ b o e=>base_of (KX b o e) (by
   cases q:H b with
   | none=>rfl
   | some u =>
    have e':b=a:=hA b (by rw [q]; simp);subst e';rw [hK (by rw [q]; simp)] at e; cases e)
  have hM:Mod K mg (hidT s₁.heap H):=⟨hKb,nsK hns,⟨mb,nsK hb,hbb⟩,let ⟨mc,h1,h2⟩:=hlim; ⟨mc,nsK h1,h2⟩⟩;have e0:Env0 P w K mg (hidT s₁.heap H) callerA [] s₁ H:=⟨rfl,hM,λ b o e=>xh3 e,Nat.le_of_eq (ze2 _ _),trivial,λ b hb=>absurd (show b ∈ ([]:List Addr) from hb) [16],hok,.of_eq hg⟩;refine codeAny_mono ((F _ hKb (nsK hns)).run callerA [] s₁ H ⟨[.ref a],[]⟩ [.ref a] [.ref a] _ _ hr e0 (hbind s₁ (.ref a)) (.cons rfl .nil) (hsp H hO hS)) λ r s' h=>?_;cases r with
  | error e=>exact (hCX H e s' h).elim
  | ok fl =>
   cases fl with
   | next=>exact False.elim h
   | brk=>exact False.elim h
   | cont=>exact False.elim h
   | ret u =>
    obtain ⟨v,H',os,bare,un,hok',r',q⟩:=h;have q':v=.bl true:=q;subst q';obtain rfl:u=Value.bool true:=r';refine ⟨rfl,OldK.of_keep λ b o e=>?_,os,bare⟩;cases q:H b with
    | none=>exact un.keep b o e q (by intro z; exact absurd (show b ∈ ([]:List Addr) from z) [16]) [16]
    | some u =>
     rcases hO b with z | ⟨ob,xs,z⟩
     ·rw [q] at z; cases z
     ·have z2:=un.frzs b ob _ z;obtain ⟨e1,_⟩:=hok b _ z;obtain ⟨e2,_⟩:=hok' b _ z2;rw [e] at e1; cases e1;exact e2
 cases hk:K.lookup a with
 | some o =>
  have e:=KX a o hk;rw [ha] at e;cases e;refine core (λ _=>none) (λ _=>.inl rfl) (.inr ⟨_,vs.toArray,_,hk,rfl,rfl,rfl,by rw [size_toArray,lenV]; exact hl,by simpa using rv⟩) (λ b u z=>by have z':(none:Option HO)=some u:=z; cases z') (λ b z=>absurd rfl z) λ z=>absurd rfl z
 | none =>
  refine core (λ b=>if b=a then some (.frz { cls:=.type "list",data:=.seq vs.toArray } (.lst (ns.map V.int))) else none) (λ b=>?_) (.inl (.inr ⟨{ cls:=.type "list",data:=.seq vs.toArray },if_pos rfl⟩)) (λ b u z=>?_) (λ b z=>?_) λ _=>hk
  ·by_cases hb:b=a
   ·exact .inr ⟨_,_,if_pos hb⟩
   ·exact .inl (if_neg hb)
  ·by_cases hb:b=a
   ·have z':=(if_pos hb).symm.trans z;cases z';subst hb;exact ⟨ha,by rw [length_map]; exact hl,vs,_,rv,ha⟩
   ·have z':=(if_neg hb).symm.trans z;cases z'
  ·by_cases hb:b=a
   ·exact hb
   ·exact absurd (if_neg hb) z
abbrev KOf {K:PySem.W.Frag} {h:Heap} (_:K.In h):PySem.W.Frag:=K
theorem walk_of {l:PySem.W.OpenLaw} {n k:Nat} {q:Program} {loose:List Str} {XP:(Str->Option Value)->Heap->Prop} {YP:World->Heap->Prop} {d:DefRec} {K:Params->PySem.W.Frag} {CX:World->CXT} {sp:World->Sp} {x:Str}
    (hn:l.most=some n) (hn2:n<=sizeLine) (hdf:d.params.defaults=[]) (hr:Room k callerA)
    (hY:∀ (w:World) (h:Heap),YP w h->(K w.params).In h)
    (F:∀ (w:World) (mg:Str->Option Value) (fa:Addr) (h:Heap),(K w.params).In h->h.Ns mainGlobals mg->mg d.name=some (.ref fa) ->
     ∃ fd:FuncData,(∀ (s:Shared) (u:Value),BindsTo s fd ⟨[u],[]⟩ [(x,u)]) ∧
      ∀ base:Heap,(K w.params).In base->base.Ns mainGlobals mg->FnOk l.prog w (K w.params) mg base (CX w) k fa fd [x] (sp w))
    (hsp:∀ (w:World) (H:Hp) (a:Addr) (ns:List Int),ns.length<=n->Only H->SqL (K w.params) H a (ns.map V.int)->sp w [.ref a] H (λ v _=>v=.bl true) λ _ _ _=>False)
    (hCX:∀ (w:World) (H:Hp) (s:Shared) (e:Value) (s':Shared),CX w [] H s (λ _ _ _=>False) e s'->False) :
    PySem.W.WalkO q loose XP YP l.row.toRowW d [] (λ f vs=>PySem.call f vs):=by
 refine Att.attach_call hn hdf λ w s₀ s₁ mg mb fa o pm cd doc a vs ns G Y ho hd hcd hmg hobj hints hlen hg=>?_;have KX:=hY w _ Y;obtain ⟨fd,hb,hF⟩:=F w mg fa _ KX G.T.g hmg;exact to2 KX G.T.g G.T.b G.T.builtins G.T.nolimit hg hobj hints (Nat.le_trans hlen hn2) hr hF hb (λ H hO hS=>hsp w H a ns hlen hO hS) λ H e s'=>hCX w H s₁ e s'
abbrev CX0:CXT:=λ _ _ _ _ _ _=>False
abbrev E0:XK:=λ _ _ _=>False
theorem tt4 {X:Cx}:uj2 CX0 X E0:=λ _ _ _ _ _ _ _ h=>h.elim
structure Fun (K:PySem.W.Frag) (x qual:Str) (st:Stmt) (f:Addr) (fd:FuncData):Prop where
 ex:∃ (oc:Value) (od:Option Addr) (kV doc pm:Value) (an:Option Addr) (cdv ct:Value) (osl:Array (Option Value)),
  fd=fnOf x qual (sj0 st) (yc0 st) (ua0 st) .none kV doc pm an cdv ct /\ K.lookup f=some ⟨oc,od,.func fd,osl⟩ /\ codeIn K cdv qual=true
 kp:keepIn K (.ref f)=true
section
variable {P:Program} {w:World} {K:PySem.W.Frag} {mg:Str->Option Value} {base:Heap}
theorem Fun.ok {x qual:Str} {st:Stmt} {f:Addr} {fd:FuncData} {N ps:List Str} {k:Nat} {sp:Sp} (F:Fun K x qual st f fd) (S:FnScope N ps (ua0 st)) (len:∀ vs H Q E,sp vs H Q E->vs.length=ps.length)
    (hbody:∀ (cdv:Value) (A:Around) (outer:List Env) (s:Shared) (H:Hp) (vs:List V) (Q:VK) (E:XK),Room k (A.deeper (envOfC qual (ua0 st) s.heap.objs.size f cdv))->sp vs H Q E ->
     ∃ t,PSs (cxOf CX0 P w K mg base N qual (ua0 st) f cdv A outer s H E).nox (yc0 st) t /\ t { nx:=λ _ H'=>Q .non H',rt:=Q } (start N vs) H):FnOk P w K mg base CX0 (k + 1) f fd ps sp:=by
 obtain ⟨oc,od,kV,doc,pm,an,cdv,ct,osl,rfl,lk,hcd⟩:=F.ex;refine vv4 lk hcd S len λ A outer s H vs Q E hr hsp=>?_;obtain ⟨t,h,q⟩:=hbody cdv A outer s H vs Q E hr hsp;exact ⟨t,h.nox,q⟩
theorem Fun.binds {x qual:Str} {st:Stmt} {f:Addr} {fd:FuncData} {ps:List Str} (F:Fun K x qual st f fd)
    (h:∀ (kV doc pm:Value) (an:Option Addr) (cdv ct:Value) (us:[24]),us.length=ps.length->bindArgs (fnOf x qual (sj0 st) (yc0 st) (ua0 st) .none kV doc pm an cdv ct) ⟨us,[]⟩=pure (ps.zip us)):Binds K fd ps []:=by
 obtain ⟨oc,od,kV,doc,pm,an,cdv,ct,osl,rfl,lk,hcd⟩:=F.ex;exact .all (h kV doc pm an cdv ct)
theorem wx2 {x qual:Str} {st:Stmt} {f:Addr} {oc:Value} {od an:Option Addr} {osl:Array (Option Value)} {kV doc pm cdv ct:Value} (l:K.lookup f=some ⟨oc,od,.func (fnOf x qual (sj0 st) (yc0 st) (ua0 st) .none kV doc pm an cdv ct),osl⟩)
    (c:codeIn K cdv qual=true) (k:keepIn K (.ref f)=true):Fun K x qual st f (fnOf x qual (sj0 st) (yc0 st) (ua0 st) .none kV doc pm an cdv ct):=⟨⟨oc,od,kV,doc,pm,an,cdv,ct,osl,rfl,l,c⟩,k⟩
end
section
variable {X:Cx}
theorem pv (i:Nat) {x:Str} {pos:Pos} (hN:X.N[i]?=some x:=by rfl) (hv:Vis X.env.scope x:=by first | exact Or.inl rfl | exact Or.inr (Or.inl rfl) | exact Or.inr (Or.inr rfl)) (hd:(x == ("__debug__" : Str))=false:=by decide)
    (hcd:(x == ("__classdict__" : Str))=false:=by decide):PE X (.Name x pos) (tVar i):=tv2 hN hv hd hcd
end
end L2
namespace Pv
open PySem
inductive D where
 | non | bl (b:Bool) | int (i:Int) | str (x:Str) | tup (l:List D) | fls (l:List D) | ref (a:Addr) | ty (n:String) | exc (c:Str)
 | ktp (l:List D)
inductive MO where
 | lst (xs:List D)
 | ins (c:Str) (fs:List (Str × D))
 | dck (kvs:List (Sum Int Str × D))
 | dcl (kvs:List (List Int × D))
abbrev Mu:=Addr->Option MO
def updM (μ:Mu) (a:Addr) (o:MO):Mu:=λ b=>if b=a then some o else μ b
theorem za0 {μ:Mu} {a:Addr} {o:MO}:updM μ a o a=some o:=by unfold updM; rw [if_pos rfl]
theorem sa0 {μ:Mu} {a b:Addr} {o:MO} (h:b ≠ a):updM μ a o b=μ b:=by unfold updM; rw [if_neg h]
theorem sf0 {μ:Mu} {a:Addr} {o u:MO}:updM (updM μ a o) a u=updM μ a u:=by
 funext b; unfold updM; by_cases h:b=a <;> simp [h]
def Ext (μ μ':Mu):Prop:=∀ a o,μ a=some o->μ' a=some o
theorem Ext.refl (μ:Mu):Ext μ μ:=λ _ _ h=>h
theorem Ext.trans {a b c:Mu} (h:Ext a b) (k:Ext b c):Ext a c:=λ x o q=>k x o (h x o q)
theorem Ext.new {μ:Mu} {p:Addr} {o:MO} (h:μ p=none):Ext μ (updM μ p o):=λ a u q=>by
 rw [sa0]; exact q;intro e; subst e; rw [h] at q; cases q
theorem Ext.free {μ μ':Mu} {p:Addr} (e:Ext μ μ') (h:μ' p=none):μ p=none:=by
 cases q:μ p with
 | none=>rfl
 | some o=>rw [e p o q] at h; cases h
def ExtB (p:Addr) (μ μ':Mu):Prop:=∀ a o,a ≠ p->μ a=some o->μ' a=some o
theorem ExtB.refl (p:Addr) (μ:Mu):ExtB p μ μ:=λ _ _ _ h=>h
theorem ExtB.trans {p:Addr} {a b c:Mu} (h:ExtB p a b) (k:ExtB p b c):ExtB p a c:=λ x o n q=>k x o n (h x o n q)
theorem Ext.b {μ μ':Mu} (p:Addr) (e:Ext μ μ'):ExtB p μ μ':=λ a o _ q=>e a o q
theorem ExtB.upd {μ:Mu} {p:Addr} {o:MO}:ExtB p μ (updM μ p o):=λ a u n q=>by rw [sa0 n]; exact q
theorem ub0 {μ:Mu} {p q:Addr} {o:MO} (h:μ p=some o) (k:μ q=none):p ≠ q:=by
 intro e; subst e; rw [h] at k; cases k
abbrev St3:=List (Option D)
def getI:St3->Nat->Option D
 | [],_=>none
 | o :: _,0=>o
 | _ :: r,i + 1=>getI r i
theorem xh1:∀ (ρ:St3) (i:Nat),getI ρ i=(ρ[i]?).getD none
 | [],i=>by simp [getI]
 | o :: _,0=>by simp [getI]
 | _ :: r,i + 1=>by simp [getI,xh1 r i]
abbrev VK3:=D->Mu->Prop
abbrev TE3:=St3->Mu->VK3->Prop
abbrev TT3:=St3->Mu->(Bool->Mu->Prop)->Prop
abbrev TA3:=St3->Mu->(List D->Mu->Prop)->Prop
structure Ends3 where
 nx:St3->Mu->Prop
 rt:VK3
 bk:St3->Mu->Prop:=λ _ _=>False
 ct:St3->Mu->Prop:=λ _ _=>False
abbrev TS3:=Ends3->St3->Mu->Prop
abbrev R3:=D->D->Mu->VK3->Prop
abbrev Sp3:=List D->Mu->VK3->Prop
abbrev C3:=List D->Mu->VK3->Prop
abbrev TG3:=D->St3->Mu->(St3->Mu->Prop)->Prop
abbrev TGs3:=List D->St3->Mu->(St3->Mu->Prop)->Prop
abbrev TI3:=St3->Mu->(List D->(Mu->Prop)->Mu->Prop)->Prop
def v3 (i:Nat):TE3:=λ ρ μ Q=>match getI ρ i with
 | some d=>Q d μ
 | none=>False
def c3 (d:D):TE3:=λ _ μ Q=>Q d μ
def o3 (r:R3) (ta tb:TE3):TE3:=λ ρ μ Q=>ta ρ μ λ x μ1=>tb ρ μ1 λ y μ2=>r x y μ2 Q
def un3 (r:D->Mu->VK3->Prop) (ta:TE3):TE3:=λ ρ μ Q=>ta ρ μ λ x μ1=>r x μ1 Q
def b3 (t:TE3):TT3:=λ ρ μ Q=>t ρ μ λ d μ1=>match d with
 | .bl c=>Q c μ1
 | _=>False
def and3 (t u:TT3):TT3:=λ ρ μ Q=>t ρ μ λ c μ1=>if c=true then u ρ μ1 Q else Q false μ1
def or3 (t u:TT3):TT3:=λ ρ μ Q=>t ρ μ λ c μ1=>if c=true then Q true μ1 else u ρ μ1 Q
def not3 (t:TT3):TT3:=λ ρ μ Q=>t ρ μ λ c μ1=>Q (!c) μ1
def wj2 (t u:TE3):TE3:=λ ρ μ Q=>t ρ μ λ d μ1=>match d with
 | .bl c=>if c=true then u ρ μ1 Q else Q (.bl false) μ1
 | _=>False
def orV3 (t u:TE3):TE3:=λ ρ μ Q=>t ρ μ λ d μ1=>match d with
 | .bl c=>if c=true then Q (.bl true) μ1 else u ρ μ1 Q
 | _=>False
def yh3 (t:TE3):TE3:=λ ρ μ Q=>t ρ μ λ d μ1=>match d with
 | .bl c=>Q (.bl (!c)) μ1
 | _=>False
def if3 (c:TT3) (t u:TE3):TE3:=λ ρ μ Q=>c ρ μ λ b μ1=>if b=true then t ρ μ1 Q else u ρ μ1 Q
def nil3:TA3:=λ _ μ Q=>Q [] μ
def va0 (t:TE3) (u:TA3):TA3:=λ ρ μ Q=>t ρ μ λ d μ1=>u ρ μ1 λ ds μ2=>Q (d :: ds) μ2
def tup3 (t:TA3):TE3:=λ ρ μ Q=>t ρ μ λ ds μ1=>ds.length<=sizeLine /\ Q (.tup ds) μ1
def lst3 (t:TA3):TE3:=λ ρ μ Q=>t ρ μ λ ds μ1=>ds.length<=sizeLine /\ ∀ p,μ1 p=none->Q (.ref p) (updM μ1 p (.lst ds))
def vb0 (sp:Sp3) (t:TA3):TE3:=λ ρ μ Q=>t ρ μ λ ds μ1=>sp ds μ1 Q
def mt3 (r:D->List D->Mu->VK3->Prop) (to:TE3) (t:TA3):TE3:=λ ρ μ Q=>to ρ μ λ x μ1=>match x with
 | .ref p=>match μ1 p with
  | some (.lst _)=>t ρ μ1 λ ds μ2=>r (.ref p) ds μ2 Q
  | _=>False
 | _=>False
abbrev TO3:=St3->Mu->(Option Int->Mu->Prop)->Prop
def np3:TO3:=λ _ μ Q=>Q none μ
def pt3 (t:TE3):TO3:=λ ρ μ Q=>t ρ μ λ d μ1=>match d with
 | .int i=>Q (some i) μ1
 | _=>False
def sl3 (r:D->Option Int->Option Int->Mu->VK3->Prop) (te:TE3) (tl th:TO3):TE3:=λ ρ μ Q=>te ρ μ λ x μ1=>tl ρ μ1 λ l μ2=>th ρ μ2 λ u μ3=>r x l u μ3 Q
def sIx3 (n d:Nat):Option Int->Nat
 | none=>d
 | some v=>if v < 0 then (v + (n:Int)).toNat else min v.toNat n
def cut3 {α:Type} (xs:List α) (lo hi:Option Int):List α:=(xs.drop (sIx3 xs.length 0 lo)).take (sIx3 xs.length xs.length hi - sIx3 xs.length 0 lo)
def slR:D->Option Int->Option Int->Mu->VK3->Prop:=λ x lo hi μ Q=>match x with
 | .tup l=>Q (.tup (cut3 l lo hi)) μ
 | .str z=>z.length<=sizeLine /\ Q (.str ⟨(cut3 z.cps.toList lo hi).toArray⟩) μ
 | .ref p=>match μ p with
  | some (.lst l)=>∀ r,μ r=none->Q (.ref r) (updM μ r (.lst (cut3 l lo hi)))
  | _=>False
 | .fls l=>∀ r,μ r=none->Q (.ref r) (updM μ r (.lst (cut3 l lo hi)))
 | _=>False
def sh0:TS3:=λ D ρ μ=>D.nx ρ μ
def yb2:TS3:=λ _ _ _=>False
def seq3 (t u:TS3):TS3:=λ D ρ μ=>t { D with nx:=u D } ρ μ
def tg0 (t:TE3):TS3:=λ D ρ μ=>t ρ μ λ _ μ1=>D.nx ρ μ1
def ret3 (t:TE3):TS3:=λ D ρ μ=>t ρ μ D.rt
def ifs3 (c:TT3) (t u:TS3):TS3:=λ D ρ μ=>c ρ μ λ b μ1=>if b=true then t D ρ μ1 else u D ρ μ1
def gn3 (i:Nat):TG3:=λ d ρ μ Q=>Q (ρ.set i (some d)) μ
def uu0:TGs3:=λ ds ρ μ Q=>match ds with
 | []=>Q ρ μ
 | _=>False
def ze0 (t:TG3) (u:TGs3):TGs3:=λ ds ρ μ Q=>match ds with
 | d :: r=>t d ρ μ λ ρ1 μ1=>u r ρ1 μ1 Q
 | []=>False
def vu0 (n:Nat) (t:TGs3):TG3:=λ d ρ μ Q=>match d with
 | .tup l=>l.length=n /\ t l ρ μ Q
 | _=>False
def set3 (i:Nat) (t:TE3):TS3:=λ D ρ μ=>t ρ μ λ d μ1=>D.nx (ρ.set i (some d)) μ1
def asg3 (t:TE3) (g:TG3):TS3:=λ D ρ μ=>t ρ μ λ d μ1=>g d ρ μ1 D.nx
def ixN (n:Nat) (i:Int):Option Nat:=if 0<=i then (if i < n then some i.toNat else none) else if -(n:Int)<=i then some (i + n).toNat else none
def atI {α:Type} (xs:List α) (i:Int):Option α:=(ixN xs.length i).bind λ j=>xs[j]?
def sub3 (to ti:TE3):TG3:=λ d ρ μ Q=>to ρ μ λ o μ1=>ti ρ μ1 λ i μ2=>match o,i with
 | .ref p,.int k=>match μ2 p with
  | some (.lst xs)=>match ixN xs.length k with
   | some j=>Q ρ (updM μ2 p (.lst (xs.set j d)))
   | none=>False
  | _=>False
 | _,_=>False
def yd1 (S:Mu->Prop) (g:TG3) (tb:TS3) (D':Ends3):List D->St3->Mu->Prop
 | [],ρ,μ=>S μ /\ D'.nx ρ μ
 | x :: r,ρ,μ=>S μ /\ ∃ N:St3->Mu->Prop,(∀ ρ' μ',N ρ' μ'->yd1 S g tb D' r ρ' μ') /\ g x ρ μ λ ρ1 μ1=>tb { D' with nx:=N,ct:=N,bk:=D'.nx } ρ1 μ1
def for3 (ti:TI3) (g:TG3) (tb:TS3):TS3:=λ D' ρ μ=>ti ρ μ λ l S μ1=>yd1 S g tb D' l ρ μ1
theorem sl0 {S:Mu->Prop} {g:TG3} {tb:TS3} {D':Ends3} (W:List D->St3->Mu->Prop) {l:List D} {ρ:St3} {μ:Mu} (h0:W l ρ μ) (hS:∀ l ρ μ,W l ρ μ->S μ) (hn:∀ ρ μ,W [] ρ μ->D'.nx ρ μ)
    (hs:∀ x r ρ μ,W (x :: r) ρ μ->g x ρ μ λ ρ1 μ1=>tb { D' with nx:=W r,ct:=W r,bk:=D'.nx } ρ1 μ1):yd1 S g tb D' l ρ μ:=by
 induction l generalizing ρ μ with
 | nil=>exact ⟨hS _ _ _ h0,hn _ _ h0⟩
 | cons x r ih=>exact ⟨hS _ _ _ h0,W r,λ ρ' μ' q=>ih q,hs x r ρ μ h0⟩
theorem to0 {S:Mu->Prop} {g:TG3} {tb:TS3} {D':Ends3} (W:List D->St3->Mu->Prop) {l:List D} {ρ:St3} {μ:Mu} (h0:W l ρ μ) (hS:∀ l ρ μ,W l ρ μ->S μ) (hn:∀ ρ μ,W [] ρ μ->D'.nx ρ μ)
    (hs:∀ G:D->List D->St3->Mu->Prop,G=(λ x r ρ μ=>g x ρ μ λ ρ1 μ1=>tb { D' with nx:=W r,ct:=W r,bk:=D'.nx } ρ1 μ1)->∀ x r ρ μ,W (x :: r) ρ μ->G x r ρ μ):yd1 S g tb D' l ρ μ:=sl0 W h0 hS hn (hs _ rfl)
def is3 (t:TE3):TI3:=λ ρ μ R=>t ρ μ λ d μ1=>match d with
 | .tup l=>R l (λ _=>True) μ1
 | .fls l=>R l (λ _=>True) μ1
 | .str z=>R (z.cps.toList.map λ c=>D.str ⟨#[c]⟩) (λ _=>True) μ1
 | .ref p=>match μ1 p with
  | some (.lst l)=>R l (λ μ=>μ p=some (.lst l)) μ1
  | _=>False
 | _=>False
def rngD (lo:Int) (n:Nat):List D:=(List.range n).map λ i=>.int (lo + (i:Nat))
theorem vh0 (lo:Int) (n:Nat):rngD lo (n + 1)=.int lo :: rngD (lo + 1) n:=by
 unfold rngD;rw [List.range_succ_eq_map,map_cons,map_map];have e0:lo + ((0:Nat):Int)=lo:=by simp
 rw [e0];congr 1;apply map_congr_left;intro a _;show D.int (lo + ((a + 1:Nat):Int))=D.int (lo + 1 + (a:Int));have e1:lo + ((a + 1:Nat):Int)=lo + 1 + (a:Int):=by omega
 rw [e1]
def ir3 (t:TA3):TI3:=λ ρ μ R=>t ρ μ λ ds μ1=>match ds with
 | [.int j]=>(-(2 ^ 62)<=j /\ j < 2 ^ 62) /\ R (rngD 0 j.toNat) (λ _=>True) μ1
 | _=>False
def ir23 (t:TA3):TI3:=λ ρ μ R=>t ρ μ λ ds μ1=>match ds with
 | [.int i,.int j]=>(-(2 ^ 62)<=i /\ i < 2 ^ 62 /\ -(2 ^ 62)<=j /\ j < 2 ^ 62) /\ R (rngD i (j - i).toNat) (λ _=>True) μ1
 | _=>False
def yt1 (S:Mu->Prop) (p:Addr) (g:TG3) (tc:TT3) (te:TE3) (Q:VK3) (l:List D) (ρ0:St3) (μ0:Mu):Prop :=
 ∃ W:List D->List D->St3->Mu->Prop,W l [] ρ0 μ0 /\ (∀ l ys ρ μ,W l ys ρ μ->S μ /\ μ p=some (.lst ys)) /\ (∀ ys ρ μ,W [] ys ρ μ->Q (.ref p) μ) ∧
  ∀ x r ys ρ μ,W (x :: r) ys ρ μ->ys.length < sizeLine /\ g x ρ μ λ ρ1 μ1=>tc ρ1 μ1 λ b μ2 =>
   if b=true then te ρ1 μ2 λ d μ3=>μ3 p=some (.lst ys) /\ W r (ys ++ [d]) ρ1 (updM μ3 p (.lst (ys ++ [d]))) else W r ys ρ1 μ2
def yi0 (js:List (Option Nat)) (ti:TI3) (g:TG3) (tc:TT3) (te:TE3):TE3:=λ ρ μ Q=>ti ρ μ λ l S μ1=>∀ p,μ1 p=none->yt1 S p g tc te Q l (js.map λ j=>j.bind (getI ρ)) (updM μ1 p (.lst []))
def tt3:TT3:=λ _ μ Q=>Q true μ
theorem wk0 {S:Mu->Prop} {p:Addr} {te:TE3} {Q:VK3} {l:List D} {o:Option D} {rest:St3} {μ:Mu} (f:D->D) (hp:μ p=none) (hl:l.length<=sizeLine) (hS:∀ μ',Ext μ μ'->S μ')
    (hx:∀ x ∈ l,∀ μ' R,Ext μ μ'->(∀ μ2,Ext μ' μ2->R (f x) μ2)->te (some x :: rest) μ' R) (hQ:∀ μ',Ext μ μ'->μ' p=some (.lst (l.map f))->Q (.ref p) μ') :
    yt1 S p (gn3 0) tt3 te Q l (o :: rest) (updM μ p (.lst [])):=by
 refine ⟨λ r ys ρ μ'=>Ext μ μ' /\ μ' p=some (.lst ys) /\ (∃ o',ρ=o' :: rest) /\ ∃ a,a ++ r=l /\ ys=a.map f,?_,?_,?_,?_⟩
 ·exact ⟨Ext.new hp,za0,⟨o,rfl⟩,[],rfl,rfl⟩
 ·rintro r ys ρ μ' ⟨h1,h2,_⟩;exact ⟨hS _ h1,h2⟩
 ·rintro ys ρ μ' ⟨h1,h2,_,a,e,rfl⟩;rw [append_nil] at e;subst e;exact hQ _ h1 h2
 ·rintro x r ys ρ μ' ⟨h1,h2,⟨o',rfl⟩,a,e,rfl⟩;refine ⟨by rw [length_map]; rw [<- e,length_append,length_cons] at hl; omega,?_⟩;show te (some x :: rest) μ' _;refine hx x (by rw [<- e]; simp) μ' _ h1 λ μ2 h3=>⟨h3 _ _ h2,λ b u hb=>?_,za0,⟨_,rfl⟩,a ++ [x],by simp [<- e],by simp⟩;rw [sa0 (ub0 hb hp)];exact h3 _ _ (h1 _ _ hb)
def CPow (i j:Int):Prop:=0<=j /\ j<=1000000 /\ i.natAbs < 2 ^ 64
def Big:Nat:=2 ^ 1000
def CMul (i j:Int):Prop:=((-(2 ^ 64) < i /\ i < 2 ^ 64) \/ (-(2 ^ 64) < j /\ j < 2 ^ 64)) \/ (i.natAbs < Big /\ j.natAbs < Big)
def int2 (C:Int->Int->Prop) (g:Int->Int->D):R3:=λ x y μ Q=>match x,y with
 | .int i,.int j=>C i j /\ Q (g i j) μ
 | _,_=>False
def td2 (g:Int->Int->D):R3:=λ x y μ Q=>match x,y with
 | .int i,.int j=>Q (g i j) μ
 | _,_=>False
def subR:R3:=td2 λ i j=>.int (i - j)
def mulR:R3:=λ x y μ Q=>match x,y with
 | .int i,.int j=>CMul i j /\ Q (.int (i * j)) μ
 | .tup l,.int k=>((-(2 ^ 62)<=k /\ k < 2 ^ 62) /\ l.length * k.toNat<=1000000) /\ Q (.tup (List.replicate k.toNat l).flatten) μ
 | .ref p,.int k=>match μ p with
  | some (.lst l)=>((-(2 ^ 62)<=k /\ k < 2 ^ 62) /\ l.length * k.toNat<=1000000) /\ ∀ r,μ r=none->Q (.ref r) (updM μ r (.lst (List.replicate k.toNat l).flatten))
  | _=>False
 | _,_=>False
def modR:R3:=int2 (λ _ j=>0 < j) λ i j=>.int (i % j)
def zf2:R3:=int2 (λ _ j=>0 < j /\ j < 2 ^ 120) λ i j=>.int (i / j)
def powR:R3:=int2 CPow λ i j=>.int (i ^ j.toNat)
def ltR:R3:=td2 λ i j=>.bl (decide (i < j))
def gtR:R3:=td2 λ i j=>.bl (decide (j < i))
def geR:R3:=td2 λ i j=>.bl (decide (j<=i))
def negR:D->Mu->VK3->Prop:=λ x μ Q=>match x with
 | .int i=>Q (.int (-i)) μ
 | _=>False
def addR:R3:=λ x y μ Q=>match x,y with
 | .int i,.int j=>Q (.int (i + j)) μ
 | .str i,.str j=>i.length + j.length<=sizeLine /\ Q (.str (i ++ j)) μ
 | .ref p,.ref q=>match μ p,μ q with
  | some (.lst xs),some (.lst ys)=>xs.length + ys.length<=sizeLine /\ ∀ r,μ r=none->Q (.ref r) (updM μ r (.lst (xs ++ ys)))
  | _,_=>False
 | .tup l,.tup m=>l.length + m.length<=sizeLine /\ Q (.tup (l ++ m)) μ
 | _,_=>False
def eqS:D->D->Option Bool
 | .int i,.int j=>some (decide (i=j))
 | .bl i,.bl j=>some (decide (i=j))
 | .str i,.str j=>some (decide (i=j))
 | .non,.non=>some true
 | .non,.int _=>some false
 | .int _,.non=>some false
 | .non,.str _=>some false
 | .str _,.non=>some false
 | .int _,.str _=>some false
 | .str _,.int _=>some false
 | _,_=>none
mutual
def dat:D->Option PyData
 | .non=>some .none
 | .bl b=>some (.bool b)
 | .int i=>some (.int i)
 | .str x=>if PyData.strOk x=true then some (.str x) else none
 | .tup l=>match dats l with
  | some ps=>some (.tuple ps)
  | none=>none
 | .ktp l=>match dats l with
  | some ps=>some (.tuple ps)
  | none=>none
 | _=>none
def dats:List D->Option (List PyData)
 | []=>some []
 | d :: r=>match dat d with
  | some p=>match dats r with
   | some ps=>some (p :: ps)
   | none=>none
  | none=>none
end
def datM (μ:Mu):D->Option PyData
 | .ref p=>match μ p with
  | some (.lst l)=>match dats l with
   | some ps=>some (.list ps)
   | none=>none
  | _=>none
 | d=>dat d
def eqR:R3:=λ x y μ Q=>match eqS x y with
 | some c=>Q (.bl c) μ
 | none=>match datM μ x,datM μ y with
  | some p,some q=>(p.depth<=64 /\ q.depth<=64) /\ Q (.bl (PyData.eqv p q)) μ
  | _,_=>False
def neR:R3:=λ x y μ Q=>match eqS x y with
 | some c=>Q (.bl (!c)) μ
 | none=>match datM μ x,datM μ y with
  | some p,some q=>(p.depth<=64 /\ q.depth<=64) /\ Q (.bl (!PyData.eqv p q)) μ
  | _,_=>False
theorem zh1 {x y:D} {μ:Mu} {Q:VK3} {p q:PyData} (e:eqS x y=none) (h1:datM μ x=some p) (h2:datM μ y=some q) (d1:p.depth<=64) (d2:q.depth<=64):eqR x y μ Q=Q (.bl (PyData.eqv p q)) μ:=by
 unfold eqR; rw [e]; simp only [h1,h2,d1,d2,true_and,and_self]
def strs?:List D->Option (List Str)
 | []=>some []
 | .str x :: r=>match strs? r with
  | some l=>some (x :: l)
  | none=>none
 | _ :: _=>none
def inD (neg:Bool):R3:=λ x y μ Q=>match datM μ x,datM μ y with
 | some d,some (.list xs)=>(d.depth<=64 /\ (PyData.list xs).depth<=64) /\ Q (.bl (if neg then !(xs.any λ e=>PyData.eqv e d) else xs.any λ e=>PyData.eqv e d)) μ
 | some d,some (.tuple xs)=>(d.depth<=64 /\ (PyData.tuple xs).depth<=64) /\ Q (.bl (if neg then !(xs.any λ e=>PyData.eqv e d) else xs.any λ e=>PyData.eqv e d)) μ
 | _,_=>False
def inR (neg:Bool):R3:=λ x y μ Q=>match x,y with
 | .str z,.tup l=>match strs? l with
  | some zs=>Q (.bl (if neg then !zs.contains z else zs.contains z)) μ
  | none=>inD neg (.str z) (.tup l) μ Q
 | .str z,.ktp l=>match strs? l with
  | some zs=>Q (.bl (if neg then !zs.contains z else zs.contains z)) μ
  | none=>inD neg (.str z) (.ktp l) μ Q
 | .str z,.str y=>Q (.bl (if neg then !(!(Builtin.Str.occurrences y z 0 y.length 1).isEmpty) else !(Builtin.Str.occurrences y z 0 y.length 1).isEmpty)) μ
 | x,y=>inD neg x y μ Q
def ixR:R3:=λ x y μ Q=>match x,y with
 | .tup l,.int i=>match atI l i with
  | some d=>Q d μ
  | none=>False
 | .ktp l,.int i=>match atI l i with
  | some d=>Q d μ
  | none=>False
 | .fls l,.int i=>match atI l i with
  | some d=>Q d μ
  | none=>False
 | .ref p,.int i=>match μ p with
  | some (.lst l)=>match atI l i with
   | some d=>Q d μ
   | none=>False
  | _=>False
 | _,_=>False
def lenR:C3:=λ ds μ Q=>match ds with
 | [.tup l]=>Q (.int l.length) μ
 | [.fls l]=>Q (.int l.length) μ
 | [.str z]=>z.length<=sizeLine /\ Q (.int z.length) μ
 | [.ref p]=>match μ p with
  | some (.lst l)=>Q (.int l.length) μ
  | _=>False
 | _=>False
def absR:C3:=λ ds μ Q=>match ds with
 | [.int i]=>Q (.int (if i < 0 then -i else i)) μ
 | _=>False
def pop3 (to:TE3):TE3:=λ ρ μ Q=>to ρ μ λ x μ1=>match x with
 | .ref p=>match μ1 p with
  | some (.lst l)=>match l.reverse with
   | d :: r=>Q d (updM μ1 p (.lst r.reverse))
   | []=>False
  | _=>False
 | _=>False
def tupR:C3:=λ ds μ Q=>match ds with
 | [.tup l]=>Q (.tup l) μ
 | [.ref p]=>match μ p with
  | some (.lst l)=>Q (.tup l) μ
  | _=>False
 | _=>False
def ints?:List D->Option (List Int)
 | []=>some []
 | .int x :: r=>match ints? r with
  | some l=>some (x :: l)
  | none=>none
 | _ :: _=>none
def sumR:C3:=λ ds μ Q=>match ds with
 | [.ref p]=>match μ p with
  | some (.lst l)=>match ints? l with
   | some ns=>Q (.int ns.sum) μ
   | none=>False
  | _=>False
 | _=>False
def bls?:List D->Option (List Bool)
 | []=>some []
 | .bl x :: r=>match bls? r with
  | some l=>some (x :: l)
  | none=>none
 | _ :: _=>none
def allR:C3:=λ ds μ Q=>match ds with
 | [.ref p]=>match μ p with
  | some (.lst l)=>match bls? l with
   | some bs=>Q (.bl (bs.all id)) μ
   | none=>False
  | _=>False
 | _=>False
def tyN (μ:Mu):D->Option String
 | .int _=>some "int"
 | .bl _=>some "bool"
 | .str _=>some "str"
 | .tup _=>some "tuple"
 | .non=>some "NoneType"
 | .ref p=>match μ p with
  | some (.lst _)=>some "list"
  | _=>none
 | _=>none
def isIn (t T:String):Option Bool :=
 if t=T then some true
 else if t = "bool" /\ T = "int" then some true
 else if (t = "int" \/ t = "str" \/ t = "tuple" \/ t = "bool" \/ t = "NoneType" \/ t = "list") /\ (T = "int" \/ T = "str" \/ T = "tuple" \/ T = "bool" \/ T = "list") then some false
 else none
def isiR:C3:=λ ds μ Q=>match ds with
 | [d,.ty T]=>match tyN μ d with
  | some t=>match isIn t T with
   | some b=>Q (.bl b) μ
   | none=>False
  | none=>False
 | _=>False
def appR:D->List D->Mu->VK3->Prop:=λ x ds μ Q=>match x,ds with
 | .ref p,[d]=>match μ p with
  | some (.lst l)=>l.length < sizeLine /\ Q .non (updM μ p (.lst (l ++ [d])))
  | _=>False
 | _,_=>False
def extR:D->List D->Mu->VK3->Prop:=λ x ds μ Q=>match x,ds with
 | .ref p,[.ref q]=>match μ p,μ q with
  | some (.lst l),some (.lst m)=>l.length + m.length<=sizeLine /\ Q .non (updM μ p (.lst (l ++ m)))
  | _,_=>False
 | _,_=>False
theorem atI0 {α:Type} {a:α} {r:List α}:atI (a :: r) 0=some a:=by
 unfold atI ixN; rw [if_pos [7],if_pos (by simp only [length_cons]; omega)]; rfl
theorem atI1 {α:Type} {a b:α} {r:List α}:atI (a :: b :: r) 1=some b:=by
 unfold atI ixN; rw [if_pos [7],if_pos (by simp only [length_cons]; omega)]; rfl
theorem ixN0 {n:Nat}:ixN (n + 1) 0=some 0:=by
 unfold ixN; rw [if_pos [7],if_pos [2]]; rfl
theorem ixN1 {n:Nat}:ixN (n + 1 + 1) 1=some 1:=by
 unfold ixN; rw [if_pos [7],if_pos [2]]; rfl
theorem wl4 {α:Type} {l:List α} {i:Int} (h0:0<=i) (h1:i < l.length):∃ d,d ∈ l /\ atI l i=some d:=by
 have hn:i.toNat < l.length:=by omega
 refine ⟨l[i.toNat],getElem_mem hn,?_⟩;unfold atI ixN;rw [if_pos h0,if_pos h1];exact getElem?_eq_getElem hn
def xd0 (N:List Str) (ds:List D):St3:=ds.map some ++ List.replicate (N.length - ds.length) none
def zi1 (c:TT3) (tb:TS3):TS3:=λ D ρ μ=>∃ W:Nat->St3->Mu->Prop,(∃ m,W m ρ μ) /\ ∀ m ρ μ,W m ρ μ ->
 c ρ μ λ b μ1=>if b=true then ∃ N:St3->Mu->Prop,(∀ ρ' μ',N ρ' μ'->∃ m',m' < m /\ W m' ρ' μ') /\ tb { D with nx:=N,ct:=N,bk:=D.nx } ρ μ1 else D.nx ρ μ1
end Pv
namespace Pv
open PySem L2
abbrev Fg:=PySem.W.Frag
structure Kp (H H':Hp):Prop where
 tup:∀ b xs,H b=some (.tup xs)->H' b=some (.tup xs)
 frz:∀ b o u,H b=some (.frz o u)->H' b=some (.frz o u)
theorem Kp.refl (H:Hp):Kp H H:=⟨λ _ _ h=>h,λ _ _ _ h=>h⟩
theorem Kp.trans {a b c:Hp} (h:Kp a b) (k:Kp b c):Kp a c:=⟨λ x xs q=>k.tup x xs (h.tup x xs q),λ x o u q=>k.frz x o u (h.frz x o u q)⟩
theorem Kp.new {H:Hp} {p:Addr} {o:HO} (h:H p=none):Kp H (upd H p o) :=
 ⟨λ b xs q=>by rw [vc0 (tf0 q h)]; exact q,λ b o u q=>by rw [vc0 (tf0 q h)]; exact q⟩
theorem Kp.wr {H:Hp} {p:Addr} {o:HO} {xs:List V} (h:H p=some (.lst xs)):Kp H (upd H p o) :=
 ⟨λ b ys q=>by rw [vc0 (xc1 q h (by intro z; cases z))]; exact q,λ b o u q=>by rw [vc0 (xc1 q h (by intro z; cases z))]; exact q⟩
def SqF (K:Fg) (H:Hp) (a:Addr) (xs:List V):Prop :=
 (∃ o,H a=some (.frz o (.lst xs))) \/ ∃ (o:Obj) (its:Array Value) (n:Nat),K.lookup a=some o /\ o.cls=.type "list" /\ o.dict=none /\ o.data=.seq its n /\ its.size<=sizeLine /\ Vals xs its.toList
theorem SqF.l {K:Fg} {H:Hp} {a:Addr} {xs:List V} (h:SqF K H a xs):SqL K H a xs:=by
 rcases h with ⟨o,h⟩ | h
 ·exact .inl (.inr ⟨o,h⟩)
 ·exact .inr h
theorem SqF.mono {K:Fg} {H H':Hp} {a:Addr} {xs:List V} (k:Kp H H') (h:SqF K H a xs):SqF K H' a xs:=by
 rcases h with ⟨o,h⟩ | h
 ·exact .inl ⟨o,k.frz _ _ _ h⟩
 ·exact .inr h
theorem SqT.mono {K:Fg} {H H':Hp} {a:Addr} {xs:List V} (k:Kp H H') (h:SqT K H a xs):SqT K H' a xs:=by
 rcases h with h | h
 ·rcases h with h | ⟨o,h⟩
  ·exact .inl (.inl (k.tup _ _ h))
  ·exact .inl (.inr ⟨o,k.frz _ _ _ h⟩)
 ·exact .inr h
mutual
inductive RelD (K:Fg) (H:Hp):D->V->Prop where
 | non:RelD K H .non .non
 | bl (b:Bool):RelD K H (.bl b) (.bl b)
 | int (i:Int):RelD K H (.int i) (.int i)
 | str (x:Str):RelD K H (.str x) (.str x)
 | ref (a:Addr):RelD K H (.ref a) (.ref a)
 | ty (n:String):RelD K H (.ty n) (.ty n)
 | tup {a:Addr} {l:List D} {vs:List V}:H a=some (.tup vs)->RelDs K H l vs->RelD K H (.tup l) (.ref a)
 | ktp {a:Addr} {l:List D} {vs:List V}:SqT K H a vs->RelDs K H l vs->RelD K H (.ktp l) (.ref a)
 | fls {a:Addr} {l:List D} {vs:List V}:SqF K H a vs->RelDs K H l vs->RelD K H (.fls l) (.ref a)
 | exc {a C:Addr} {c:Str} {ob:Obj} {u:HO}:H a=some (.frz ob u)->ob.cls=.ref C->nsIn K mainGlobals c=some (some (.ref C))->RelD K H (.exc c) (.ref a)
inductive RelDs (K:Fg) (H:Hp):List D->List V->Prop where
 | nil:RelDs K H [] []
 | cons {d:D} {v:V} {l:List D} {vs:List V}:RelD K H d v->RelDs K H l vs->RelDs K H (d :: l) (v :: vs)
end
mutual
theorem RelD.mono {K:Fg} {H H':Hp} (k:Kp H H'):∀ {d:D} {v:V},RelD K H d v->RelD K H' d v
 | _,_,.non=>.non
 | _,_,.bl b=>.bl b
 | _,_,.int b=>.int b
 | _,_,.str b=>.str b
 | _,_,.ref b=>.ref b
 | _,_,.ty b=>.ty b
 | _,_,.tup h r=>.tup (k.tup _ _ h) (RelDs.mono k r)
 | _,_,.ktp h r=>.ktp (SqT.mono k h) (RelDs.mono k r)
 | _,_,.fls h r=>.fls (SqF.mono k h) (RelDs.mono k r)
 | _,_,.exc h r1 r2=>.exc (k.frz _ _ _ h) r1 r2
theorem RelDs.mono {K:Fg} {H H':Hp} (k:Kp H H'):∀ {d:List D} {v:List V},RelDs K H d v->RelDs K H' d v
 | _,_,.nil=>.nil
 | _,_,.cons h r=>.cons (RelD.mono k h) (RelDs.mono k r)
end
theorem RelDs.length {K:Fg} {H:Hp}:∀ {l:List D} {vs:List V},RelDs K H l vs->l.length=vs.length
 | _,_,.nil=>rfl
 | _,_,.cons _ r=>congrArg (· + 1) r.length
theorem RelDs.get {K:Fg} {H:Hp}:∀ {l:List D} {vs:List V} {i:Nat} {d:D},RelDs K H l vs->l[i]?=some d->∃ v,vs[i]?=some v /\ RelD K H d v
 | _,_,_,_,.nil,e=>by simp at e
 | _,_,0,_,.cons h _,e=>by simp at e; subst e; exact ⟨_,rfl,h⟩
 | _,_,i + 1,d,.cons _ r,e=>by
  obtain ⟨v,h1,h2⟩:=RelDs.get (i:=i) (d:=d) r (by simpa using e);exact ⟨v,by simpa using h1,h2⟩
theorem RelDs.append {K:Fg} {H:Hp}:∀ {l m:List D} {vs us:List V},RelDs K H l vs->RelDs K H m us->RelDs K H (l ++ m) (vs ++ us)
 | _,_,_,_,.nil,q=>q
 | _,_,_,_,.cons h r,q=>.cons h (RelDs.append r q)
theorem RelDs.set {K:Fg} {H:Hp} {d:D} {v:V} (hd:RelD K H d v):∀ {l:List D} {vs:List V} (i:Nat),RelDs K H l vs->RelDs K H (l.set i d) (vs.set i v)
 | _,_,_,.nil=>.nil
 | _,_,0,.cons _ r=>.cons hd r
 | _,_,i + 1,.cons h r=>.cons h (RelDs.set hd i r)
theorem RelDs.take {K:Fg} {H:Hp}:∀ {l:List D} {vs:List V} (n:Nat),RelDs K H l vs->RelDs K H (l.take n) (vs.take n)
 | _,_,0,r=>by simp only [List.take_zero]; exact .nil
 | _,_,n + 1,.nil=>by simp only [List.take_nil]; exact .nil
 | _,_,n + 1,.cons h r=>by simp only [List.take_succ_cons]; exact .cons h (RelDs.take n r)
theorem RelDs.drop {K:Fg} {H:Hp}:∀ {l:List D} {vs:List V} (n:Nat),RelDs K H l vs->RelDs K H (l.drop n) (vs.drop n)
 | _,_,0,r=>by simp only [List.drop_zero]; exact r
 | _,_,n + 1,.nil=>by simp only [List.drop_nil]; exact .nil
 | _,_,n + 1,.cons h r=>by simp only [List.drop_succ_cons]; exact RelDs.drop n r
theorem RelDs.rep {K:Fg} {H:Hp} {l:List D} {vs:List V} (r:RelDs K H l vs):∀ k:Nat,RelDs K H (List.replicate k l).flatten (List.replicate k vs).flatten
 | 0=>.nil
 | k + 1=>by rw [replicate_succ,replicate_succ,flatten_cons,flatten_cons]; exact r.append (RelDs.rep r k)
inductive RelFs (K:Fg) (H:Hp):List (Str × D)->List (Str × V)->Prop where
 | nil:RelFs K H [] []
 | cons {f:Str} {d:D} {v:V} {l:List (Str × D)} {vs:List (Str × V)}:RelD K H d v->RelFs K H l vs->RelFs K H ((f,d) :: l) ((f,v) :: vs)
theorem RelFs.mono {K:Fg} {H H':Hp} (k:Kp H H') {l:List (Str × D)} {vs:List (Str × V)} (r:RelFs K H l vs):RelFs K H' l vs:=by
 induction r with
 | nil=>exact .nil
 | cons h _ ih=>exact .cons (h.mono k) ih
inductive RelKk (K:Fg) (H:Hp):List (Key × D)->List (Key × V)->Prop where
 | nil:RelKk K H [] []
 | cons {t:Key} {d:D} {v:V} {l:List (Key × D)} {vs:List (Key × V)}:RelD K H d v->RelKk K H l vs->RelKk K H ((t,d) :: l) ((t,v) :: vs)
theorem RelKk.mono {K:Fg} {H H':Hp} (k:Kp H H') {l:List (Key × D)} {vs:List (Key × V)} (r:RelKk K H l vs):RelKk K H' l vs:=by
 induction r with
 | nil=>exact .nil
 | cons h _ ih=>exact .cons (h.mono k) ih
def kL (k:List Int):List Key:=k.map Sum.inl
inductive RelKl (K:Fg) (H:Hp):List (List Int × D)->List (List Key × V)->Prop where
 | nil:RelKl K H [] []
 | cons {t:List Int} {d:D} {v:V} {l:List (List Int × D)} {vs:List (List Key × V)}:RelD K H d v->RelKl K H l vs->RelKl K H ((t,d) :: l) ((kL t,v) :: vs)
theorem RelKl.mono {K:Fg} {H H':Hp} (k:Kp H H') {l:List (List Int × D)} {vs:[31]} (r:RelKl K H l vs):RelKl K H' l vs:=by
 induction r with
 | nil=>exact .nil
 | cons h _ ih=>exact .cons (h.mono k) ih
structure RelM (K:Fg) (μ:Mu) (H:Hp):Prop where
 lst:∀ p xs,μ p=some (.lst xs)->∃ vs,H p=some (.lst vs) /\ RelDs K H xs vs
 ins:∀ p c fs,μ p=some (.ins c fs)->∃ C dx vs,nsIn K mainGlobals c=some (some (.ref C)) /\ H p=some (.ins C dx vs) /\ H dx=some (.own p) /\ RelFs K H fs vs
 dck:∀ p kvs,μ p=some (.dck kvs)->∃ vs,H p=some (.dK vs) /\ RelKk K H kvs vs
 dcl:∀ p kvs,μ p=some (.dcl kvs)->∃ vs,H p=some (.dT vs) /\ RelKl K H kvs vs
instance {K:Fg} {μ:Mu} {H:Hp}:CoeFun (RelM K μ H) (λ _=>∀ p xs,μ p=some (.lst xs)->∃ vs,H p=some (.lst vs) /\ RelDs K H xs vs):=⟨RelM.lst⟩
theorem RelM.free {K:Fg} {μ:Mu} {H:Hp} (m:RelM K μ H) {p:Addr} (h:H p=none):μ p=none:=by
 cases e:μ p with
 | none=>rfl
 | some o =>
  cases o with
  | lst xs =>
   obtain ⟨vs,q,_⟩:=m.lst p xs e;rw [h] at q; cases q
  | ins c fs =>
   obtain ⟨C,dx,vs,_,q,_⟩:=m.ins p c fs e;rw [h] at q; cases q
  | dck kvs =>
   obtain ⟨vs,q,_⟩:=m.dck p kvs e;rw [h] at q; cases q
  | dcl kvs =>
   obtain ⟨vs,q,_⟩:=m.dcl p kvs e;rw [h] at q; cases q
theorem RelM.newT {K:Fg} {μ:Mu} {H:Hp} {p:Addr} {o:HO} (h:H p=none) (m:RelM K μ H):RelM K μ (upd H p o):=by
 have ne:∀ {q:Addr} {u:HO},H q=some u->q ≠ p:=λ {q u} e z=>by subst z; rw [h] at e; cases e
 refine ⟨λ q xs e=>?_,λ q c fs e=>?_,λ q kvs e=>?_,λ q kvs e=>?_⟩
 ·obtain ⟨vs,q1,r⟩:=m.lst q xs e;exact ⟨vs,by rw [vc0 (ne q1)]; exact q1,r.mono (Kp.new h)⟩
 ·obtain ⟨C,dx,vs,n,q1,q2,r⟩:=m.ins q c fs e;exact ⟨C,dx,vs,n,by rw [vc0 (ne q1)]; exact q1,by rw [vc0 (ne q2)]; exact q2,r.mono (Kp.new h)⟩
 ·obtain ⟨vs,q1,r⟩:=m.dck q kvs e;exact ⟨vs,by rw [vc0 (ne q1)]; exact q1,r.mono (Kp.new h)⟩
 ·obtain ⟨vs,q1,r⟩:=m.dcl q kvs e;exact ⟨vs,by rw [vc0 (ne q1)]; exact q1,r.mono (Kp.new h)⟩
theorem RelM.newL {K:Fg} {μ:Mu} {H:Hp} {p:Addr} {xs:List D} {vs:List V} (h:H p=none) (r:RelDs K H xs vs) (m:RelM K μ H):RelM K (updM μ p (.lst xs)) (upd H p (.lst vs)):=by
 have m':=m.newT (o:=.lst vs) h;refine ⟨λ q ys e=>?_,λ q c fs e=>?_,λ q kvs e=>?_,λ q kvs e=>?_⟩
 ·by_cases z:q=p
  ·subst z;rw [za0] at e; cases e;exact ⟨vs,ve0,r.mono (Kp.new h)⟩
  ·rw [sa0 z] at e;exact m'.lst q ys e
 ·by_cases z:q=p
  ·subst z;rw [za0] at e; cases e
  ·rw [sa0 z] at e;exact m'.ins q c fs e
 ·by_cases z:q=p
  ·subst z;rw [za0] at e; cases e
  ·rw [sa0 z] at e;exact m'.dck q kvs e
 ·by_cases z:q=p
  ·subst z;rw [za0] at e; cases e
  ·rw [sa0 z] at e;exact m'.dcl q kvs e
theorem RelM.wr {K:Fg} {μ:Mu} {H:Hp} {p:Addr} {xs:List D} {vs ws:List V} (h:H p=some (.lst ws)) (r:RelDs K H xs vs) (m:RelM K μ H):RelM K (updM μ p (.lst xs)) (upd H p (.lst vs)):=by
 refine ⟨λ q ys e=>?_,λ q c fs e=>?_,λ q kvs e=>?_,λ q kvs e=>?_⟩
 ·by_cases z:q=p
  ·subst z;rw [za0] at e; cases e;exact ⟨vs,ve0,r.mono (Kp.wr h)⟩
  ·rw [sa0 z] at e;rw [vc0 z];obtain ⟨us,q1,r1⟩:=m.lst q ys e;exact ⟨us,q1,r1.mono (Kp.wr h)⟩
 ·by_cases z:q=p
  ·subst z;rw [za0] at e; cases e
  ·rw [sa0 z] at e;obtain ⟨C,dx,us,n,q1,q2,r1⟩:=m.ins q c fs e;refine ⟨C,dx,us,n,by rw [vc0 z]; exact q1,?_,r1.mono (Kp.wr h)⟩;rw [vc0]
   ·exact q2
   ·intro y; subst y; rw [h] at q2; cases q2
 ·by_cases z:q=p
  ·subst z;rw [za0] at e; cases e
  ·rw [sa0 z] at e;rw [vc0 z];obtain ⟨us,q1,r1⟩:=m.dck q kvs e;exact ⟨us,q1,r1.mono (Kp.wr h)⟩
 ·by_cases z:q=p
  ·subst z;rw [za0] at e; cases e
  ·rw [sa0 z] at e;rw [vc0 z];obtain ⟨us,q1,r1⟩:=m.dcl q kvs e;exact ⟨us,q1,r1.mono (Kp.wr h)⟩
structure RSt (K:Fg) (H:Hp) (ρ:St3) (σ:St):Prop where
 len:ρ.length=σ.length
 at':∀ i d,getI ρ i=some d->∃ v,σ[i]?=some (some v) /\ RelD K H d v
theorem RSt.mono {K:Fg} {H H':Hp} {ρ:St3} {σ:St} (k:Kp H H') (s:RSt K H ρ σ):RSt K H' ρ σ:=⟨s.len,λ i d e=>let ⟨v,h,r⟩:=s.at' i d e; ⟨v,h,r.mono k⟩⟩
theorem zo1:∀ (ρ:St3) (i j:Nat) (d:Option D),getI (ρ.set i d) j=if i=j /\ i < ρ.length then d else getI ρ j
 | [],i,j,d=>by simp [getI]
 | o :: r,0,0,d=>by simp [getI]
 | o :: r,0,j + 1,d=>by simp [getI]
 | o :: r,i + 1,0,d=>by simp [getI]
 | o :: r,i + 1,j + 1,d=>by simp only [List.set_cons_succ,getI,zo1 r i j d,length_cons]; simp
theorem RSt.set {K:Fg} {H:Hp} {ρ:St3} {σ:St} {d:D} {v:V} (i:Nat) (r:RelD K H d v) (s:RSt K H ρ σ):RSt K H (ρ.set i (some d)) (σ.set i (some v)):=by
 refine ⟨by simp [s.len],λ j e h=>?_⟩;rw [zo1] at h;split at h
 ·next c =>
  obtain ⟨rfl,c2⟩:=c;cases h;exact ⟨v,by rw [List.getElem?_set_self (by rw [<- s.len]; exact c2)],r⟩
 ·next c =>
  obtain ⟨u,q,r'⟩:=s.at' j e h;have hj:j < σ.length:=(List.getElem?_eq_some_iff.mp q).1;by_cases z:i=j
  ·subst z; exact absurd ⟨rfl,by rw [s.len]; exact hj⟩ c
  ·exact ⟨u,by rw [List.getElem?_set_ne z]; exact q,r'⟩
theorem RSt.start {K:Fg} {H:Hp} {ds:List D} {vs:List V} (N:List Str) (r:RelDs K H ds vs):RSt K H (xd0 N ds) (L2.start N vs):=by
 have hl:=r.length;refine ⟨by simp [xd0,L2.start,hl],λ i d e=>?_⟩;rw [xh1] at e;unfold xd0 at e;unfold L2.start;by_cases c:i < ds.length
 ·rw [getElem?_append_left (by simpa using c),getElem?_map] at e;cases q:ds[i]? with
  | none=>rw [q] at e; cases e
  | some d' =>
   rw [q] at e;have e':d'=d:=by simpa using e
   subst e';obtain ⟨v,h1,h2⟩:=r.get q;exact ⟨v,by rw [getElem?_append_left [18],getElem?_map,h1]; rfl,h2⟩
 ·rw [List.getElem?_append_right (by simpa using c),List.getElem?_replicate] at e;split at e <;> simp at e
abbrev Ks (K:Fg) (H:Hp) (Q3:VK3) (Q:VK):Prop:=∀ d μ' v H',Q3 d μ'->Kp H H'->RelD K H' d v->RelM K μ' H'->Q v H'
theorem Ks.after {K:Fg} {H H1:Hp} {Q3:VK3} {Q:VK} (k:Ks K H Q3 Q) (e:Kp H H1):Ks K H1 Q3 Q:=λ d μ v H' q e'=>k d μ v H' q (e.trans e')
def RdE (K:Fg) (tv:TE) (t:TE3):Prop:=∀ σ H Q ρ μ Q3,RSt K H ρ σ->RelM K μ H->t ρ μ Q3->Ks K H Q3 Q->tv σ H Q
def RE (X:Cx) (e:Expr) (t:TE3):Prop:=∃ tv,PE X e tv /\ RdE X.K tv t
def RdT (K:Fg) (tv:TT) (t:TT3):Prop:=∀ σ H Q ρ μ Q3,RSt K H ρ σ->RelM K μ H->t ρ μ Q3->(∀ b μ' H',Q3 b μ'->Kp H H'->RelM K μ' H'->Q b H')->tv σ H Q
def RT (X:Cx) (e:Expr) (t:TT3):Prop:=∃ tv,PT X e tv /\ RdT X.K tv t
def RW (X:Cx) (e:Expr) (t:TT3):Prop:=∃ tv,PW X e tv /\ RdT X.K tv t
def RdA (K:Fg) (tv:TA) (t:TA3):Prop:=∀ σ H Q ρ μ Q3,RSt K H ρ σ->RelM K μ H->t ρ μ Q3->(∀ ds μ' vs H',Q3 ds μ'->Kp H H'->RelDs K H' ds vs->RelM K μ' H'->Q vs H')->tv σ H Q
def RA (X:Cx) (es:List Expr) (t:TA3):Prop:=∃ tv,PA X es tv /\ RdA X.K tv t
structure KsD (K:Fg) (H:Hp) (D3:Ends3) (D:Ends):Prop where
 nx:∀ ρ μ σ H',D3.nx ρ μ->Kp H H'->RSt K H' ρ σ->RelM K μ H'->D.nx σ H'
 bk:∀ ρ μ σ H',D3.bk ρ μ->Kp H H'->RSt K H' ρ σ->RelM K μ H'->D.bk σ H'
 ct:∀ ρ μ σ H',D3.ct ρ μ->Kp H H'->RSt K H' ρ σ->RelM K μ H'->D.ct σ H'
 rt:Ks K H D3.rt D.rt
theorem KsD.after {K:Fg} {H H1:Hp} {D3:Ends3} {D:Ends} (k:KsD K H D3 D) (e:Kp H H1):KsD K H1 D3 D :=
 ⟨λ ρ μ σ H' q e'=>k.nx ρ μ σ H' q (e.trans e'),λ ρ μ σ H' q e'=>k.bk ρ μ σ H' q (e.trans e'),λ ρ μ σ H' q e'=>k.ct ρ μ σ H' q (e.trans e'),k.rt.after e⟩
def RdS (K:Fg) (tv:TS) (t:TS3):Prop:=∀ σ H D ρ μ D3,RSt K H ρ σ->RelM K μ H->t D3 ρ μ->KsD K H D3 D->tv D σ H
def RS (X:Cx) (st:Stmt) (t:TS3):Prop:=∃ tv,PS X st tv /\ RdS X.K tv t
def RSs (X:Cx) (st:List Stmt) (t:TS3):Prop:=∃ tv,PSs X st tv /\ RdS X.K tv t
def RdG (K:Fg) (tv:TG) (t:TG3):Prop:=∀ v d σ H Q ρ μ Q3,RSt K H ρ σ->RelM K μ H->RelD K H d v->t d ρ μ Q3->(∀ ρ' μ' σ' H',Q3 ρ' μ'->Kp H H'->RSt K H' ρ' σ'->RelM K μ' H'->Q σ' H')->tv v σ H Q
def RG (X:Cx) (e:Expr) (t:TG3):Prop:=∃ tv,PG X e tv /\ RdG X.K tv t
def RdGs (K:Fg) (tv:TGs) (t:TGs3):Prop:=∀ vs ds σ H Q ρ μ Q3,RSt K H ρ σ->RelM K μ H->RelDs K H ds vs->t ds ρ μ Q3->(∀ ρ' μ' σ' H',Q3 ρ' μ'->Kp H H'->RSt K H' ρ' σ'->RelM K μ' H'->Q σ' H')->tv vs σ H Q
def RGs (X:Cx) (es:List Expr) (t:TGs3):Prop:=∃ tv,PGs X es tv /\ RdGs X.K tv t
def RdO (K:Fg) (r:R2) (r3:R3):Prop:=∀ x y v u H Q μ Q3,RelM K μ H->RelD K H x v->RelD K H y u->r3 x y μ Q3->Ks K H Q3 Q->r v u H Q
def RO (X:Cx) (f:Value->Value->Sem Value) (r3:R3):Prop:=∃ r,OpR X f r /\ RdO X.K r r3
def RdU (K:Fg) (r:V->Hp->VK->Prop) (r3:D->Mu->VK3->Prop):Prop:=∀ x v H Q μ Q3,RelM K μ H->RelD K H x v->r3 x μ Q3->Ks K H Q3 Q->r v H Q
def RU (X:Cx) (f:Value->Sem Value) (r3:D->Mu->VK3->Prop):Prop:=∃ r,UnR X f r /\ RdU X.K r r3
def RdC (K:Fg) (r:List V->Hp->VK->Prop) (r3:C3):Prop:=∀ xs vs H Q μ Q3,RelM K μ H->RelDs K H xs vs->r3 xs μ Q3->Ks K H Q3 Q->r vs H Q
def RC (X:Cx) (f:Value) (r3:C3):Prop:=∃ r,CallR X f r /\ RdC X.K r r3
def RX (X:Cx) (r3:R3):Prop:=∃ r,IxR X r /\ RdO X.K r r3
section
variable {X:Cx} {a b c e:Expr} {ta tb tc te:TE3} {pos:Pos}
theorem ya0 (i:Nat) {x:Str} (hN:X.N[i]?=some x:=by rfl) (hv:Vis X.env.scope x:=by first | exact Or.inl rfl | exact Or.inr (Or.inl rfl) | exact Or.inr (Or.inr rfl)) (hd:(x == ("__debug__" : Str))=false:=by decide)
    (hcd:(x == ("__classdict__" : Str))=false:=by decide):RE X (.Name x pos) (v3 i):=by
 refine ⟨_,tv2 hN hv hd hcd,λ σ H Q ρ μ Q3 s m h k=>?_⟩;unfold v3 at h;cases q:getI ρ i with
 | none=>rw [q] at h; exact h.elim
 | some d =>
  rw [q] at h;obtain ⟨v,e,r⟩:=s.at' i d q;exact ⟨v,e,k d μ v H h (Kp.refl H) r m⟩
theorem RdE.cst {K:Fg} {d:D} {v:V} (r:∀ H,RelD K H d v):RdE K (tC v) (c3 d):=λ σ H Q ρ μ Q3 s m h k=>k d μ v H h (Kp.refl H) (r H) m
theorem xb0 {i:Int} {j}:RE X (.Constant (.int i) j pos) (c3 (.int i)):=⟨_,ye4,RdE.cst λ _=>.int i⟩
theorem xy1 {i:Bool} {j}:RE X (.Constant (.bool i) j pos) (c3 (.bl i)):=⟨_,vt4,RdE.cst λ _=>.bl i⟩
theorem yb1 {j}:RE X (.Constant .none j pos) (c3 .non):=⟨_,td4,RdE.cst λ _=>.non⟩
def Gd (K:Fg) (mg:Str->Option Value) (x:Str) (d:D):Prop:=∃ u v,mg x=some u /\ RelV v u /\ ∀ H,RelD K H d v
theorem re_g {x:Str} {d:D} (g:Gd X.K X.mg x d) (hg:Gl X x:=by rfl) (hd:(x == ("__debug__" : Str))=false:=by decide):RE X (.Name x pos) (c3 d):=by
 obtain ⟨u,v,hm,r,rd⟩:=g;exact ⟨_,vf3 hg hm r hd,RdE.cst rd⟩
theorem vc3 {x:Str} {T:String} (hm:X.mg x=none) (hv:bootBuiltins x=some (.type T)) (hg:Gl X x:=by rfl) (hn:x ≠ "__name__" := by decide) (hd:(x == ("__debug__" : Str))=false:=by decide):RE X (.Name x pos) (c3 (.ty T)) :=
 ⟨_,zg3 hg hm hv (show RelV (.ty T) (.type T) from rfl) hn hd,RdE.cst λ _=>.ty T⟩
theorem wc0 {op:Operator} {r3:R3} (ho:RO X (binaryOp op) r3) (ha:RE X a ta) (hb:RE X b tb):RE X (.BinOp a op b pos) (o3 r3 ta tb):=by
 obtain ⟨r,po,ro⟩:=ho;obtain ⟨va,pa,ra⟩:=ha;obtain ⟨vb,pb,rb⟩:=hb
 exact ⟨_,yt4 po pa pb,λ σ H Q ρ μ Q3 s m h k=>ra σ H _ ρ μ _ s m h λ x μ1 v H1 h1 k1 r1 m1=>rb σ H1 _ ρ μ1 _ (s.mono k1) m1 h1 λ y μ2 u H2 h2 k2 r2 m2 =>
  ro x y v u H2 Q μ2 Q3 m2 (r1.mono k2) r2 h2 (k.after (k1.trans k2))⟩
theorem um2 {op:UnaryOp} {r3:D->Mu->VK3->Prop} (ho:RU X (unaryOp op) r3) (ha:RE X a ta):RE X (.UnaryOp op a pos) (un3 r3 ta):=by
 obtain ⟨r,po,ro⟩:=ho;obtain ⟨va,pa,ra⟩:=ha;exact ⟨_,ss4 po pa,λ σ H Q ρ μ Q3 s m h k=>ra σ H _ ρ μ _ s m h λ x μ1 v H1 h1 k1 r1 m1=>ro x v H1 Q μ1 Q3 m1 r1 h1 (k.after k1)⟩
theorem RdE.op {K:Fg} {r:R2} {r3:R3} {va vb:TE} (ra:RdE K va ta) (rb:RdE K vb tb) (ro:RdO K r r3):RdE K (tOp r va vb) (o3 r3 ta tb):=λ σ H Q ρ μ Q3 s m h k =>
 ra σ H _ ρ μ _ s m h λ x μ1 v H1 h1 k1 r1 m1=>rb σ H1 _ ρ μ1 _ (s.mono k1) m1 h1 λ y μ2 u H2 h2 k2 r2 m2=>ro x y v u H2 Q μ2 Q3 m2 (r1.mono k2) r2 h2 (k.after (k1.trans k2))
theorem RdT.test {K:Fg} {va:TE} (ra:RdE K va ta):RdT K (yr3 va) (b3 ta):=λ σ H Q ρ μ Q3 s m h k=>by
 refine ra σ H _ ρ μ _ s m h λ d μ1 v H1 h1 k1 r1 m1=>?_;cases r1 with
 | bl c=>exact ⟨c,rfl,k c μ1 H1 h1 k1 m1⟩
 | _=>exact False.elim h1
theorem zr0 {op:CmpOp} {r3:R3} (ho:RO X (compareOp op) r3) (ha:RE X a ta) (hb:RE X b tb) (hm:behindInMarks op b=false:=by first | exact yw2 _ | with_unfolding_all rfl):RE X (.Compare a [op] [b] pos) (o3 r3 ta tb):=by
 obtain ⟨r,po,ro⟩:=ho;obtain ⟨va,pa,ra⟩:=ha;obtain ⟨vb,pb,rb⟩:=hb;exact ⟨_,sf3 po pa pb hm,ra.op rb ro⟩
theorem yd0 {op:CmpOp} {r3:R3} (ho:RO X (compareOp op) r3) (ha:RE X a ta) (hb:RE X b tb) (hm:behindInMarks op b=false:=by first | exact yw2 _ | with_unfolding_all rfl):RT X (.Compare a [op] [b] pos) (b3 (o3 r3 ta tb)):=by
 obtain ⟨r,po,ro⟩:=ho;obtain ⟨va,pa,ra⟩:=ha;obtain ⟨vb,pb,rb⟩:=hb;exact ⟨_,sd3 po pa pb hm,RdT.test (ra.op rb ro)⟩
theorem su2 (ha:RE X a ta) (he:∀ whole,isTrue a X.env whole=(do let v <- whole; standAt a.pos; holding [v] (truthy v)):=by intro _; rfl):RT X a (b3 ta):=by
 obtain ⟨va,pa,ra⟩:=ha;exact ⟨_,yc4 pa he,RdT.test ra⟩
variable {tA tB':TT3} {rest:List Expr}
theorem RW.pt (h:RW X a tA):RT X a tA:=let ⟨t,p,r⟩:=h; ⟨t,p.pt,r⟩
theorem yc3 (h:RW X a tA):RT X a tA:=h.pt
theorem wc3 (h:RT X a tA):RW X (.BoolOp .And [a] pos) tA:=let ⟨t,p,r⟩:=h; ⟨t,vd3 p,r⟩
theorem tu2 (h:RT X a tA):RW X (.BoolOp .Or [a] pos) tA:=let ⟨t,p,r⟩:=h; ⟨t,zb4 p,r⟩
theorem zu3 (ha:RT X a tA) (hb:RW X (.BoolOp .And (b :: rest) pos) tB'):RW X (.BoolOp .And (a :: b :: rest) pos) (and3 tA tB'):=by
 obtain ⟨va,pa,ra⟩:=ha;obtain ⟨vb,pb,rb⟩:=hb;refine ⟨_,wb4 pa pb,λ σ H Q ρ μ Q3 s m h k=>ra σ H _ ρ μ _ s m h λ c μ1 H1 h1 k1 m1=>?_⟩;cases c with
 | true=>exact rb σ H1 Q ρ μ1 Q3 (s.mono k1) m1 h1 λ b μ' H' q e=>k b μ' H' q (k1.trans e)
 | false=>exact k _ _ _ h1 k1 m1
theorem zc3 (ha:RT X a tA) (hb:RW X (.BoolOp .Or (b :: rest) pos) tB'):RW X (.BoolOp .Or (a :: b :: rest) pos) (or3 tA tB'):=by
 obtain ⟨va,pa,ra⟩:=ha;obtain ⟨vb,pb,rb⟩:=hb;refine ⟨_,ws4 pa pb,λ σ H Q ρ μ Q3 s m h k=>ra σ H _ ρ μ _ s m h λ c μ1 H1 h1 k1 m1=>?_⟩;cases c with
 | true=>exact k _ _ _ h1 k1 m1
 | false=>exact rb σ H1 Q ρ μ1 Q3 (s.mono k1) m1 h1 λ b μ' H' q e=>k b μ' H' q (k1.trans e)
theorem xv2 (ha:RT X a tA):RT X (.UnaryOp .Not a pos) (not3 tA):=by
 obtain ⟨va,pa,ra⟩:=ha;exact ⟨_,zc4 pa,λ σ H Q ρ μ Q3 s m h k=>ra σ H _ ρ μ _ s m h λ c μ1 H1 h1 k1 m1=>k _ _ _ h1 k1 m1⟩
theorem vl1 {op} (h:RE X a ta):RE X (.BoolOp op [a] pos) ta:=let ⟨t,p,r⟩:=h; ⟨t,vd4 p,r⟩
theorem ul1 (ha:RE X a ta) (hb:RE X (.BoolOp .And (b :: rest) pos) tb):RE X (.BoolOp .And (a :: b :: rest) pos) (wj2 ta tb):=by
 obtain ⟨va,pa,ra⟩:=ha;obtain ⟨vb,pb,rb⟩:=hb;refine ⟨_,we4 pa pb,λ σ H Q ρ μ Q3 s m h k=>ra σ H _ ρ μ _ s m h λ d μ1 v H1 h1 k1 r1 m1=>?_⟩;cases r1 with
 | bl c =>
  refine ⟨c,rfl,?_⟩;cases c with
  | true=>exact rb σ H1 Q ρ μ1 Q3 (s.mono k1) m1 h1 (k.after k1)
  | false=>exact k _ _ _ _ h1 k1 (.bl _) m1
 | _=>exact False.elim h1
theorem vx3 (ha:RE X a ta) (hb:RE X (.BoolOp .Or (b :: rest) pos) tb):RE X (.BoolOp .Or (a :: b :: rest) pos) (orV3 ta tb):=by
 obtain ⟨va,pa,ra⟩:=ha;obtain ⟨vb,pb,rb⟩:=hb;refine ⟨_,xt4 pa pb,λ σ H Q ρ μ Q3 s m h k=>ra σ H _ ρ μ _ s m h λ d μ1 v H1 h1 k1 r1 m1=>?_⟩;cases r1 with
 | bl c =>
  refine ⟨c,rfl,?_⟩;cases c with
  | true=>exact k _ _ _ _ h1 k1 (.bl _) m1
  | false=>exact rb σ H1 Q ρ μ1 Q3 (s.mono k1) m1 h1 (k.after k1)
 | _=>exact False.elim h1
theorem zv2 (ha:RE X a ta):RE X (.UnaryOp .Not a pos) (yh3 ta):=by
 obtain ⟨va,pa,ra⟩:=ha;refine ⟨_,ud4 pa,λ σ H Q ρ μ Q3 s m h k=>ra σ H _ ρ μ _ s m h λ d μ1 v H1 h1 k1 r1 m1=>?_⟩;cases r1 with
 | bl c=>exact ⟨c,rfl,k _ _ _ _ h1 k1 (.bl _) m1⟩
 | _=>exact False.elim h1
theorem tx3 (hc:RT X c tA) (ha:RE X a ta) (hb:RE X b tb):RE X (.IfExp c a b pos) (if3 tA ta tb):=by
 obtain ⟨vc,pc,rc⟩:=hc;obtain ⟨va,pa,ra⟩:=ha;obtain ⟨vb,pb,rb⟩:=hb;refine ⟨_,tn2 pc pa pb,λ σ H Q ρ μ Q3 s m h k=>rc σ H _ ρ μ _ s m h λ c μ1 H1 h1 k1 m1=>?_⟩;cases c with
 | true=>exact ra σ H1 Q ρ μ1 Q3 (s.mono k1) m1 h1 (k.after k1)
 | false=>exact rb σ H1 Q ρ μ1 Q3 (s.mono k1) m1 h1 (k.after k1)
variable {es:List Expr} {t:TA3}
theorem ta0:RA X [] nil3:=⟨_,ue4,λ σ H Q ρ μ Q3 s m h k=>k [] μ [] H h (Kp.refl H) .nil m⟩
theorem xa0 (ha:RE X e te) (hr:RA X es t) (hs:starEach (e :: es) X.env=[35] :: starEach es X.env:=by rfl):RA X (e :: es) (va0 te t):=by
 obtain ⟨va,pa,ra⟩:=ha;obtain ⟨vb,pb,rb⟩:=hr
 exact ⟨_,wg3 pa pb hs,λ σ H Q ρ μ Q3 s m h k=>ra σ H _ ρ μ _ s m h λ d μ1 v H1 h1 k1 r1 m1=>rb σ H1 _ ρ μ1 _ (s.mono k1) m1 h1 λ ds μ2 vs H2 h2 k2 r2 m2 =>
  k _ _ _ _ h2 (k1.trans k2) (.cons (r1.mono k2) r2) m2⟩
theorem sc0 {x1} (h:RA X es t):RE X (.Tuple es x1 pos) (tup3 t):=by
 obtain ⟨va,pa,ra⟩:=h;refine ⟨_,wd4 pa,λ σ H Q ρ μ Q3 s m h k=>ra σ H _ ρ μ _ s m h λ ds μ1 vs H1 h1 k1 r1 m1=>⟨by rw [<- r1.length]; exact h1.1,λ p hp=>?_⟩⟩;exact k _ _ _ _ h1.2 (k1.trans (Kp.new hp)) (.tup ve0 (r1.mono (Kp.new hp))) (m1.newT hp)
theorem ud0 (h:RA X es t):RE X (.List es pos) (lst3 t):=by
 obtain ⟨va,pa,ra⟩:=h;refine ⟨_,xe4 pa,λ σ H Q ρ μ Q3 s m h k=>ra σ H _ ρ μ _ s m h λ ds μ1 vs H1 h1 k1 r1 m1=>⟨by rw [<- r1.length]; exact h1.1,λ p hp=>?_⟩⟩;exact k _ _ _ _ (h1.2 p (m1.free hp)) (k1.trans (Kp.new hp)) (.ref p) (m1.newL hp r1)
variable {st:Stmt} {sts:List Stmt} {t3 u3:TS3}
theorem xe0:RSs X [] sh0:=⟨_,ye3,λ σ H D ρ μ D3 s m h k=>k.nx ρ μ σ H h (Kp.refl H) s m⟩
theorem zb0 (h:RS X st t3):RSs X [st] t3:=let ⟨t,p,r⟩:=h; ⟨t,xe3 p,r⟩
theorem yb0 (h1:RS X st t3) (h2:RSs X sts u3):RSs X (st :: sts) (seq3 t3 u3):=by
 obtain ⟨va,pa,ra⟩:=h1;obtain ⟨vb,pb,rb⟩:=h2;refine ⟨_,sm2 pa pb,λ σ H D ρ μ D3 s m h k=>ra σ H _ ρ μ _ s m h ⟨λ ρ1 μ1 σ1 H1 h1 k1 s1 m1=>rb σ1 H1 D ρ1 μ1 D3 s1 m1 h1 (k.after k1),k.bk,k.ct,k.rt⟩⟩
theorem yl1:RS X st yb2:=⟨_,yn2,λ σ H D ρ μ D3 s m h k=>h⟩
theorem zf0 (he:RE X e te) (hs:swapsWith e none pos.line X.env=pure false:=by rfl):RS X (.Expr e pos) (tg0 te):=by
 obtain ⟨va,pa,ra⟩:=he;exact ⟨_,we3 pa hs,λ σ H D ρ μ D3 s m h k=>ra σ H _ ρ μ _ s m h λ d μ1 v H1 h1 k1 r1 m1=>k.nx ρ μ1 σ H1 h1 k1 (s.mono k1) m1⟩
theorem tc0 (he:RE X e te):RS X (.Return (some e) pos) (ret3 te):=by
 obtain ⟨va,pa,ra⟩:=he;exact ⟨_,wc4 pa,λ σ H D ρ μ D3 s m h k=>ra σ H _ ρ μ _ s m h k.rt⟩
theorem wh0 {as bs:List Stmt} (hc:RT X c tA) (ha:RSs X as t3) (hb:RSs X bs u3):RS X (.If c as bs pos) (ifs3 tA t3 u3):=by
 obtain ⟨vc,pc,rc⟩:=hc;obtain ⟨va,pa,ra⟩:=ha;obtain ⟨vb,pb,rb⟩:=hb;refine ⟨_,ts4 pc pa pb,λ σ H D ρ μ D3 s m h k=>rc σ H _ ρ μ _ s m h λ c μ1 H1 h1 k1 m1=>?_⟩;cases c with
 | true=>exact ra σ H1 D ρ μ1 D3 (s.mono k1) m1 h1 (k.after k1)
 | false=>exact rb σ H1 D ρ μ1 D3 (s.mono k1) m1 h1 (k.after k1)
theorem xc0 {i:Nat} {x:Str} (hN:X.N.Nodup) (hi:X.N[i]?=some x:=by rfl) (hx:Loc X.env.scope x:=by first | exact Or.inl rfl | exact Or.inr rfl) (hf:X.fn x=true \/ X.env.scope.names.lookup x=some .local:=by first | exact .inl rfl | exact .inr rfl) :
    RG X (.Name x pos) (gn3 i):=⟨_,zf3 hN hi hx hf,λ v d σ H Q ρ μ Q3 s m r h k=>k _ _ _ _ h (Kp.refl H) (s.set i r) m⟩
theorem xr0:RGs X [] uu0:=⟨_,yf3,λ vs ds σ H Q ρ μ Q3 s m r h k=>by
 cases r with
 | nil=>exact ⟨rfl,k _ _ _ _ h (Kp.refl H) s m⟩
 | cons _ _=>exact False.elim h⟩
theorem ue0 {g:TG3} {gs:TGs3} (h1:RG X e g) (h2:RGs X es gs) (hs:(assignEach (e :: es) X.env).map (·.2)=assign e X.env :: (assignEach es X.env).map (·.2):=by rfl):RGs X (e :: es) (ze0 g gs):=by
 obtain ⟨va,pa,ra⟩:=h1;obtain ⟨vb,pb,rb⟩:=h2;refine ⟨_,wn2 pa pb hs,λ vs ds σ H Q ρ μ Q3 s m r h k=>?_⟩;cases r with
 | nil=>exact False.elim h
 | cons r1 r2=>exact ⟨_,_,rfl,ra _ _ σ H _ ρ μ _ s m r1 h λ ρ1 μ1 σ1 H1 h1 k1 s1 m1=>rb _ _ σ1 H1 Q ρ1 μ1 Q3 s1 m1 (r2.mono k1) h1 λ ρ' μ' σ' H' q e=>k ρ' μ' σ' H' q (k1.trans e)⟩
theorem xb1 {kk:Nat} {gs:TGs3} {n:Nat} (hc:X.calm=true) (h:RGs X es gs) (hn:(assignEach es X.env).length=n:=by rfl) (hst:(assignEach es X.env).findIdx? (·.1)=none:=by rfl):RG X (.Tuple es kk pos) (vu0 n gs):=by
 obtain ⟨va,pa,ra⟩:=h;refine ⟨_,yd4 hc pa hn hst,λ v d σ H Q ρ μ Q3 s m r h k=>?_⟩;cases r with
 | tup hq rs =>
  obtain ⟨hl,h⟩:=h;exact ⟨_,_,rfl,(SqT.of hq),by rw [<- rs.length]; exact hl,ra _ _ σ H Q ρ μ Q3 s m rs h k⟩
 | _=>exact False.elim h
theorem zc0 {i:Nat} {x:Str} {pos':Pos} (hN:X.N.Nodup) (he:RE X e te) (hi:X.N[i]?=some x:=by rfl) (hx:Loc X.env.scope x:=by first | exact Or.inl rfl | exact Or.inr rfl) (hs:swapsWith e (some (.Name x pos')) pos.line X.env=pure false:=by rfl)
    (hf:X.fn x=true \/ X.env.scope.names.lookup x=some .local:=by first | exact .inl rfl | exact .inr rfl):RS X (.Assign [.Name x pos'] e pos) (set3 i te):=by
 obtain ⟨va,pa,ra⟩:=he;exact ⟨_,xz1 hN hi hx pa hs hf,λ σ H D ρ μ D3 s m h k=>ra σ H _ ρ μ _ s m h λ d μ1 v H1 h1 k1 r1 m1=>k.nx _ _ _ _ h1 k1 ((s.mono k1).set i r1) m1⟩
theorem sw1 {tg:Expr} {g:TG3} (he:RE X e te) (hg:RG X tg g) (hs:swapsWithSole [tg] e pos.line X.env=pure false:=by rfl) (hw:swappedStores [tg] e X.env=pure none:=by rfl)
    (h1:(assignEach [tg] X.env).map (·.2)=[assign tg X.env]:=by rfl):RS X (.Assign [tg] e pos) (asg3 te g):=by
 obtain ⟨va,pa,ra⟩:=he;obtain ⟨vg,pg,rg⟩:=hg;exact ⟨_,uc4 pa pg hs hw h1,λ σ H D ρ μ D3 s m h k=>ra σ H _ ρ μ _ s m h λ d μ1 v H1 h1 k1 r1 m1=>rg v d σ H1 _ ρ μ1 _ (s.mono k1) m1 r1 h1 λ ρ' μ' σ' H' q e=>k.nx ρ' μ' σ' H' q (k1.trans e)⟩
theorem th4 (n:Nat) (i:Int):L2.ixN n i=ixN n i:=rfl
theorem vx1 {o i:Expr} {to ti:TE3} (ho:RE X o to) (hi:RE X i ti)
    (ha:∀ v,assign (.Subscript o i pos) X.env v=(do
     let ov <- holding [v] (eval o X.env)
     let iv <- holding [v,ov] (eval i X.env)
     standAt pos
     holding [v,ov,iv] (setItem ov iv v)
     release [v,ov,iv] []):=by intro _; rfl):RG X (.Subscript o i pos) (sub3 to ti):=by
 obtain ⟨va,pa,ra⟩:=ho;obtain ⟨vb,pb,rb⟩:=hi;refine ⟨_,zd4 pa pb uw0 ha,λ v d σ H Q ρ μ Q3 s m r h k=>ra σ H _ ρ μ _ s m h λ o' μ1 ov H1 h1 k1 r1 m1=>rb σ H1 _ ρ μ1 _ (s.mono k1) m1 h1 λ i' μ2 iv H2 h2 k2 r2 m2=>?_⟩;cases r1 with
 | ref p =>
  cases r2 with
  | int kk =>
   dsimp only at h2;cases e:μ2 p with
   | none=>rw [e] at h2; exact h2.elim
   | some oo =>
    cases oo with
    | ins _ _=>rw [e] at h2; exact h2.elim
    | dck _=>rw [e] at h2; exact h2.elim
    | dcl _=>rw [e] at h2; exact h2.elim
    | lst xs =>
     rw [e] at h2;dsimp only at h2;cases e2:ixN xs.length kk with
     | none=>rw [e2] at h2; exact h2.elim
     | some j =>
      rw [e2] at h2;obtain ⟨vs,hv,rv⟩:=m2 p xs e;have kk':=k1.trans k2;refine ⟨p,vs,kk,j,rfl,rfl,hv,by rw [<- rv.length]; exact e2,k _ _ _ _ h2 (kk'.trans (Kp.wr hv)) (s.mono (kk'.trans (Kp.wr hv))) (m2.wr hv (rv.set (r.mono kk') j))⟩
  | _=>exact False.elim h2
 | _=>cases r2 <;> exact False.elim h2
end
end Pv
namespace Pv
open PySem PySem.Spec PyProof.Rows L2
def ItOk (K:Fg) (J:It) (l:List D) (S:Mu->Prop) (H0:Hp):Prop:=∀ i H μ,Kp H0 H->RelM K μ H->S μ ->
 (∀ d,l[i]?=some d->J.go i H /\ ∀ x H2,J.yld i H x H2->Kp H H2 /\ RelM K μ H2 /\ RelD K H2 d x) /\ (l.length<=i->J.stop i H)
def RdI (K:Fg) (wi:TI) (ti:TI3):Prop:=∀ σ H R ρ μ R3,RSt K H ρ σ->RelM K μ H->ti ρ μ R3->(∀ l S μ' J H',R3 l S μ'->Kp H H'->RelM K μ' H'->ItOk K J l S H'->R J H')->wi σ H R
def RI (X:Cx) (tg iter:Expr) (ti:TI3):Prop:=∃ wi,PI X tg iter wi /\ RdI X.K wi ti
section
variable {X:Cx} {tg iter a b c e:Expr} {ta tb te:TE3} {pos:Pos}
def Its (z:Str):It:=⟨λ i _=>i < z.cps.size,λ i H x H'=>H'=H /\ ∃ c,z.cps[i]?=some c /\ x=.str ⟨#[c]⟩,λ i _=>z.cps.size<=i⟩
theorem ui1 {P:Program} {w:World} {K:Fg} {tg:Expr} (T:String) (x:Str) (t:Tok) (it:Addr)
    (hT:["enumerate", "zip", "dict_itemiterator", "dict_reverseitemiterator", "odict_iterator", "itertools.zip_longest", "itertools.pairwise"].contains T=false)
    (W:∀ A:Around,A.handled=none->Walks P w A it [it] [it] x.cps.size (SignAt x) (λ i h=>h.IsStrIter it T x t i))
    (sf:∀ (A:Around) (i:Nat) (s:Shared) (Q:[4]) (E:[4]),s.heap.IsStrIter it T x t i->Q (.ref it) s->wpAny (model P w) A (pyIter (.ref it)) Q E s) :
    Turn P w K tg (Its x) [it] it (λ i h=>h.IsStrIter it T x t i /\ i<=x.cps.size) where
 mem:=by simp
 obj:=λ i h st b hb=>by
  have e:b=it:=by simpa using hb
  subst e;obtain ⟨⟨o,e,c,d⟩,_⟩:=st;exact ⟨o,e,λ v z=>by rw [d] at z; cases z⟩
 keep:=λ i h h' st k=>by
  obtain ⟨⟨o,e,c,d⟩,l⟩:=st;exact ⟨⟨o,k it [16] o e,c,d⟩,l⟩
 item:=by
  intro X hP hw hK hc i pins s σ H E I hf st hg;subst hP hw hK;obtain ⟨f0,f1,f2,f3,f4,f5⟩:=hf it [16];refine (W X.A (I.ok.hd hc)).item i s _ E hg st.1 λ v h' tk hP hst' hk=>?_;obtain ⟨c,u,ec,rfl⟩:=hP;have I1:Inv X pins σ H { s with heap:=h',toks:=tk }:=I.turned (t':=tk) (λ b o hb e=>hk b o (by simpa using hb) e) f0 f1 f3 f4 f5;obtain ⟨o,e,c1,d⟩:=id hst';exact ⟨_,rfl,sg1 (s:={ s with heap:=h',toks:=tk }) e c1 d hT ⟨.str ⟨#[c]⟩,H,I1,⟨u,rfl⟩,⟨rfl,c,ec,rfl⟩,⟨hst',hg⟩,λ b hb=>(hf b hb).1⟩⟩
 done:=by
  intro X hP hw hK hc i pins s σ H E I hf st hg;subst hP hw hK;have hg':x.cps.size<=i:=hg;obtain ⟨f0,f1,f2,f3,f4,f5⟩:=hf it [16];have e1:i=x.cps.size:=Nat.le_antisymm st.2 hg';subst e1;exact (W X.A (I.ok.hd hc)).done s _ E st.1 λ h' tk hk=>⟨rfl,I.turned (t':=tk) (λ b o hb e=>hk b o (by simpa using hb) e) f0 f1 f3 f4 f5⟩
 self:=λ A i s Q E st h=>sf A i s Q E st.1 h
def iSeq (K:Fg) (tl:TE):TI:=λ σ H R=>tl σ H λ x H1=>(∃ z,x=.str z /\ R (Its z) H1) \/ ∃ a,x=.ref a /\ (((∃ xs,SqL K H1 a xs) /\ R (Itl K a) H1) \/ ((∃ xs,SqT K H1 a xs) /\ R (Itt K a) H1))
theorem xd4 {l:Expr} {tl:TE} (hl:PE X l tl):PI X tg l (iSeq X.K tl):=by
 intro pins s σ H R I h;refine thn (hl pins s σ H _ I h) λ v s1 ⟨x,H1,I1,r1,q1⟩=>?_
 have fp:∀ b ∈ [s1.heap.objs.size],FpOk X pins H1 b:=λ b hb=>by
  have e:b=s1.heap.objs.size:=by simpa using hb
  subst e;exact I1.fpOk [14] (I1.hok.fresh [14])
 rcases q1 with ⟨z,e,q⟩ | ⟨a,e,q⟩
 ·subst e;obtain ⟨t,rfl⟩:=r1;cases ha:z.cps.all (· < 128)
  ·refine wpAny_pyIter_wide ha ?_;exact ⟨s1.heap.objs.size,[s1.heap.objs.size],_,_,H1,rfl,I1.kept (t':=s1.toks) λ b o e=>Heap.get?_push_of_some _ e,ui1 "str_iterator" z t _ [7] (λ A hA=>Walks.strWide hA _ z t) (λ _ _ _ _ _ st h=>wpAny_pyIter_striter_wide st h),⟨[30],Nat.zero_le _⟩,fp,q⟩
  ·refine wpAny_pyIter_ascii ha ?_;exact ⟨s1.heap.objs.size,[s1.heap.objs.size],_,_,H1,rfl,I1.kept (t':=s1.toks) λ b o e=>Heap.get?_push_of_some _ e,ui1 "str_ascii_iterator" z t _ [7] (λ A hA=>Walks.strAscii hA _ z t) (λ _ _ _ _ _ st h=>wpAny_pyIter_striter_ascii st h),⟨[30],Nat.zero_le _⟩,fp,q⟩
 subst e;cases r1;rcases q with ⟨⟨xs,hq⟩,q⟩ | ⟨⟨xs,hq⟩,q⟩
 ·obtain ⟨its,rv,p,hz⟩:=I1.list hq;refine wpAny_pyIter_list p.isList ?_;exact ⟨s1.heap.objs.size,[s1.heap.objs.size],_,_,H1,rfl,I1.kept (t':=s1.toks) λ b o e=>Heap.get?_push_of_some _ e,yu1 a _,[30],fp,q⟩
 ·obtain ⟨its,rv,p,hz⟩:=I1.tuple hq;refine wpAny_pyIter_tuple (show s1.heap.IsTuple a its.toArray from p) ?_;exact ⟨s1.heap.objs.size,[s1.heap.objs.size],_,_,H1,rfl,I1.kept (t':=s1.toks) λ b o e=>Heap.get?_push_of_some _ e,to1 a _,[30],fp,q⟩
theorem yp2 {K:Fg} {H0:Hp} {a:Addr} {l:List D} {vs:List V} (h:SqT K H0 a vs) (r:RelDs K H0 l vs):ItOk K (Itt K a) l (λ _=>True) H0:=λ i H μ k m _=>by
 refine ⟨λ d e=>?_,λ hl=>⟨vs,SqT.mono k h,by rw [<- r.length]; exact hl⟩⟩;obtain ⟨v,e1,r1⟩:=r.get e;refine ⟨⟨vs,v,SqT.mono k h,e1⟩,λ x H2 y=>?_⟩;obtain ⟨rfl,y⟩:=y;have e2:=y vs (SqT.mono k h);rw [e1] at e2; cases e2;exact ⟨Kp.refl _,m,r1.mono k⟩
theorem vp2 {K:Fg} {H0:Hp} {a:Addr} {l:List D} {vs:List V} (h:SqF K H0 a vs) (r:RelDs K H0 l vs):ItOk K (Itl K a) l (λ _=>True) H0:=λ i H μ k m _=>by
 refine ⟨λ d e=>?_,λ hl=>⟨vs,(SqF.mono k h).l,by rw [<- r.length]; exact hl⟩⟩;obtain ⟨v,e1,r1⟩:=r.get e;refine ⟨⟨vs,v,(SqF.mono k h).l,e1⟩,λ x H2 y=>?_⟩;obtain ⟨rfl,y⟩:=y;have e2:=y vs (SqF.mono k h).l;rw [e1] at e2; cases e2;exact ⟨Kp.refl _,m,r1.mono k⟩
theorem wp2 {K:Fg} {H0:Hp} {a:Addr} {l:List D}:ItOk K (Itl K a) l (λ μ=>μ a=some (.lst l)) H0:=λ i H μ k m s=>by
 obtain ⟨vs,h,r⟩:=m a l s;refine ⟨λ d e=>?_,λ hl=>⟨vs,SqL.of h,by rw [<- r.length]; exact hl⟩⟩;obtain ⟨v,e1,r1⟩:=r.get e;refine ⟨⟨vs,v,SqL.of h,e1⟩,λ x H2 y=>?_⟩;obtain ⟨rfl,y⟩:=y;have e2:=y vs (SqL.of h);rw [e1] at e2; cases e2;exact ⟨Kp.refl _,m,r1⟩
theorem zp2 {K:Fg} {H0:Hp} (z:Str):ItOk K (Its z) (z.cps.toList.map λ c=>D.str ⟨#[c]⟩) (λ _=>True) H0:=λ i H μ k m _=>by
 refine ⟨λ d e=>?_,λ hl=>by show z.cps.size<=i; simpa using hl⟩;rw [getElem?_map,getElem?_toList] at e;cases ec:z.cps[i]? with
 | none=>rw [ec] at e; cases e
 | some c =>
  rw [ec] at e;cases e;refine ⟨?_,λ x H2 y=>?_⟩
  ·show i < z.cps.size;rcases Nat.lt_or_ge i z.cps.size with h | h
   ·exact h
   ·rw [Array.getElem?_eq_none h] at ec; cases ec
  ·obtain ⟨rfl,c',ec',rfl⟩:=y;rw [ec] at ec'; cases ec';exact ⟨Kp.refl _,m,.str _⟩
theorem xg0 (ha:RE X a ta):RI X tg a (is3 ta):=by
 obtain ⟨va,pa,ra⟩:=ha;refine ⟨_,xd4 pa,λ σ H R ρ μ R3 s m h k=>ra σ H _ ρ μ _ s m h λ d μ1 v H1 h1 k1 r1 m1=>?_⟩;cases r1 with
 | str z=>exact .inl ⟨z,rfl,k _ _ _ _ _ h1 k1 m1 (zp2 z)⟩
 | tup hq rs=>exact .inr ⟨_,rfl,.inr ⟨⟨_,(SqT.of hq)⟩,k _ _ _ _ _ h1 k1 m1 (yp2 (SqT.of hq) rs)⟩⟩
 | fls hq rs=>exact .inr ⟨_,rfl,.inl ⟨⟨_,hq.l⟩,k _ _ _ _ _ h1 k1 m1 (vp2 hq rs)⟩⟩
 | ref p =>
  dsimp only at h1;cases e:μ1 p with
  | none=>rw [e] at h1; exact h1.elim
  | some oo =>
   cases oo with
   | ins _ _=>rw [e] at h1; exact h1.elim
   | dck _=>rw [e] at h1; exact h1.elim
   | dcl _=>rw [e] at h1; exact h1.elim
   | lst xs =>
    rw [e] at h1;obtain ⟨vs,hv,rv⟩:=m1 p xs e;exact .inr ⟨_,rfl,.inl ⟨⟨_,SqL.of hv⟩,k _ _ _ _ _ h1 k1 m1 wp2⟩⟩
 | _=>exact False.elim h1
theorem vl2 (lo:Int) (n i:Nat):(rngD lo n)[i]?=if i < n then some (.int (lo + i)) else none:=by
 unfold rngD;rw [getElem?_map];by_cases h:i < n
 ·rw [List.getElem?_range h,if_pos h]; rfl
 ·rw [getElem?_eq_none (by simpa using h),if_neg h]; rfl
theorem yq0 (lo:Int) (n:Nat):(rngD lo n).length=n:=by simp [rngD]
theorem xn1 {K:Fg} {H0:Hp} (lo:Int) (n:Nat):ItOk K (Itr lo n) (rngD lo n) (λ _=>True) H0:=λ i H μ k m _=>by
 refine ⟨λ d e=>?_,λ hl=>by rw [yq0] at hl; exact hl⟩;rw [vl2] at e;split at e
 ·next h =>
  cases e;refine ⟨h,λ x H2 y=>?_⟩;obtain ⟨rfl,rfl⟩:=y;exact ⟨Kp.refl _,m,.int _⟩
 ·cases e
theorem uh0 {p:Pos} (hm:X.mg "range" = none) (ha:RE X a ta) (hg:Gl X "range" := by rfl) (hs:starEach [a] X.env=[(false,eval a X.env)]:=by rfl):RI X tg (.Call (.Name "range" p) [a] [] pos) (ir3 (va0 ta nil3)):=by
 obtain ⟨va,pa,ra⟩:=xa0 ha ta0 hs;refine ⟨_,xa2 hg hm pa hs,λ σ H R ρ μ R3 s m h k=>ra σ H _ ρ μ _ s m h λ ds μ1 vs H1 h1 k1 r1 m1=>?_⟩;cases r1 with
 | nil=>exact False.elim h1
 | cons r1 r2 =>
  cases r2 with
  | cons _ _=>cases r1 <;> exact False.elim h1
  | nil =>
   cases r1 with
   | int j=>exact ⟨j,rfl,h1.1.1,h1.1.2,k _ _ _ _ _ h1.2 k1 m1 (xn1 _ _)⟩
   | _=>exact False.elim h1
theorem sq0 {p:Pos} (hm:X.mg "range" = none) (ha:RE X a ta) (hb:RE X b tb) (hg:Gl X "range" := by rfl) (hs:starEach [a,b] X.env=[(false,eval a X.env),(false,eval b X.env)]:=by rfl) (hs2:starEach [b] X.env=[(false,eval b X.env)]:=by rfl) :
    RI X tg (.Call (.Name "range" p) [a,b] [] pos) (ir23 (va0 ta (va0 tb nil3))):=by
 obtain ⟨va,pa,ra⟩:=xa0 ha (xa0 hb ta0 hs2) (by rw [hs,hs2]);refine ⟨_,sz1 hg hm pa hs hs2,λ σ H R ρ μ R3 s m h k=>ra σ H _ ρ μ _ s m h λ ds μ1 vs H1 h1 k1 r1 m1=>?_⟩;split at h1
 ·next i j =>
  cases r1 with
  | cons r1 r2 =>
   cases r2 with
   | cons r2 r3 =>
    cases r3;cases r1;cases r2;exact ⟨i,j,rfl,h1.1,k _ _ _ _ _ h1.2 k1 m1 (xn1 _ _)⟩
 ·exact h1.elim
theorem vf0 {body:List Stmt} {ti:TI3} {g:TG3} {tb:TS3} (hp:PassesOwn [9] X.A X.env X.xe) (hc:X.calm=true) (hi:RI X tg iter ti) (hg:RG X tg g) (hb:RSs X body tb)
    (hs:∀ x,foldedSetIterable iter X.env x=pure x:=by intro _; rfl):RS X (.For tg iter body [] pos) (for3 ti g tb):=by
 obtain ⟨wi,pi,ri⟩:=hi;obtain ⟨vg,pg,rg⟩:=hg;obtain ⟨vb,pb,rb⟩:=hb;refine ⟨_,vc4 hp hc pi pg pb hs,λ σ H D ρ μ D3 s m h k=>ri σ H _ ρ μ _ s m h λ l S μ1 J H1 h1 k1 m1 ok=>?_⟩;refine ⟨λ i n σ2 H2=>n=l.length - i /\ i<=l.length /\ ∃ ρ2 μ2,RSt X.K H2 ρ2 σ2 /\ RelM X.K μ2 H2 /\ Kp H1 H2 /\ yd1 S g tb D3 (l.drop i) ρ2 μ2,⟨l.length,rfl,Nat.zero_le _,ρ,μ1,s.mono k1,m1,Kp.refl _,h1⟩,?_⟩;rintro i n σ2 H2 ⟨rfl,hi,ρ2,μ2,s2,m2,k2,h2⟩;by_cases hlt:i < l.length
 ·rw [List.drop_eq_getElem_cons hlt] at h2;obtain ⟨hS,N,hN,h2⟩:=h2;obtain ⟨ok1,_⟩:=ok i H2 μ2 k2 m2 hS;obtain ⟨go,yl⟩:=ok1 l[i] (getElem?_eq_getElem hlt);refine .inr ⟨go,λ σ3 H3=>∃ ρ3 μ3,N ρ3 μ3 /\ RSt X.K H3 ρ3 σ3 /\ RelM X.K μ3 H3 /\ Kp H1 H3,λ σ3 H3 ⟨ρ3,μ3,hn,s3,m3,k3⟩=>⟨l.length - (i + 1),by omega,rfl,hlt,ρ3,μ3,s3,m3,k3,hN _ _ hn⟩,λ x H3 y=>?_⟩;obtain ⟨k3,m3,r3⟩:=yl x H3 y;refine rg x l[i] σ2 H3 _ ρ2 μ2 _ (s2.mono k3) m3 r3 h2 λ ρ4 μ4 σ4 H4 h4 k4 s4 m4=>?_;have k14:Kp H1 H4:=k2.trans (k3.trans k4)
  exact rb σ4 H4 _ ρ4 μ4 _ s4 m4 h4 ⟨λ ρ5 μ5 σ5 H5 h5 k5 s5 m5=>⟨ρ5,μ5,h5,s5,m5,k14.trans k5⟩,λ ρ5 μ5 σ5 H5 h5 k5 s5 m5=>k.nx _ _ _ _ h5 (k1.trans (k14.trans k5)) s5 m5,
   λ ρ5 μ5 σ5 H5 h5 k5 s5 m5=>⟨ρ5,μ5,h5,s5,m5,k14.trans k5⟩,λ d μ5 v H5 h5 k5 r5 m5=>k.rt _ _ _ _ h5 (k1.trans (k14.trans k5)) r5 m5⟩
 ·have e:i=l.length:=by omega
  subst e;rw [List.drop_length] at h2;obtain ⟨hS,h2⟩:=h2;exact .inl ⟨(ok _ H2 μ2 k2 m2 hS).2 [14],k.nx _ _ _ _ h2 (k1.trans k2) s2 m2⟩
theorem xx0 {body:List Stmt} {tc:TT3} {tb:TS3} (hp:PassesOwn [9] X.A X.env X.xe) (hc:RT X c tc) (hb:RSs X body tb):RS X (.While c body [] pos) (zi1 tc tb):=by
 obtain ⟨vc,pc,rc⟩:=hc;obtain ⟨vb,pb,rb⟩:=hb;refine ⟨_,xn2 hp pc pb,λ σ H D ρ μ D3 s m h k=>?_⟩;obtain ⟨W,⟨n0,w0⟩,turn⟩:=h;refine ⟨λ n σ2 H2=>∃ ρ2 μ2,W n ρ2 μ2 /\ RSt X.K H2 ρ2 σ2 /\ RelM X.K μ2 H2 /\ Kp H H2,⟨n0,ρ,μ,w0,s,m,Kp.refl _⟩,?_⟩;rintro n σ2 H2 ⟨ρ2,μ2,w2,s2,m2,k2⟩;refine rc σ2 H2 _ ρ2 μ2 _ s2 m2 (turn n ρ2 μ2 w2) λ b μ3 H3 h3 k3 m3=>?_;cases b with
 | true =>
  obtain ⟨N,hN,h3⟩:=h3;have k23:=k2.trans k3;refine ⟨λ σ4 H4=>∃ ρ4 μ4,N ρ4 μ4 /\ RSt X.K H4 ρ4 σ4 /\ RelM X.K μ4 H4 /\ Kp H H4,λ σ4 H4 ⟨ρ4,μ4,hn,s4,m4,k4⟩=>?_,?_⟩
  ·obtain ⟨n',hl,w4⟩:=hN _ _ hn;exact ⟨n',hl,ρ4,μ4,w4,s4,m4,k4⟩
  ·exact rb σ2 H3 _ ρ2 μ3 _ (s2.mono k3) m3 h3 ⟨λ ρ5 μ5 σ5 H5 h5 k5 s5 m5=>⟨ρ5,μ5,h5,s5,m5,k23.trans k5⟩,λ ρ5 μ5 σ5 H5 h5 k5 s5 m5=>k.nx _ _ _ _ h5 (k23.trans k5) s5 m5,
     λ ρ5 μ5 σ5 H5 h5 k5 s5 m5=>⟨ρ5,μ5,h5,s5,m5,k23.trans k5⟩,λ d μ5 v H5 h5 k5 r5 m5=>k.rt _ _ _ _ h5 (k23.trans k5) r5 m5⟩
 | false=>exact k.nx _ _ _ _ h3 (k2.trans k3) (s2.mono k3) m3
def lift (K:Fg) (sp:Sp3):Sp:=λ vs H Q _=>∃ ds μ Q3,RelDs K H ds vs /\ RelM K μ H /\ sp ds μ Q3 /\ Ks K H Q3 Q
def Cal (P:Program) (w:World) (K:Fg) (mg:Str->Option Value) (base:Heap) (k:Nat) (x:Str) (ps:List Str) (sp:Sp3):Prop :=
 ∃ f fd,FnOk P w K mg base CX0 k f fd ps (lift K sp) /\ mg x=some (.ref f) /\ keepIn K (.ref f)=true /\ Binds K fd ps []
theorem Cal.mono {P:Program} {w:World} {K:Fg} {mg:Str->Option Value} {base:Heap} {j k:Nat} {x:Str} {ps:List Str} {sp:Sp3} (c:Cal P w K mg base j x ps sp) (h:j<=k):Cal P w K mg base k x ps sp:=by
 obtain ⟨f,fd,F,r⟩:=c;exact ⟨f,fd,F.mono h,r⟩
variable {es:List Expr} {t:TA3} {x:Str} {p:Pos}
theorem wb0 {k:Nat} {ps:List Str} {sp:Sp3} (c:Cal X.prog X.w X.K X.mg X.base k x ps sp) (hr:Room k X.A) (ha:RA X (e :: es) t) (hg:Gl X x:=by rfl) (hdb:(x == ("__debug__" : Str))=false:=by decide)
    (he:starEach (e :: es) X.env=[35] :: starEach es X.env:=by rfl) (hpl:(backTo pos (starEach es X.env)).any (·.1)=false:=by rfl):RE X (.Call (.Name x p) (e :: es) [] pos) (vb0 sp t):=by
 obtain ⟨f,fd,F,hm,hk,hb⟩:=c;obtain ⟨va,pa,ra⟩:=ha;refine ⟨_,xg3 F hr hg hm hk hb .nil tt4 pa hdb he hpl,λ σ H Q ρ μ Q3 s m h k=>ra σ H _ ρ μ _ s m h λ ds μ1 vs H1 h1 k1 r1 m1=>?_⟩;rw [append_nil];exact ⟨ds,μ1,Q3,r1,m1,h1,k.after k1⟩
theorem sb0 {r:C3} {id:String} (hc:RC X (.builtin id) r) (hm:X.mg x=none) (hv:bootBuiltins x=some (.builtin id)) (ha:RA X (e :: es) t) (hg:Gl X x:=by rfl) (hn:x ≠ "__name__" := by decide) (hdb:(x == ("__debug__" : Str))=false:=by decide)
    (he:starEach (e :: es) X.env=[35] :: starEach es X.env:=by rfl) (hpl:(backTo pos (starEach es X.env)).any (·.1)=false:=by rfl):RE X (.Call (.Name x p) (e :: es) [] pos) (vb0 r t):=by
 obtain ⟨r',pc,rc⟩:=hc;obtain ⟨va,pa,ra⟩:=ha;exact ⟨_,yo2 pc hg hm hv pa hn hdb he hpl,λ σ H Q ρ μ Q3 s m h k=>ra σ H _ ρ μ _ s m h λ ds μ1 vs H1 h1 k1 r1 m1=>rc ds vs H1 Q μ1 Q3 m1 r1 h1 (k.after k1)⟩
theorem wr0 {r:C3} {T:String} (hc:RC X (.type T) r) (hm:X.mg x=none) (hv:bootBuiltins x=some (.type T)) (ha:RA X (e :: es) t) (hg:Gl X x:=by rfl) (hn:x ≠ "__name__" := by decide) (hdb:(x == ("__debug__" : Str))=false:=by decide)
    (he:starEach (e :: es) X.env=[35] :: starEach es X.env:=by rfl) (hpl:(backTo pos (starEach es X.env)).any (·.1)=false:=by rfl):RE X (.Call (.Name x p) (e :: es) [] pos) (vb0 r t):=by
 obtain ⟨r',pc,rc⟩:=hc;obtain ⟨va,pa,ra⟩:=ha;exact ⟨_,ya2 pc hg hm hv pa hn hdb he hpl,λ σ H Q ρ μ Q3 s m h k=>ra σ H _ ρ μ _ s m h λ ds μ1 vs H1 h1 k1 r1 m1=>rc ds vs H1 Q μ1 Q3 m1 r1 h1 (k.after k1)⟩
theorem uc0 {r3:R3} (hx:RX X r3) (ha:RE X a ta) (hb:RE X b tb) (hs:vj2 b:=by intro _ _; rfl):RE X (.Subscript a b pos) (o3 r3 ta tb):=by
 obtain ⟨r,po,ro⟩:=hx;obtain ⟨va,pa,ra⟩:=ha;obtain ⟨vb,pb,rb⟩:=hb;exact ⟨_,wt4 po pa pb hs,ra.op rb ro⟩
end
section
variable {P:Program} {w:World} {K:Fg} {mg:Str->Option Value} {base:Heap}
theorem xf2 {x:Str} {st:Stmt} {f:Addr} {fd:FuncData} {N ps:List Str} {k:Nat} {sp:Sp3} {t:TS3} (F:Fun K x x st f fd) (S:FnScope N ps (ua0 st))
    (len:∀ ds μ Q,sp ds μ Q->ds.length=ps.length)
    (body:∀ (cdv:Value) (A:Around) (outer:List Env) (s:Shared) (H:Hp) (E:XK),Room k (A.deeper (envOfC x (ua0 st) s.heap.objs.size f cdv))->RSs (cxOf CX0 P w K mg base N x (ua0 st) f cdv A outer s H E).nox (yc0 st) t)
    (rd:∀ ds μ Q,sp ds μ Q->t { nx:=λ _ μ'=>Q .non μ',rt:=Q } (xd0 N ds) μ):FnOk P w K mg base CX0 (k + 1) f fd ps (lift K sp):=by
 refine F.ok S (λ vs H Q E h=>?_) (λ cdv A outer s H vs Q E hr h=>?_)
 ·obtain ⟨ds,μ,Q3,r,m,q,ks⟩:=h;rw [<- r.length]; exact len _ _ _ q
 ·obtain ⟨ds,μ,Q3,r,m,q,ks⟩:=h;obtain ⟨tv,p,rt⟩:=body cdv A outer s H E hr;exact ⟨tv,p,rt _ H _ _ μ _ (RSt.start N r) m (rd ds μ Q3 q) ⟨λ ρ μ' σ H' h' k' s' m'=>ks _ _ _ _ h' k' .non m',λ ρ μ' σ H' h'=>False.elim h',λ ρ μ' σ H' h'=>False.elim h',ks⟩⟩
theorem vd0 {x:Str} {st:Stmt} {f:Addr} {fd:FuncData} {N ps:List Str} {k:Nat} {sp:Sp3} {t:TS3} (F:Fun K x x st f fd) (hm:mg x=some (.ref f)) (hb:Binds K fd ps []) (S:FnScope N ps (ua0 st))
    (len:∀ ds μ Q,sp ds μ Q->ds.length=ps.length)
    (body:∀ (cdv:Value) (A:Around) (outer:List Env) (s:Shared) (H:Hp) (E:XK),Room k (A.deeper (envOfC x (ua0 st) s.heap.objs.size f cdv))->RSs (cxOf CX0 P w K mg base N x (ua0 st) f cdv A outer s H E).nox (yc0 st) t)
    (rd:∀ ds μ Q,sp ds μ Q->t { nx:=λ _ μ'=>Q .non μ',rt:=Q } (xd0 N ds) μ):Cal P w K mg base (k + 1) x ps sp :=
 ⟨f,fd,xf2 F S len body rd,hm,F.kp,hb⟩
end
section
variable {X:Cx}
theorem RdO.i0 {K:Fg} {g3:Int->Int->D} {g:Int->Int->V} (hg:∀ i j H,RelD K H (g3 i j) (g i j)):RdO K (rI0 g) (td2 g3):=λ x y v u H Q μ Q3 m rx ry h k=>by
 cases rx with
 | int i =>
  cases ry with
  | int j=>exact ⟨i,j,rfl,rfl,k _ _ _ _ h (Kp.refl _) (hg i j H) m⟩
  | _=>exact False.elim h
 | _=>cases ry <;> exact False.elim h
theorem RdO.i2 {K:Fg} {C:Int->Int->Prop} {g3:Int->Int->D} {g:Int->Int->V} (hg:∀ i j H,RelD K H (g3 i j) (g i j)):RdO K (rI C g) (int2 C g3):=λ x y v u H Q μ Q3 m rx ry h k=>by
 cases rx with
 | int i =>
  cases ry with
  | int j=>exact ⟨i,j,rfl,rfl,h.1,k _ _ _ _ h.2 (Kp.refl _) (hg i j H) m⟩
  | _=>exact False.elim h
 | _=>cases ry <;> exact False.elim h
theorem wj0:RO X (binaryOp .Sub) subR:=⟨_,te4,RdO.i0 λ _ _ _=>.int _⟩
theorem vb1:RO X (binaryOp .Mod) modR:=⟨_,zf4,RdO.i2 λ _ _ _=>.int _⟩
theorem ua4:RO X (binaryOp .Pow) powR:=⟨_,xf4,RdO.i2 λ _ _ _=>.int _⟩
theorem log2_lt {n k:Nat} (hk:0 < k) (h:n < 2 ^ k):n.log2 < k:=by
 rcases Nat.eq_zero_or_pos n with h0 | hp
 ·rw [h0]; simpa using hk
 ·exact (Nat.log2_lt (Nat.ne_of_gt hp)).mpr h
theorem wo2:OpR X (binaryOp .FloorDiv) (rI (λ _ j=>0 < j /\ j < 2 ^ 120) λ i j=>.int (i / j)):=opI λ i j _ _ _ _ _ hc q=>by
 have h1:(0:Int) < j:=hc.1;have h2:j < 2 ^ 120:=hc.2;refine floordiv_int [2] (by rw [Int.fdiv_eq_ediv_of_nonneg i [2]]; exact q) (.inl (PyProof.noPylong_of_log2 ?_));have h3:j.natAbs < 2 ^ 120:=by omega
 exact Nat.lt_trans (log2_lt [7] h3) [7]
theorem ty1:RO X (binaryOp .FloorDiv) zf2:=⟨_,wo2,RdO.i2 λ _ _ _=>.int _⟩
theorem CMul.mulok {i j:Int} (h:CMul i j):IntMulOk i j:=by
 rcases h with h | ⟨h1,h2⟩
 ·exact L2.CMul.ok h
 ·unfold IntMulOk;intro e;rw [Bool.and_eq_true] at e;have e2:=e.2;unfold Builtin.Int.intTooBig at e2
  have hb:∀ x:Int,x.natAbs < Big->Builtin.Int.intBits x<=1000:=λ x hx=>by
   unfold Builtin.Int.intBits;split
   ·exact Nat.zero_le _
   ·exact log2_lt [7] hx
  have b1:=hb i h1;have b2:=hb j h2;have e3:=of_decide_eq_true e2;have e4:(2000:Nat) < bitsLine:=by decide
  omega
theorem op_mulB:OpR X (binaryOp .Mult) (rI CMul λ i j=>.int (i * j)):=opI λ _ _ _ _ _ _ _ hc q=>mul_int q hc.mulok
theorem tm2:RU X (unaryOp .USub) negR:=⟨_,zo3,λ x v H Q μ Q3 m r h k=>by
 cases r with
 | int i=>exact ⟨i,rfl,k _ _ _ _ h (Kp.refl _) (.int _) m⟩
 | _=>exact False.elim h⟩
theorem q_lt:RO X (compareOp .Lt) ltR:=⟨_,xu4,RdO.i0 λ _ _ _=>.bl _⟩
theorem q_gt:RO X (compareOp .Gt) gtR:=⟨_,yu4,RdO.i0 λ _ _ _=>.bl _⟩
theorem q_ge:RO X (compareOp .GtE) geR:=⟨_,op_ge,RdO.i0 λ _ _ _=>.bl _⟩
def sr4 (K:Fg):R2:=λ x y H Q=>∃ a b xs ys,x=.ref a /\ y=.ref b /\ SqT K H a xs /\ SqT K H b ys /\ xs.length + ys.length<=sizeLine ∧
 (xs=[]->Q (.ref b) H) /\ (ys=[]->Q (.ref a) H) /\ (∀ p,H p=none->Q (.ref p) (upd H p (.tup (xs ++ ys))))
theorem tg3:OpR X (binaryOp .Add) (sr4 X.K):=by
 intro pins s σ H x y v u Q I rx ry h;obtain ⟨a,b,xs,ys,rfl,rfl,ha,hb,hz,q1,q2,q3⟩:=h;by_cases hx:xs=[]
 ·cases rx;cases ry;obtain ⟨its,r,ht,_⟩:=I.tuple ha;obtain ⟨its2,r2,ht2,_⟩:=I.tuple hb;have hi:its=[]:=by subst hx; cases r; rfl
  obtain ⟨⟨cls,dd,data,sl⟩,ho,hc,n,hd⟩:=id ht;obtain ⟨⟨cls2,dd2,data2,sl2⟩,ho2,hc2,n2,hd2⟩:=id ht2;simp only at hc hd hc2 hd2;subst hc hd hc2 hd2
  exact concat_meets ⟨_,ho,rfl⟩ ⟨_,ho2,rfl⟩ noFill_tuple_add seq_tuple_add slot_tuple_add entry_tuple_add (args_tuple_add_2 _ _)
   (tuple_addW0 a b its.toArray its2.toArray n n2 dd dd2 sl sl2 (by simp [hi])) ⟨ho,ho2,⟨.ref b,H,I,rfl,q1 hx⟩⟩
 ·exact ug3 pins s σ H _ _ v u Q I rx ry ⟨a,b,xs,ys,rfl,rfl,ha,hb,hx,hz,q2,λ _=>q3⟩
theorem td0:RO X (binaryOp .Add) addR:=by
 refine ⟨_,(op_add.or xs1).or (op_cat.or tg3),λ x y v u H Q μ Q3 m rx ry h k=>?_⟩;cases rx with
 | int i =>
  cases ry with
  | int j=>exact .inl (.inl ⟨i,j,rfl,rfl,k _ _ _ _ h (Kp.refl _) (.int _) m⟩)
  | _=>exact False.elim h
 | str i =>
  cases ry with
  | str j=>exact .inl (.inr ⟨i,j,rfl,rfl,h.1,k _ _ _ _ h.2 (Kp.refl _) (.str _) m⟩)
  | _=>exact False.elim h
 | ref p =>
  cases ry with
  | ref q =>
   dsimp only [addR] at h;cases e:μ p with
   | none=>rw [e] at h; exact h.elim
   | some oo =>
    cases oo with
    | ins _ _=>rw [e] at h; exact h.elim
    | dck _=>rw [e] at h; exact h.elim
    | dcl _=>rw [e] at h; exact h.elim
    | lst xs =>
     cases e2:μ q with
     | none=>rw [e,e2] at h; exact h.elim
     | some o2 =>
      cases o2 with
      | ins _ _=>rw [e,e2] at h; exact h.elim
      | dck _=>rw [e,e2] at h; exact h.elim
      | dcl _=>rw [e,e2] at h; exact h.elim
      | lst ys =>
       rw [e,e2] at h;obtain ⟨vs,hv,rv⟩:=m p xs e;obtain ⟨us,hu,ru⟩:=m q ys e2;refine .inr (.inl ⟨p,q,vs,us,rfl,rfl,hv,hu,by rw [<- rv.length,<- ru.length]; exact h.1,λ t ht=>?_⟩);exact k _ _ _ _ (h.2 t (m.free ht)) (Kp.new ht) (.ref t) (m.newL ht (rv.append ru))
  | _=>exact False.elim h
 | tup hq rs =>
  cases ry with
  | tup hq2 rs2 =>
   rename_i a l vs b l2 us;refine .inr (.inr ⟨a,b,vs,us,rfl,rfl,(SqT.of hq),(SqT.of hq2),by rw [<- rs.length,<- rs2.length]; exact h.1,λ e=>?_,λ e=>?_,λ t ht=>?_⟩)
   ·subst e; cases rs;exact k _ _ _ _ h.2 (Kp.refl _) (.tup hq2 rs2) m
   ·subst e; cases rs2;have h2:=h.2;rw [append_nil] at h2;exact k _ _ _ _ h2 (Kp.refl _) (.tup hq rs) m
   ·exact k _ _ _ _ h.2 (Kp.new ht) (.tup ve0 ((rs.append rs2).mono (Kp.new ht))) (m.newT ht)
  | _=>exact False.elim h
 | _=>cases ry <;> exact False.elim h
theorem RelDs.atI {K:Fg} {H:Hp} {l:List D} {vs:List V} {i:Int} {d:D} (r:RelDs K H l vs) (e:Pv.atI l i=some d):∃ v,L2.atI vs i=some v /\ RelD K H d v:=by
 unfold Pv.atI at e;unfold L2.atI;rw [th4,<- r.length];cases q:ixN l.length i with
 | none=>rw [q] at e; cases e
 | some j =>
  rw [q] at e;exact r.get e
theorem q_ix:RX X ixR:=by
 refine ⟨_,ix_list.or uh4,λ x y v u H Q μ Q3 m rx ry h k=>?_⟩;cases ry with
 | int i =>
  cases rx with
  | tup hq rs =>
   rename_i a l vs;dsimp only [ixR] at h;cases e:Pv.atI l i with
   | none=>rw [e] at h; exact h.elim
   | some d =>
    rw [e] at h;obtain ⟨w,e1,r1⟩:=rs.atI e;exact .inr ⟨a,vs,i,w,rfl,rfl,(SqT.of hq),e1,k _ _ _ _ h (Kp.refl _) r1 m⟩
  | ktp hq rs =>
   rename_i a l vs;dsimp only [ixR] at h;cases e:Pv.atI l i with
   | none=>rw [e] at h; exact h.elim
   | some d =>
    rw [e] at h;obtain ⟨w,e1,r1⟩:=rs.atI e;exact .inr ⟨a,vs,i,w,rfl,rfl,hq,e1,k _ _ _ _ h (Kp.refl _) r1 m⟩
  | fls hq rs =>
   rename_i a l vs;dsimp only [ixR] at h;cases e:Pv.atI l i with
   | none=>rw [e] at h; exact h.elim
   | some d =>
    rw [e] at h;obtain ⟨w,e1,r1⟩:=rs.atI e;exact .inl ⟨a,vs,i,w,rfl,rfl,hq.l,e1,k _ _ _ _ h (Kp.refl _) r1 m⟩
  | ref p =>
   dsimp only [ixR] at h;cases e0:μ p with
   | none=>rw [e0] at h; exact h.elim
   | some oo =>
    cases oo with
    | ins _ _=>rw [e0] at h; exact h.elim
    | dck _=>rw [e0] at h; exact h.elim
    | dcl _=>rw [e0] at h; exact h.elim
    | lst l =>
     rw [e0] at h;dsimp only at h;obtain ⟨vs,hv,rs⟩:=m p l e0;cases e:Pv.atI l i with
     | none=>rw [e] at h; exact h.elim
     | some d =>
      rw [e] at h;obtain ⟨w,e1,r1⟩:=rs.atI e;exact .inl ⟨p,vs,i,w,rfl,rfl,SqL.of hv,e1,k _ _ _ _ h (Kp.refl _) r1 m⟩
  | _=>exact False.elim h
 | _=>cases rx <;> exact False.elim h
theorem ww0 {K:Fg} {H:Hp}:∀ {l:List D} {vs:List V} {zs:List Str},RelDs K H l vs->strs? l=some zs->vs=zs.map V.str
 | _,_,zs,.nil,e=>by simp [strs?] at e; subst e; rfl
 | _,_,zs,.cons h r,e=>by
  cases h with
  | str x =>
   simp only [strs?] at e;split at e
   ·next ys e1 =>
    simp only [Option.some.injEq] at e;subst e;rw [ww0 r e1]; rfl
   ·cases e
  | _=>simp [strs?] at e
theorem sn1 (z:Str) (zs:List Str):inV (.str z) (zs.map V.str)=zs.contains z:=by
 unfold inV;rw [List.any_map]
 induction zs with
 | nil=>rfl
 | cons y r ih =>
  rw [any_cons,ih,List.contains_cons];congr 1;show (y == z)=(z == y);rw [Bool.eq_iff_iff,beq_iff_eq,beq_iff_eq];exact eq_comm
theorem zd1 (zs:List Str):(zs.map V.str).all yy0=true:=by
 rw [List.all_map,all_eq_true]; intro _ _; rfl
theorem vj0:RC X (.builtin "len") lenR:=by
 refine ⟨_,call_len_seq.or td1,λ xs vs H Q μ Q3 m r h k=>?_⟩;cases r with
 | nil=>exact False.elim h
 | cons r1 r2 =>
  cases r2 with
  | cons _ _=>cases r1 <;> exact False.elim h
  | nil =>
   cases r1 with
   | tup hq rs =>
    rename_i a l vs;refine .inl ⟨a,vs,rfl,.inr (SqT.of hq),?_⟩;rw [<- rs.length];exact k _ _ _ _ h (Kp.refl _) (.int _) m
   | fls hq rs =>
    rename_i a l vs;refine .inl ⟨a,vs,rfl,.inl hq.l,?_⟩;rw [<- rs.length];exact k _ _ _ _ h (Kp.refl _) (.int _) m
   | str z=>exact .inr ⟨z,rfl,h.1,k _ _ _ _ h.2 (Kp.refl _) (.int _) m⟩
   | ref p =>
    dsimp only [lenR] at h;cases e:μ p with
    | none=>rw [e] at h; exact h.elim
    | some oo =>
     cases oo with
     | ins _ _=>rw [e] at h; exact h.elim
     | dck _=>rw [e] at h; exact h.elim
     | dcl _=>rw [e] at h; exact h.elim
     | lst l =>
      rw [e] at h;obtain ⟨vs,hv,rs⟩:=m p l e;refine .inl ⟨p,vs,rfl,.inl (SqL.of hv),?_⟩;rw [<- rs.length];exact k _ _ _ _ h (Kp.refl _) (.int _) m
   | _=>exact False.elim h
theorem zs4:RC X (.builtin "abs") absR:=by
 refine ⟨_,sr2,λ xs vs H Q μ Q3 m r h k=>?_⟩;cases r with
 | nil=>exact False.elim h
 | cons r1 r2 =>
  cases r2 with
  | cons _ _=>cases r1 <;> exact False.elim h
  | nil =>
   cases r1 with
   | int i=>exact ⟨i,rfl,k _ _ _ _ h (Kp.refl _) (.int _) m⟩
   | _=>exact False.elim h
theorem uf1:RC X (.type "tuple") tupR:=by
 refine ⟨_,xz0,λ xs vs H Q μ Q3 m r h k=>?_⟩;cases r with
 | nil=>exact False.elim h
 | cons r1 r2 =>
  cases r2 with
  | cons _ _=>cases r1 <;> exact False.elim h
  | nil =>
   cases r1 with
   | tup hq rs=>exact ⟨_,_,rfl,.inr ⟨(SqT.of hq),k _ _ _ _ h (Kp.refl _) (.tup hq rs) m⟩⟩
   | ref p =>
    dsimp only [tupR] at h;cases e:μ p with
    | none=>rw [e] at h; exact h.elim
    | some oo =>
     cases oo with
     | ins _ _=>rw [e] at h; exact h.elim
     | dck _=>rw [e] at h; exact h.elim
     | dcl _=>rw [e] at h; exact h.elim
     | lst l =>
      rw [e] at h;obtain ⟨vs,hv,rs⟩:=m p l e;exact ⟨p,vs,rfl,.inl ⟨SqL.of hv,λ t ht=>k _ _ _ _ h (Kp.new ht) (.tup ve0 (rs.mono (Kp.new ht))) (m.newT ht)⟩⟩
   | _=>exact False.elim h
theorem yn1 {K:Fg} {H:Hp}:∀ {l:List D} {vs:List V} {zs:List Int},RelDs K H l vs->ints? l=some zs->vs=zs.map V.int
 | _,_,zs,.nil,e=>by simp [ints?] at e; subst e; rfl
 | _,_,zs,.cons h r,e=>by
  cases h with
  | int x =>
   simp only [ints?] at e;split at e
   ·next ys e1 =>
    simp only [Option.some.injEq] at e;subst e;rw [yn1 r e1]; rfl
   ·cases e
  | _=>simp [ints?] at e
theorem ur2:X.calm=true->CallR X (.builtin "sum") (λ xs H Q=>∃ (p:Addr) (ns:List Int),xs=[.ref p] /\ SqL X.K H p (ns.map V.int) /\ Q (.int ns.sum) H):=by
 intro hc pins s σ H xs us Q I r h;obtain ⟨p,ns,rfl,hq,q⟩:=h;obtain ⟨u,rfl,rx⟩:=ue1 r;cases rx;obtain ⟨its,r',pl,hz⟩:=I.list hq;have hi:=us1 r';obtain ⟨ys,e⟩:=hi.allInts.items;have hl:=pl.isList;rw [e] at hl;refine sum_intListG (I.ok.hd hc) hl λ h' tk t' hk=>?_;refine ⟨.int ns.sum,H,I.kept (t':=tk) hk,⟨t',?_⟩,q⟩;rw [preSum_eq,take_of_length_le [16],<- nums_intItems,<- e];show Value.int (numsOf its).sum t'=_;rw [hi.numsOf]
theorem va4 (hc:X.calm=true:=by rfl):RC X (.builtin "sum") sumR:=by
 refine ⟨_,ur2 hc,λ xs vs H Q μ Q3 m r h k=>?_⟩;cases r with
 | nil=>exact False.elim h
 | cons r1 r2 =>
  cases r2 with
  | cons _ _=>cases r1 <;> exact False.elim h
  | nil =>
   cases r1 with
   | ref p =>
    dsimp only [sumR] at h;cases e:μ p with
    | none=>rw [e] at h; exact h.elim
    | some oo =>
     cases oo with
     | ins _ _=>rw [e] at h; exact h.elim
     | dck _=>rw [e] at h; exact h.elim
     | dcl _=>rw [e] at h; exact h.elim
     | lst l =>
      rw [e] at h;dsimp only at h;obtain ⟨vs,hv,rs⟩:=m p l e;cases e1:ints? l with
      | none=>rw [e1] at h; exact h.elim
      | some ns =>
       rw [e1] at h;have ev:=yn1 rs e1;subst ev;exact ⟨p,ns,rfl,SqL.of hv,k _ _ _ _ h (Kp.refl _) (.int _) m⟩
   | _=>exact False.elim h
end
section
variable {X:Cx} {pins:[5]} {σ:L2.St} {H:Hp} {s:Shared}
mutual
theorem vg0 (I:[6]):∀ {d:D} {v:V} {p:PyData} {u:Value},RelD X.K H d v->dat d=some p->RelV v u->∃ as,Reads s.heap u p as
 | _,_,p,u,.non,e,r=>by simp only [dat,Option.some.injEq] at e; subst e; cases r; exact ⟨_,Reads.none⟩
 | _,_,p,u,.bl b,e,r=>by simp only [dat,Option.some.injEq] at e; subst e; cases r; exact ⟨_,Reads.bool b⟩
 | _,_,p,u,.int i,e,r=>by simp only [dat,Option.some.injEq] at e; subst e; obtain ⟨t,rfl⟩:=r; exact ⟨_,Reads.int i t⟩
 | _,_,p,u,.str x,e,r=>by
  simp only [dat] at e;split at e
  ·simp only [Option.some.injEq] at e; subst e; obtain ⟨t,rfl⟩:=r; exact ⟨_,Reads.str x t⟩
  ·cases e
 | _,_,p,u,.ref a,e,r=>by simp [dat] at e
 | _,_,p,u,.ty n,e,r=>by simp [dat] at e
 | _,_,p,u,.fls _ _,e,r=>by simp [dat] at e
 | _,_,p,u,.exc _ _ _,e,r=>by simp [dat] at e
 | _,_,p,u,.tup hq rs,e,r=>by
  simp only [dat] at e;split at e
  ·next ps e1 =>
   simp only [Option.some.injEq] at e; subst e;cases r;obtain ⟨its,rv,⟨o,ho,hc,n,hd⟩,hz⟩:=I.tuple (SqT.of hq);obtain ⟨as,q⟩:=zi0 I rs e1 rv;exact ⟨_,Reads.tuple ho hc hd (by simpa using q)⟩
  ·cases e
 | _,_,p,u,.ktp hq rs,e,r=>by
  simp only [dat] at e;split at e
  ·next ps e1 =>
   simp only [Option.some.injEq] at e; subst e;cases r;obtain ⟨its,rv,⟨o,ho,hc,n,hd⟩,hz⟩:=I.tuple hq;obtain ⟨as,q⟩:=zi0 I rs e1 rv;exact ⟨_,Reads.tuple ho hc hd (by simpa using q)⟩
  ·cases e
theorem zi0 (I:[6]):∀ {l:List D} {vs:List V} {ps:List PyData} {us:[24]},RelDs X.K H l vs->dats l=some ps->Vals vs us->∃ as,ReadsAll s.heap us ps as
 | _,_,ps,us,.nil,e,r=>by simp only [dats,Option.some.injEq] at e; subst e; cases r; exact ⟨_,ReadsAll.nil⟩
 | _,_,ps,us,.cons h rs,e,r=>by
  simp only [dats] at e;split at e
  ·next p e1 =>
   split at e
   ·next qs e2 =>
    simp only [Option.some.injEq] at e; subst e;cases r with
    | cons r1 r2 =>
     obtain ⟨as,q1⟩:=vg0 I h e1 r1;obtain ⟨bs,q2⟩:=zi0 I rs e2 r2;exact ⟨_,ReadsAll.cons q1 q2⟩
   ·cases e
  ·cases e
end
theorem th0 (I:[6]) {μ:Mu} (m:RelM X.K μ H) {d:D} {v:V} {p:PyData} {u:Value} (h:RelD X.K H d v) (e:datM μ d=some p) (r:RelV v u):∃ as,Reads s.heap u p as:=by
 cases h with
 | ref a =>
  simp only [datM] at e;split at e
  ·next l e0 =>
   split at e
   ·next ps e1 =>
    simp only [Option.some.injEq] at e; subst e;cases r;obtain ⟨vs,hv,rs⟩:=m a l e0;obtain ⟨its,rv,pl,hz⟩:=I.list (SqL.of hv);obtain ⟨o,ho,hc,n,hd⟩:=pl.isList;obtain ⟨as,q⟩:=zi0 I rs e1 rv;exact ⟨_,Reads.list ho hc hd (by simpa using q)⟩
   ·cases e
  ·cases e
 | non=>exact vg0 I .non e r
 | bl b=>exact vg0 I (.bl b) e r
 | int i=>exact vg0 I (.int i) e r
 | str x=>exact vg0 I (.str x) e r
 | ty n=>exact vg0 I (.ty n) e r
 | tup hq rs=>exact vg0 I (.tup hq rs) e r
 | ktp hq rs=>exact vg0 I (.ktp hq rs) e r
 | fls hq rs=>exact vg0 I (.fls hq rs) e r
 | exc a1 a2 a3=>simp [datM,dat] at e
mutual
theorem te0:∀ (d:D) (p:PyData),dat d=some p->p.canLay0=true
 | .non,p,e=>by simp only [dat,Option.some.injEq] at e; subst e; rfl
 | .bl b,p,e=>by simp only [dat,Option.some.injEq] at e; subst e; rfl
 | .int b,p,e=>by simp only [dat,Option.some.injEq] at e; subst e; rfl
 | .str x,p,e=>by
  simp only [dat] at e;split at e
  ·next h=>simp only [Option.some.injEq] at e; subst e; exact h
  ·cases e
 | .tup l,p,e=>by
  simp only [dat] at e;split at e
  ·next ps e1=>simp only [Option.some.injEq] at e; subst e; simp only [PyData.canLay0]; exact ti0 l ps e1
  ·cases e
 | .ktp l,p,e=>by
  simp only [dat] at e;split at e
  ·next ps e1=>simp only [Option.some.injEq] at e; subst e; simp only [PyData.canLay0]; exact ti0 l ps e1
  ·cases e
 | .fls _,p,e=>by simp [dat] at e
 | .ref _,p,e=>by simp [dat] at e
 | .ty _,p,e=>by simp [dat] at e
theorem ti0:∀ (l:List D) (ps:List PyData),dats l=some ps->PyData.canLayAll0 ps=true
 | [],ps,e=>by simp only [dats,Option.some.injEq] at e; subst e; rfl
 | d :: r,ps,e=>by
  simp only [dats] at e;split at e
  ·next p e1 =>
   split at e
   ·next qs e2 =>
    simp only [Option.some.injEq] at e; subst e;simp only [PyData.canLayAll0,Bool.and_eq_true];exact ⟨te0 d p e1,ti0 r qs e2⟩
   ·cases e
  ·cases e
end
theorem sh1 {μ:Mu} {d:D} {p:PyData} (e:datM μ d=some p):p.canLay0=true:=by
 cases d with
 | ref a =>
  simp only [datM] at e;split at e
  ·next l e0 =>
   split at e
   ·next ps e1=>simp only [Option.some.injEq] at e; subst e; simp only [PyData.canLay0]; exact ti0 l ps e1
   ·cases e
  ·cases e
 | non=>exact te0 _ p e
 | bl b=>exact te0 _ p e
 | int i=>exact te0 _ p e
 | str x=>exact te0 _ p e
 | ty n=>exact te0 _ p e
 | tup l=>exact te0 _ p e
 | ktp l=>exact te0 _ p e
 | fls l=>exact te0 _ p e
 | exc c=>simp [datM,dat] at e
theorem se0 {μ:Mu} {d:D} {p:PyData} (e:datM μ d=some p) (h:p.depth<=64):PySem.SeqAt.shaped p=true:=by
 unfold PySem.SeqAt.shaped;rw [sh1 e,decide_eq_true h]; rfl
def rEqD (K:Fg) (neg:Bool):R2:=λ x y H Q=>∃ d e μ p q,RelM K μ H /\ RelD K H d x /\ RelD K H e y /\ datM μ d=some p /\ datM μ e=some q /\ p.depth<=64 /\ q.depth<=64 /\ Q (.bl (if neg then !PyData.eqv p q else PyData.eqv p q)) H
theorem uf4 (hu:X.A.units + 64 < cLine):OpR X (compareOp .Eq) (rEqD X.K false):=by
 intro pins s σ H x y v u Q I rx ry h;obtain ⟨d,e,μ,p,q,m,rd,re,e1,e2,h1,h2,k⟩:=h;obtain ⟨as,q1⟩:=th0 I m rd e1 rx;obtain ⟨bs,q2⟩:=th0 I m re e2 ry;exact eq_dataH q1 q2 (se0 e1 h1) (se0 e2 h2) hu ⟨.bl _,H,I,rfl,k⟩
theorem yf4 (hu:X.A.units + 64 < cLine):OpR X (compareOp .NotEq) (rEqD X.K true):=by
 intro pins s σ H x y v u Q I rx ry h;obtain ⟨d,e,μ,p,q,m,rd,re,e1,e2,h1,h2,k⟩:=h;obtain ⟨as,q1⟩:=th0 I m rd e1 rx;obtain ⟨bs,q2⟩:=th0 I m re e2 ry;exact ne_dataH q1 q2 (se0 e1 h1) (se0 e2 h2) hu ⟨.bl _,H,I,rfl,k⟩
theorem yj4 {K:Fg} {H:Hp} {x y:D} {v u:V} {c:Bool} (rx:RelD K H x v) (ry:RelD K H y u) (e:eqS x y=some c):scal v u=true /\ decide (v=u)=c:=by
 unfold eqS at e;split at e <;> first | (cases e; done) | (cases rx; cases ry; cases e; exact ⟨rfl,rfl⟩) | (cases rx; cases ry; cases e; refine ⟨rfl,?_⟩; simp)
theorem hu64 {A:Around} {k:Nat} (hr:Room k A):A.units + 64 < cLine:=by have:=hr.un; omega
def rInD (K:Fg) (neg:Bool):R2:=λ x y H Q=>∃ d e μ p xs,∃ b:Bool,RelM K μ H /\ RelD K H d x /\ RelD K H e y /\ datM μ d=some p /\ datM μ e=some (if b then .list xs else .tuple xs) /\ p.depth<=64 /\ (if b then PyData.list xs else PyData.tuple xs).depth<=64 ∧
 Q (.bl (if neg then !(xs.any λ e=>PyData.eqv e p) else xs.any λ e=>PyData.eqv e p)) H
theorem ta2 (hu:X.A.units + 65 < cLine):OpR X (compareOp .NotIn) (rInD X.K true):=by
 intro pins s σ H x y v u Q I rx ry h;obtain ⟨d,e,μ,p,xs,b,m,rd,re,e1,e2,h1,h2,k⟩:=h;obtain ⟨as,q1⟩:=th0 I m rd e1 rx;obtain ⟨bs,q2⟩:=th0 I m re e2 ry;cases b
 ·exact PySem.SeqAt.notIn_tuple_reads q2 q1 (PySem.SeqAt.canLay_of_shaped (se0 e2 h2)) (PySem.SeqAt.canLay_of_shaped (se0 e1 h1)) (room_in_shaped (se0 e1 h1) hu) ⟨.bl _,H,I,rfl,k⟩
 ·exact PySem.SeqAt.notIn_list_reads q2 q1 (PySem.SeqAt.canLay_of_shaped (se0 e2 h2)) (PySem.SeqAt.canLay_of_shaped (se0 e1 h1)) (room_in_shaped (se0 e1 h1) hu) ⟨.bl _,H,I,rfl,k⟩
theorem hu65 {A:Around} {k:Nat} (hr:Room k A):A.units + 65 < cLine:=by have:=hr.un; omega
theorem wi3 {K:Fg} {neg:Bool} {x y:D} {v u:V} {H:Hp} {Q:VK} {μ:Mu} {Q3:VK3} (m:RelM K μ H) (rx:RelD K H x v) (ry:RelD K H y u) (h:inD neg x y μ Q3) (k:Ks K H Q3 Q):rInD K neg v u H Q:=by
 unfold inD at h;split at h
 ·next d xs e1 e2=>exact ⟨x,y,μ,d,xs,true,m,rx,ry,e1,e2,h.1.1,h.1.2,k _ _ _ _ h.2 (Kp.refl _) (.bl _) m⟩
 ·next d xs e1 e2=>exact ⟨x,y,μ,d,xs,false,m,rx,ry,e1,e2,h.1.1,h.1.2,k _ _ _ _ h.2 (Kp.refl _) (.bl _) m⟩
 ·exact h.elim
theorem RdO.inn {K:Fg} {neg:Bool}:RdO K (λ x y H Q=>(rIn K neg x y H Q \/ ∃ i j,x=.str i /\ y=.str j /\ Q (.bl (if neg then !(!(Builtin.Str.occurrences j i 0 j.length 1).isEmpty) else !(Builtin.Str.occurrences j i 0 j.length 1).isEmpty)) H) \/ rInD K neg x y H Q) (inR neg):=λ x y v u H Q μ Q3 m rx ry h k=>by
 unfold inR at h;split at h
 ·next z l =>
  cases e:strs? l with
  | none=>rw [e] at h; exact .inr (wi3 m rx ry h k)
  | some zs =>
   rw [e] at h;cases rx;cases ry with
   | tup hq rs =>
    rename_i a vs;have ev:=ww0 rs e;refine .inl <| .inl ⟨a,vs,rfl,.inr (SqT.of hq),rfl,by rw [ev]; exact zd1 zs,?_⟩;rw [ev,sn1];exact k _ _ _ _ h (Kp.refl _) (.bl _) m
 ·next z l =>
  cases e:strs? l with
  | none=>rw [e] at h; exact .inr (wi3 m rx ry h k)
  | some zs =>
   rw [e] at h;cases rx;cases ry with
   | ktp hq rs =>
    rename_i a vs;have ev:=ww0 rs e;refine .inl <| .inl ⟨a,vs,rfl,.inr hq,rfl,by rw [ev]; exact zd1 zs,?_⟩;rw [ev,sn1];exact k _ _ _ _ h (Kp.refl _) (.bl _) m
 ·next z y =>
  cases rx;cases ry;exact .inl <| .inr ⟨z,y,rfl,rfl,k _ _ _ _ h (Kp.refl _) (.bl _) m⟩
 ·exact .inr (wi3 m rx ry h k)
theorem uy1 (hu:X.A.units + 65 < cLine):RO X (compareOp .NotIn) (inR true):=⟨_,(op_notIn_seq.or tb1).or (ta2 hu),RdO.inn⟩
theorem q_eq (hu:X.A.units + 64 < cLine):RO X (compareOp .Eq) eqR:=by
 refine ⟨_,op_eq.or (uf4 hu),λ x y v u H Q μ Q3 m rx ry h k=>?_⟩;unfold eqR at h;cases e:eqS x y with
 | some c =>
  rw [e] at h;obtain ⟨h1,h2⟩:=yj4 rx ry e;refine .inl ⟨h1,?_⟩;rw [h2];exact k _ _ _ _ h (Kp.refl _) (.bl _) m
 | none =>
  rw [e] at h;dsimp only at h;cases e1:datM μ x with
  | none=>rw [e1] at h; exact h.elim
  | some p =>
   cases e2:datM μ y with
   | none=>rw [e1,e2] at h; exact h.elim
   | some q =>
    rw [e1,e2] at h;exact .inr ⟨x,y,μ,p,q,m,rx,ry,e1,e2,h.1.1,h.1.2,k _ _ _ _ h.2 (Kp.refl _) (.bl _) m⟩
theorem q_ne (hu:X.A.units + 64 < cLine):RO X (compareOp .NotEq) neR:=by
 refine ⟨_,op_ne.or (yf4 hu),λ x y v u H Q μ Q3 m rx ry h k=>?_⟩;unfold neR at h;cases e:eqS x y with
 | some c =>
  rw [e] at h;obtain ⟨h1,h2⟩:=yj4 rx ry e;refine .inl ⟨h1,?_⟩;rw [h2];exact k _ _ _ _ h (Kp.refl _) (.bl _) m
 | none =>
  rw [e] at h;dsimp only at h;cases e1:datM μ x with
  | none=>rw [e1] at h; exact h.elim
  | some p =>
   cases e2:datM μ y with
   | none=>rw [e1,e2] at h; exact h.elim
   | some q =>
    rw [e1,e2] at h;exact .inr ⟨x,y,μ,p,q,m,rx,ry,e1,e2,h.1.1,h.1.2,k _ _ _ _ h.2 (Kp.refl _) (.bl _) m⟩
theorem yi3 (K:Fg):∀ t ∈ ["int", "str", "tuple", "bool", "NoneType", "list"],∀ T ∈ ["int", "str", "tuple", "bool", "list"],kitOne K (.type t) (.type T)=some (t == T || (t == "bool" && T == "int")):=by
 intro t ht T hT;simp only [mem_cons,not_mem_nil,or_false] at ht hT;rcases ht with rfl | rfl | rfl | rfl | rfl | rfl <;> rcases hT with rfl | rfl | rfl | rfl | rfl <;> with_unfolding_all rfl
theorem xi4 {K:Fg} {t T:String} {b:Bool} (e:isIn t T=some b) (ht:t ∈ ["int", "str", "tuple", "bool", "NoneType", "list"]) (hT:T ∈ ["int", "str", "tuple", "bool", "list"]):kitOne K (.type t) (.type T)=some b:=by
 rw [yi3 K t ht T hT];simp only [mem_cons,not_mem_nil,or_false] at ht hT;rcases ht with rfl | rfl | rfl | rfl | rfl | rfl <;> rcases hT with rfl | rfl | rfl | rfl | rfl <;> simp [isIn] at e <;> subst e <;> rfl
theorem yi4 {t T:String} {b:Bool} (e:isIn t T=some b) (ht:t ∈ ["int", "str", "tuple", "bool", "NoneType", "list"]):T ∈ ["int", "str", "tuple", "bool", "list"] \/ (t=T /\ b=true):=by
 unfold isIn at e;simp only [mem_cons,not_mem_nil,or_false] at ht ⊢;split at e
 ·next h=>simp only [Option.some.injEq] at e; exact .inr ⟨h,e.symm⟩
 ·split at e
  ·next h=>rw [h.2]; simp
  ·split at e
   ·next h=>rcases h.2 with rfl | rfl | rfl | rfl | rfl <;> simp
   ·cases e
theorem so2 (K:Fg) (t:String):kitOne K (.type t) (.type t)=some true:=by
 unfold kitOne;rw [if_pos [16]]
def rIsi (K:Fg):List V->Hp->VK->Prop:=λ xs H Q=>∃ d v μ t T b,xs=[v,.ty T] /\ RelM K μ H /\ RelD K H d v /\ tyN μ d=some t /\ isIn t T=some b /\ Q (.bl b) H
theorem tr2:CallR X (.builtin "isinstance") (rIsi X.K):=by
 intro pins s σ H xs us Q I r h;obtain ⟨d,v,μ,t,T,b,rfl,m,rd,e1,e2,q⟩:=h;obtain ⟨u,w',rfl,rx,ry⟩:=xo3 r;cases ry;have fin:∀ tk,EP X pins σ Q (.bool b) { s with toks:=tk }:=λ tk=>⟨.bl b,H,I.tok tk,rfl,q⟩
 have hk:∀ t',t' ∈ ["int", "str", "tuple", "bool", "NoneType", "list"]->isIn t' T=some b->kitOne X.K (.type t') (.type T)=some b:=λ t' h1 h2=>by
  rcases yi4 h2 h1 with z | ⟨rfl,rfl⟩
  ·exact xi4 h2 h1 z
  ·exact so2 _ _
 cases rd with
 | non=>simp only [tyN,Option.some.injEq] at e1; subst e1; cases rx; exact kia_one PySem.W.kitx_none I.kIn True.intro (hk _ [16] e2) (λ z=>nomatch z) fin
 | bl y=>simp only [tyN,Option.some.injEq] at e1; subst e1; cases rx; exact kia_one PySem.W.kitx_bool I.kIn True.intro (hk _ [16] e2) (λ z=>nomatch z) fin
 | int i=>simp only [tyN,Option.some.injEq] at e1; subst e1; obtain ⟨tk,rfl⟩:=rx; exact kia_one PySem.W.kitx_int I.kIn True.intro (hk _ [16] e2) (λ z=>nomatch z) fin
 | str y=>simp only [tyN,Option.some.injEq] at e1; subst e1; obtain ⟨tk,rfl⟩:=rx; exact kia_one PySem.W.kitx_str I.kIn True.intro (hk _ [16] e2) (λ z=>nomatch z) fin
 | tup hq rs =>
  simp only [tyN,Option.some.injEq] at e1; subst e1; cases rx;obtain ⟨its,rv,⟨o,ho,hc,_⟩,hz⟩:=I.tuple (SqT.of hq);exact kia_one PySem.W.kitx_tuple I.kIn ⟨o,ho,hc⟩ (hk _ [16] e2) (λ z=>nomatch z) fin
 | ref p =>
  simp only [tyN] at e1;split at e1
  ·next l e0 =>
   simp only [Option.some.injEq] at e1; subst e1; cases rx;obtain ⟨vs,hv,rs⟩:=m p l e0;obtain ⟨its,rv,pl,hz⟩:=I.list (SqL.of hv);obtain ⟨o,ho,hc,_⟩:=pl.isList;exact kia_one PySem.W.kitx_list I.kIn ⟨o,ho,hc⟩ (hk _ [16] e2) (λ z=>nomatch z) fin
  ·cases e1
 | ty n=>simp [tyN] at e1
 | fls _ _=>simp [tyN] at e1
 | ktp _ _=>simp [tyN] at e1
 | exc _ _ _=>simp [tyN] at e1
theorem zd3:RC X (.builtin "isinstance") isiR:=by
 refine ⟨_,tr2,λ xs vs H Q μ Q3 m r h k=>?_⟩;cases r with
 | nil=>exact False.elim h
 | cons r1 r2 =>
  cases r2 with
  | nil=>exact False.elim h
  | cons r2 r3 =>
   cases r3 with
   | cons _ _=>cases r2 <;> exact False.elim h
   | nil =>
    cases r2 with
    | ty T =>
     rename_i d v;dsimp only [isiR] at h;cases e:tyN μ d with
     | none=>rw [e] at h; exact h.elim
     | some t =>
      rw [e] at h;dsimp only at h;cases e2:isIn t T with
      | none=>rw [e2] at h; exact h.elim
      | some b =>
       rw [e2] at h;exact ⟨d,v,μ,t,T,b,rfl,m,r1,e,e2,k _ _ _ _ h (Kp.refl _) (.bl _) m⟩
    | _=>exact False.elim h
variable {o e:Expr} {es:List Expr} {to:TE3} {t:TA3} {apos cpos:Pos}
theorem xy3 {name:Str} {id:String} {r:V->List V->Hp->VK->Prop} {r3:D->List D->Mu->VK3->Prop} (slot:Slot "list" name id) (hty:typeOf (.builtin id)=pure (.type "method_descriptor")) (hm:MtR X id r)
    (hrd:∀ p xs v vs H Q μ Q3,RelM X.K μ H->RelD X.K H (.ref p) v->RelDs X.K H xs vs->r3 (.ref p) xs μ Q3->Ks X.K H Q3 Q->r v vs H Q) (ho:RE X o to) (ha:RA X (e :: es) t)
    (hbase:attributeBase o name X.env (eval o X.env)=eval o X.env)
    (hfew:((backTo cpos (starEach (e :: es) X.env)).all (λ x=>!x.1) && (backToKw cpos (keywordEach [] X.env)).all (λ x=>x.1.isSome)
     && decide [20])=true)
    (hline:(apos.endLine == cpos.line)=true) (hs:starEach (e :: es) X.env=[35] :: starEach es X.env) (hplain:(backTo cpos (starEach es X.env)).any (·.1)=false) :
    RE X (.Call (.Attribute o name apos) (e :: es) [] cpos) (mt3 r3 to t):=by
 obtain ⟨va,pa,ra⟩:=ho;obtain ⟨vb,pb,rb⟩:=ha;refine ⟨_,yg3 PySem.F.plainAttrs_list slot hty hm pa pb hbase hfew hline hs hplain,λ σ H Q ρ μ Q3 s m h k=>ra σ H _ ρ μ _ s m h λ d μ1 v H1 h1 k1 r1 m1=>?_⟩;cases r1 with
 | ref p =>
  dsimp only at h1;cases e0:μ1 p with
  | none=>rw [e0] at h1; exact h1.elim
  | some oo =>
   cases oo with
   | ins _ _=>rw [e0] at h1; exact h1.elim
   | dck _=>rw [e0] at h1; exact h1.elim
   | dcl _=>rw [e0] at h1; exact h1.elim
   | lst l =>
    rw [e0] at h1;obtain ⟨vs,hv,rs⟩:=m1 p l e0;refine ⟨.inl ⟨rfl,vs,SqL.of hv⟩,rb σ H1 _ ρ μ1 _ (s.mono k1) m1 h1 λ xs μ2 ys H2 h2 k2 r2 m2=>?_⟩;exact hrd p xs _ ys H2 Q μ2 Q3 m2 (.ref p) r2 h2 (k.after (k1.trans k2))
 | _=>exact False.elim h1
theorem yg0 (ho:RE X o to) (ha:RA X (e :: es) t) (hbase:attributeBase o "append" X.env (eval o X.env)=eval o X.env:=by rfl)
    (hfew:((backTo cpos (starEach (e :: es) X.env)).all (λ x=>!x.1) && (backToKw cpos (keywordEach [] X.env)).all (λ x=>x.1.isSome)
     && decide [20])=true:=by rfl)
    (hline:(apos.endLine == cpos.line)=true:=by rfl) (hs:starEach (e :: es) X.env=[35] :: starEach es X.env:=by rfl) (hplain:(backTo cpos (starEach es X.env)).any (·.1)=false:=by rfl) :
    RE X (.Call (.Attribute o "append" apos) (e :: es) [] cpos) (mt3 appR to t):=by
 refine xy3 PySem.F.slot_list_append PySem.F.type_list_append tr0 (λ p xs v vs H Q μ Q3 m rp rx h k=>?_) ho ha hbase hfew hline hs hplain;cases rp;cases rx with
 | nil=>exact False.elim h
 | cons r1 r2 =>
  cases r2 with
  | cons _ _=>exact False.elim h
  | nil =>
   dsimp only [appR] at h;cases e0:μ p with
   | none=>rw [e0] at h; exact h.elim
   | some oo =>
    cases oo with
    | ins _ _=>rw [e0] at h; exact h.elim
    | dck _=>rw [e0] at h; exact h.elim
    | dcl _=>rw [e0] at h; exact h.elim
    | lst l =>
     rw [e0] at h;obtain ⟨vs,hv,rs⟩:=m p l e0;exact ⟨p,vs,_,rfl,rfl,hv,by rw [<- rs.length]; exact h.1,k _ _ _ _ h.2 (Kp.wr hv) .non (m.wr hv (rs.append (.cons r1 .nil)))⟩
theorem vm0 (ho:RE X o to) (ha:RA X (e :: es) t) (hbase:attributeBase o "extend" X.env (eval o X.env)=eval o X.env:=by rfl)
    (hfew:((backTo cpos (starEach (e :: es) X.env)).all (λ x=>!x.1) && (backToKw cpos (keywordEach [] X.env)).all (λ x=>x.1.isSome)
     && decide [20])=true:=by rfl)
    (hline:(apos.endLine == cpos.line)=true:=by rfl) (hs:starEach (e :: es) X.env=[35] :: starEach es X.env:=by rfl) (hplain:(backTo cpos (starEach es X.env)).any (·.1)=false:=by rfl) :
    RE X (.Call (.Attribute o "extend" apos) (e :: es) [] cpos) (mt3 extR to t):=by
 refine xy3 PySem.F.slot_list_extend PySem.F.type_list_extend zb2 (λ p xs v vs H Q μ Q3 m rp rx h k=>?_) ho ha hbase hfew hline hs hplain;cases rp;cases rx with
 | nil=>exact False.elim h
 | cons r1 r2 =>
  cases r2 with
  | cons _ _=>cases r1 <;> exact False.elim h
  | nil =>
   cases r1 with
   | ref q =>
    dsimp only [extR] at h;cases e0:μ p with
    | none=>rw [e0] at h; exact h.elim
    | some oo =>
     cases oo with
     | ins _ _=>rw [e0] at h; exact h.elim
     | dck _=>rw [e0] at h; exact h.elim
     | dcl _=>rw [e0] at h; exact h.elim
     | lst l =>
      cases e2:μ q with
      | none=>rw [e0,e2] at h; exact h.elim
      | some o2 =>
       cases o2 with
       | ins _ _=>rw [e0,e2] at h; exact h.elim
       | dck _=>rw [e0,e2] at h; exact h.elim
       | dcl _=>rw [e0,e2] at h; exact h.elim
       | lst l2 =>
        rw [e0,e2] at h;obtain ⟨vs,hv,rs⟩:=m p l e0;obtain ⟨us,hu,ru⟩:=m q l2 e2;exact ⟨p,q,vs,us,rfl,rfl,hv,hu,by rw [<- rs.length,<- ru.length]; exact h.1,k _ _ _ _ h.2 (Kp.wr hv) .non (m.wr hv (rs.append ru))⟩
   | _=>exact False.elim h
end
abbrev wd0 (X:Cx) (NN:List Str) (scope:Scope) (cl:List (Str × Addr)) (C:Addr) (fp:List Addr) (s₀:Shared) (H₀:Hp) (pn:[5]):Cx :=
 { X with N:=NN,s₀:=s₀,H₀:=H₀,env:=compEnvC scope cl C X.env,outer:=X.stack,ex:=fp,fn:=λ _=>false,pn:=pn,xe:=λ _ _=>False }
structure CompSc (X:Cx) (NN:List Str) (scope:Scope) (cl:List (Str × Addr)) (js:List (Option Nat)):Prop where
 clos:closureFor scope X.env=pure cl
 cell:∀ y ∈ scope.names,y.2 ≠ .cell
 kind:scope.kind=.function
 names:∀ y ∈ scope.names,y.2=.local->scope.names.lookup y.1=some .local
 sub:∀ x c,cl.lookup x=some c->X.env.cells.lookup x=some c
 has:∀ x,((relabel scope X.env).names.lookup x=some .cell \/ (relabel scope X.env).names.lookup x=some .free)->∃ c,cl.lookup x=some c
 len:js.length=NN.length
 out:∀ (i j:Nat),js[i]?=some (some j)->∃ x,NN[i]?=some x /\ X.N[j]?=some x /\ Vis X.env.scope x /\ X.env.scope.names.lookup x ≠ some .local /\ ((relabel scope X.env).names.lookup x=some .cell \/ (relabel scope X.env).names.lookup x=some .free)
theorem xi0 {α:Type} {x:Str} {k:α}:∀ {l:List (Str × α)},l.lookup x=some k->(x,k) ∈ l
 | [],h=>by simp at h
 | (n,k') :: r,h=>by
  rw [lookup_cons] at h;split at h
  ·next e=>simp only [Option.some.injEq] at h; subst h; rw [eq_of_beq e]; exact mem_cons_self
  ·exact mem_cons_of_mem _ (xi0 h)
theorem CompSc.closed {X:Cx} {NN:List Str} {scope:Scope} (hf:∀ y ∈ scope.names,y.2 ≠ .free) (hc:∀ y ∈ scope.names,y.2 ≠ .cell) (hk:scope.kind=.function) (hn:∀ y ∈ scope.names,y.2=.local->scope.names.lookup y.1=some .local) :
    CompSc X NN scope [] (NN.map λ _=>none) where
 clos:=closureFor_none hf
 cell:=hc
 kind:=hk
 names:=hn
 sub:=λ x c h=>by simp at h
 has:=λ x h=>by
  exfalso
  have e:(relabel scope X.env).names=scope.names:=map_eq_self (l:=scope.names) (λ y hy=>by
   obtain ⟨n,k⟩:=y;have:(k == NameKind.free)=false:=by simpa using hf _ hy
   simp [this])
  rw [e] at h;rcases h with h | h
  ·exact hc _ (xi0 h) rfl
  ·exact hf _ (xi0 h) rfl
 len:=by simp
 out:=λ i j h=>by
  rw [getElem?_map] at h;cases q:NN[i]? with
  | none=>rw [q] at h; cases h
  | some y=>rw [q] at h; simp at h
def tn0 (js:List (Option Nat)) (σ:L2.St):L2.St:=js.map λ j=>j.bind λ j=>(σ[j]?).bind id
def PTs (X:Cx) (ifs:List Expr) (t:TT):Prop:=∀ (pins:[5]) (s:Shared) (σ:L2.St) (H:Hp) (Q:Bool->Hp->Prop),Inv X pins σ H s->t σ H Q ->
 wpAny [9] X.A (forIn ifs true λ c r=>if r=true then do let ok <- isTrue c X.env (eval c X.env); pure (ForInStep.yield ok) else pure (ForInStep.yield r)) (TP X pins σ Q) X.xe s
theorem td3 {X:Cx}:PTs X [] (λ _ H Q=>Q true H):=λ _ _ _ H _ I h=>wpAny_tests_nil ⟨H,I,h⟩
theorem ud3 {X:Cx} {c:Expr} {t:TT} (h:PT X c t):PTs X [c] t:=λ pins s σ H Q I q=>wpAny_tests_one (h pins s σ H Q I q)
def tu1 (js:List (Option Nat)) (wi:TI) (g:TG) (tc:TT) (te:TE):TE:=λ σ H Q=>wi σ H λ J H1=>∀ p,H1 p=none ->
 ∃ W:Nat->Nat->L2.St->Hp->Prop,(∃ m,W 0 m (tn0 js σ) (upd H1 p (.lst []))) /\ ∀ i m σ' H',W i m σ' H' ->
  ((J.stop i H' /\ Q (.ref p) H') \/ (J.go i H' /\ ∀ x H2,J.yld i H' x H2->g x σ' H2 λ σ3 H3=>tc σ3 H3 λ b H4 =>
   if b=true then te σ3 H4 λ y H5=>∃ ys,H5 p=some (.lst ys) /\ ys.length < sizeLine /\ ∃ m',m' < m /\ W (i + 1) m' σ3 (upd H5 p (.lst (ys ++ [y]))) else ∃ m',m' < m /\ W (i + 1) m' σ3 H4))
section
variable {X:Cx} {NN:List Str} {scope:Scope} {cl:List (Str × Addr)} {js:List (Option Nat)}
theorem yk3 {pins:[5]} {σ:L2.St} {H:Hp} {s:Shared} {fp:List Addr} {pn:[5]} (hc:X.calm=true) (S:CompSc X NN scope cl js) (I:[6]) (f:∀ b ∈ fp,FpOk X pins H b /\ b < s.heap.objs.size) :
    (wd0 X NN scope cl s.heap.objs.size fp s H pn).Ok where
 mod:=I.ok.mod
 kind:=S.kind
 glob:=I.ok.glob
 blt:=I.ok.blt
 above:=Nat.le_refl _
 inj:=λ x y c h1 h2=>I.ok.inj x y c (S.sub x c h1) (S.sub y c h2)
 has:=λ x h=>S.has x h
 cab:=λ x c h=>by cases h
 hd:=λ _=>I.ok.hd hc
 frames:=I.ok.frames
 stk:=.inl rfl
 exf:=λ b hb=>⟨Nat.ne_of_lt (f b hb).2,λ x c e=>(f b hb).1.2.2.2.2.1 x c (S.sub x c e)⟩
 bs:=I.bs
 bsz:=Nat.le_trans I.ok.bsz I.sz
 noex:=λ b o e hb=>by
  rcases (f b hb).1.2.2.2.1 with z | z
  ·exact I.ok.noex b o e z
  ·exact absurd (Nat.lt_of_lt_of_le (Heap.lt_size e) (Nat.le_trans I.ok.bsz z)) (Nat.lt_irrefl _)
 exfs:=λ b hb hfs=>by
  rcases List.mem_cons.mp (I.stkSub b hfs) with z | z
  ·exact (f b hb).1.2.1 z
  ·exact (f b hb).1.2.2.1 z
 funs:=I.stack
 frf:=I.stkFree
theorem sd2 {js:List (Option Nat)} {σ:L2.St} {i:Nat} {v:V} (h:(tn0 js σ)[i]?=some (some v)):∃ j,js[i]?=some (some j) /\ σ[j]?=some (some v):=by
 unfold tn0 at h;rw [getElem?_map] at h;cases q:js[i]? with
 | none=>rw [q] at h; cases h
 | some o =>
  rw [q] at h;cases o with
  | none=>simp at h
  | some j =>
   refine ⟨j,rfl,?_⟩;simp only [Option.map_some,Option.bind_some,Option.some.injEq] at h;cases e:σ[j]? with
   | none=>rw [e] at h; simp at h
   | some w=>rw [e] at h; simp only [Option.bind_some,id] at h; rw [h]
theorem ud1 {pins:[5]} {σ:L2.St} {H:Hp} {s:Shared} {fp:List Addr} {h₁:Heap} {m:Str->Option Value} {tk:Nat} (hc:X.calm=true) (S:CompSc X NN scope cl js) (I:[6]) (f:∀ b ∈ fp,FpOk X pins H b /\ b < s.heap.objs.size)
    (hn:h₁.Ns s.heap.objs.size m) (k:∀ b u,s.heap.get? b=some u->h₁.get? b=some u):Inv (wd0 X NN scope cl s.heap.objs.size fp s H (X.pn ++ pins)) [] (tn0 js σ) H { s with heap:=h₁,toks:=tk } where
 ok:=yk3 hc S I f
 os:=rfl
 bare:=I.bare
 base:=Un.kept k
 loc:=by
  refine ⟨m,hn,λ i x v h1 h2 h3=>?_⟩;obtain ⟨j,e1,e2⟩:=sd2 h2;obtain ⟨y,q1,q2,q3,q4,q5⟩:=S.out i j e1;have q1':NN[i]?=some x:=h1;rw [q1] at q1'; cases q1';obtain ⟨mX,_,hl⟩:=I.loc;obtain ⟨u,r,l⟩:=hl j x v q2 e2 q3;refine ⟨u,r,.inr ⟨q5,?_⟩⟩;rcases l with ⟨z,_⟩ | ⟨_,c,hc',hcell⟩
  ·exact absurd z q4
  ·obtain ⟨c',hc2⟩:=S.has x q5;have e:=S.sub x c' hc2;rw [hc'] at e; cases e;obtain ⟨o,ho,hd⟩:=hcell;exact ⟨c,hc2,o,k _ _ ho,hd⟩
 cell:=λ x c e=>by
  obtain ⟨v,o,ho,hd⟩:=I.cell x c (S.sub x c e);exact ⟨v,o,k _ _ ho,hd⟩
 free:=I.hok.fresh [14]
 freeC:=λ x c e=>I.freeC x c (S.sub x c e)
 pin:=λ p hp=>by
  have hp':p ∈ X.pn ++ pins:=by simpa using hp
  obtain ⟨h1,h2,h3,h4,h5⟩:=I.pin p hp';refine ⟨k _ _ h1,h2,Nat.ne_of_lt (Heap.lt_size h1),λ z=>?_,h5⟩;rcases List.mem_cons.mp (I.stkSub _ z) with z | z
  ·exact h3 z
  ·exact h4 z
 hok:=I.hok.kept k
 len:=by show (tn0 js σ).length=NN.length; unfold tn0; rw [length_map]; exact S.len
theorem tf3 {elt target iter:Expr} {ifs:List Expr} {pos:Pos} {wi:TI} {g:TG} {tc:TT} {te:TE} (hc:X.calm=true) (S:CompSc X NN scope cl js) (hi:PI X target iter wi)
    (hg:∀ C fp s₀ H₀ pn,PG [12] target g) (ht:∀ C fp s₀ H₀ pn,PTs [12] ifs tc) (he:∀ C fp s₀ H₀ pn,PE [12] elt te)
    (hs:∀ x,foldedSetIterable iter X.env x=pure x):PE X [13] (tu1 js wi g tc te):=by
 intro pins s σ H Q I h;rw [eval_ListComp];refine wpAny_comprehension_free (use:=none) rfl hs S.clos S.kind S.names (thn (hi pins s σ H _ I h) λ xv s1 h1=>thn h1 λ itv s2 h2=>?_);obtain ⟨it,fp,tn,J,H2,rfl,I2,T,st2,f2,hW⟩:=h2;refine wpAny_newObj_type (wpAny_newFunctionEnv S.cell (by intro y hy; simp at hy) (λ h₁ hns₁ hsb₁=>?_) S.kind);dsimp only at hns₁ hsb₁ ⊢;have hD:H2 s2.heap.objs.size=none:=I2.hok.fresh [14]
 have I3:Inv X pins σ (upd H2 s2.heap.objs.size (.lst [])) { s2 with heap:=s2.heap.push [38] } :=
  I2.lnew (t':=s2.toks) (its:=[]) .nil (by rw [sizeLine_eq]; decide)
 generalize hsD:({ s2 with heap:=s2.heap.push [38] }:Shared)=sD at I3;have eh:sD.heap=s2.heap.push [38]:=by rw [<- hsD]
 have es:∀ (h:Heap) (tk:Nat),({ s2 with heap:=h,toks:=tk }:Shared)={ sD with heap:=h,toks:=tk }:=λ h tk=>by rw [<- hsD]
 have hsz:s2.heap.objs.size < sD.heap.objs.size:=by rw [eh,Heap.size_push]; exact Nat.lt_succ_self _
 rw [<- eh] at hns₁ hsb₁ ⊢;generalize hp0:s2.heap.objs.size=p0 at *;have up:∀ b u,s2.heap.get? b=some u->sD.heap.get? b=some u:=λ b u e=>by rw [eh]; exact Heap.get?_push_of_some _ e
 have k:∀ b u,sD.heap.get? b=some u->h₁.get? b=some u:=λ b u e=>hsb₁.extBut b u (Nat.ne_of_lt (Heap.lt_size e)) (Heap.get?_push_of_some _ e)
 have f3:∀ b ∈ fp,FpOk X pins (upd H2 p0 (.lst [])) b /\ b < sD.heap.objs.size:=λ b hb=>by
  obtain ⟨o,ho,_⟩:=T.obj 0 _ st2 b hb;have hlt:b < p0:=by rw [<- hp0]; exact Heap.lt_size ho
  refine ⟨⟨?_,(f2 b hb).2⟩,Nat.lt_trans hlt hsz⟩;rw [vc0 (Nat.ne_of_lt hlt)]; exact (f2 b hb).1
 obtain ⟨W,⟨m0,w0⟩,turn⟩:=hW p0 hD;have I4:=ud1 (tk:=s2.toks + ([]:List (Str × Value)).length) hc S I3 f3 hns₁ k;have st4:tn 0 h₁:=T.keep 0 _ _ st2 λ b _ o e=>k b o (up b o e);rw [es];generalize hX':wd0 X NN scope cl sD.heap.objs.size fp sD (upd H2 p0 (.lst [])) (X.pn ++ pins)=X' at I4;have a1:X'.env=compEnvC scope cl sD.heap.objs.size X.env:=by rw [<- hX']
 have a2:X'.prog=X.prog:=by rw [<- hX']
 have a3:X'.w=X.w:=by rw [<- hX']
 have a4:X'.A=X.A:=by rw [<- hX']
 have a5:X'.K=X.K:=by rw [<- hX']
 have a6:X'.calm=true:=by rw [<- hX']; exact hc
 have a7:X'.xe=λ _ _=>False:=by rw [<- hX']
 have a8:X'.ex=fp:=by rw [<- hX']
 have T':Turn X'.prog X'.w X'.K target J fp it tn:=by rw [a2,a3,a5]; exact T
 have hg':PG X' target g:=by rw [<- hX']; exact hg _ _ _ _ _
 have ht':PTs X' ifs tc:=by rw [<- hX']; exact ht _ _ _ _ _
 have he':PE X' elt te:=by rw [<- hX']; exact he _ _ _ _ _
 have fin:∀ {σ':L2.St} {H':Hp} {s':Shared},Inv X' [] σ' H' s'->Q (.ref p0) H'->compPost [9] X.A X.xe none (EP X pins σ Q) (.ref p0) sD.heap.objs.size (.ok .next) s':=λ {σ' H' s'} I' q=>by
  obtain ⟨m',hn',_⟩:=I'.loc;rw [a1] at hn';refine ⟨m',hn',λ h' sb=>?_⟩
  have u:Un (frs X.stack) fp (upd H2 p0 (.lst [])) H' sD.heap s'.heap:=by
   have:=I'.base;rw [<- hX'] at this;exact this
  have hch:∀ b ∈ fp,(b ∈ X.ex \/ X.s₀.heap.objs.size<=b) /\ b ≠ X.env.locals /\ (∀ x c,X.env.cells.lookup x=some c->c ≠ b) /\ ∀ p ∈ X.pn ++ pins,p.1 ≠ b:=λ b hb=>by
   obtain ⟨_,z1,_,z3,z4,z5⟩:=(f3 b hb).1;exact ⟨z3,z1,z4,z5⟩
  have os':s'.os=sD.os:=by
   have:=I'.os;rw [<- hX'] at this;exact this
  have hok':HOk X.prog X.w H' s'.heap:=by
   have:=I'.hok;rw [<- hX'] at this;exact this
  have I5:Inv X pins σ H' s':=I3.call' os' u hok' I'.bare hch
  have hC:H' sD.heap.objs.size=none:=by
   have:=I'.free;rw [a1] at this;exact this
  refine ⟨.ref p0,H',I5.turned (t':=s'.toks) (it:=sD.heap.objs.size) (λ b o hb e=>sb.extBut b o hb e) hC (Nat.ne_of_gt I3.lt) (.inr I3.sz) (λ x c e=>?_) (λ p hp=>?_),rfl,q⟩
  ·obtain ⟨v,o,ho,_⟩:=I3.cell x c e;exact Nat.ne_of_lt (Heap.lt_size ho)
  ·exact Nat.ne_of_lt (Heap.lt_size (I3.pin p hp).1)
 have fp4:∀ {H':Hp},(∀ b ∈ fp,H' b=none)->∀ b ∈ fp,FpOk X' [] H' b:=λ hn b hb=>by
  obtain ⟨_,z1,z2,z3,z4,z5⟩:=(f3 b hb).1;rw [<- hX'];refine ⟨hn b hb,Nat.ne_of_lt (f3 b hb).2,λ z=>?_,.inl hb,λ x c e=>z4 x c (S.sub x c e),λ p hp=>z5 p (by simpa using hp)⟩;rcases List.mem_cons.mp (I3.stkSub _ z) with z | z
  ·exact z1 z
  ·exact z2 z
 have loop:∀ s₃:Shared,Inv X' [] (tn0 js σ) (upd H2 p0 (.lst [])) s₃->tn 0 s₃.heap ->
     codeAny [9] X.A (.compLoop [13] 0 (.ref it) (.ref p0) (compEnvC scope cl sD.heap.objs.size X.env)) (compPost [9] X.A X.xe none (EP X pins σ Q) (.ref p0) sD.heap.objs.size) s₃:=by
  intro s₃ I₃ st₃;refine codeAny_loop rfl (λ n s'=>∃ i σ' H',Inv X' [] σ' H' s' /\ tn i s'.heap /\ (∀ b ∈ fp,H' b=none) /\ W i n σ' H') (λ n s' hI=>?_) m0 ⟨0,tn0 js σ,_,I₃,st₃,λ b hb=>(f3 b hb).1.1,w0⟩;obtain ⟨i,σ3,H3,J3,st3,fr3,w3⟩:=hI;have tr:=turn i n σ3 H3 w3;show wpAny _ X.A ((compTurn [13] 0 (.ref it) (.ref p0) (compEnvC scope cl sD.heap.objs.size X.env)).onRaise (λ x=>do noteFrame x (compEnvC scope cl sD.heap.objs.size X.env); theTreesLotGoes x)) _ _ s';refine wpAny_noted ?_;rw [compTurn_list,<- a1,<- a2,<- a3,<- a4];have nof:∀ {α:Type} {t:Sem α} {Q':α->Shared->Prop} {s'':Shared} {E:[4]},wpAny (model X'.prog X'.w) X'.A t Q' X'.xe s''->wpAny (model X'.prog X'.w) X'.A t Q' E s'':=λ h=>wpAny_mono h (λ _ _ q=>q) λ _ _ z=>by rw [a7] at z; exact z.elim
  rcases tr with ⟨stop,qn⟩ | ⟨go,step⟩
  ·refine wpAny_bind (wpAny_standAt (wpAny_bind (nof (thn (T'.done X' rfl rfl rfl a6 i [] s' σ3 H3 X'.xe J3 (fp4 fr3) st3 stop) λ r s4 ⟨hr,J4⟩=>?_))));subst hr;exact wpAny_pure (fin J4 qn)
  ·refine wpAny_bind (wpAny_standAt (wpAny_bind (nof (thn (T'.item X' rfl rfl rfl a6 i [] s' σ3 H3 X'.xe J3 (fp4 fr3) st3 go) λ r s4 ⟨u,hr,h4⟩=>?_))));subst hr;refine wpAny_bind (nof (thn h4 λ _ s5 ⟨x,H5,I5,r5,y5,st5,fr5⟩=>?_));have I5':=I5.pinned (fp4 fr5) (T.obj _ _ st5);refine wpAny_bind (nof (thn (hg' _ s5 σ3 H5 x u _ I5' r5 (step x H5 y5)) λ _ s6 ⟨σ6,H6,I6,q6⟩=>?_));refine wpAny_bind (nof (thn (ht' _ s6 σ6 H6 _ I6 q6) λ ok s7 ⟨H7,I7,q7⟩=>?_))
   have again:∀ {s8:Shared} {σ8:L2.St} {H8:Hp},Inv X' ([] ++ yv0 fp s5.heap) σ8 H8 s8->(∃ m',m' < n /\ W (i + 1) m' σ8 H8)->∃ m,m < n /\ ∃ i σ' H',Inv X' [] σ' H' s8 /\ tn i s8.heap /\ (∀ b ∈ fp,H' b=none) /\ W i m σ' H':=λ {s8 σ8 H8} I8 ⟨m',hm,w8⟩=>by
    refine ⟨m',hm,i + 1,σ8,H8,I8.unpinned,T.keep _ _ _ st5 λ b hb o e=>(I8.pin (b,o) (mem_append_right _ (mem_append_right _ (ug0 hb e)))).1,λ b hb=>?_,w8⟩;obtain ⟨o,e,d⟩:=T.obj _ _ st5 b hb;exact (I8.pin (b,o) (mem_append_right _ (mem_append_right _ (ug0 hb e)))).2.1
   cases ok with
   | false=>exact wpAny_pure ⟨rfl,again I7 q7⟩
   | true =>
    refine wpAny_bind (wpAny_bind (nof (thn (he' _ s7 σ6 H7 _ I7 q7) λ xv s8 ⟨y,H8,I8,r8,ys,q8,hlen,q9⟩=>wpAny_bind (nof ?_))));refine thn (tr0 (X:=X') _ s8 σ6 H8 (.ref p0) [y] (.ref p0) [xv] (λ v H9=>v=.non /\ H9=upd H8 p0 (.lst (ys ++ [y]))) I8 rfl (.cons r8 .nil) ⟨p0,ys,y,rfl,rfl,q8,hlen,rfl,rfl⟩) λ rv s9 ⟨v9,H9,I9,_,_,e9⟩=>?_;subst e9;exact wpAny_pure (wpAny_pure ⟨rfl,again I9 q9⟩)
 exact codeAny_compStart_list (loop _ I4 st4) (T.self X.A 0 _ _ _ st4 (loop _ I4 st4))
end
theorem xf0:bootBuiltins "len" = some (.builtin "len"):=by decide +kernel
theorem sk4:bootBuiltins "abs" = some (.builtin "abs"):=by decide +kernel
theorem si0:bootBuiltins "isinstance" = some (.builtin "isinstance"):=by decide +kernel
theorem wy2:bootBuiltins "sum" = some (.builtin "sum"):=by decide +kernel
theorem yz0:bootBuiltins "tuple" = some (.type "tuple"):=by decide +kernel
theorem uk4:bootBuiltins "int" = some (.type "int"):=by decide +kernel
theorem yi2:bootBuiltins "bool" = some (.type "bool"):=by decide +kernel
theorem vy2:bootBuiltins "set" = some (.type "set"):=by decide +kernel
theorem tk4:bootBuiltins "all" = some (.builtin "all"):=by decide +kernel
theorem vk4:bootBuiltins "min" = some (.builtin "min"):=by decide +kernel
theorem xk0:bootBuiltins "sorted" = some (.builtin "sorted"):=by decide +kernel
def RTs (X:Cx) (ifs:List Expr) (t:TT3):Prop:=∃ tv,PTs X ifs tv /\ RdT X.K tv t
theorem uj0 {X:Cx}:RTs X [] tt3:=⟨_,td3,λ σ H Q ρ μ Q3 s m h k=>k _ _ _ h (Kp.refl _) m⟩
theorem sw0 {X:Cx} {c:Expr} {t:TT3} (h:RT X c t):RTs X [c] t:=let ⟨tv,p,r⟩:=h; ⟨tv,ud3 p,r⟩
theorem tp2 {K:Fg} {H:Hp} {ρ:St3} {σ:L2.St} (s:RSt K H ρ σ) (js:List (Option Nat)):RSt K H (js.map λ j=>j.bind (getI ρ)) (tn0 js σ):=by
 refine ⟨by simp [tn0],λ i d e=>?_⟩;rw [xh1,getElem?_map] at e;unfold tn0;rw [getElem?_map];cases q:js[i]? with
 | none=>rw [q] at e; cases e
 | some o =>
  rw [q] at e;cases o with
  | none=>simp at e
  | some j =>
   have e':getI ρ j=some d:=by simpa using e
   obtain ⟨v,h1,h2⟩:=s.at' j d e';exact ⟨v,by simp [h1],h2⟩
theorem RdE.comp {K:Fg} {js:List (Option Nat)} {wi:TI} {g:TG} {tc:TT} {te:TE} {ti:TI3} {g3:TG3} {tc3:TT3} {te3:TE3} (ri:RdI K wi ti) (rg:RdG K g g3) (rt:RdT K tc tc3) (re:RdE K te te3):RdE K (tu1 js wi g tc te) (yi0 js ti g3 tc3 te3):=by
 intro σ H Q ρ μ Q3 s m h k;refine ri σ H _ ρ μ _ s m h λ l S μ1 J H1 h1 k1 m1 ok p hp=>?_;obtain ⟨W,w0,hS,hn,hs⟩:=h1 p (m1.free hp);have kn:Kp H1 (upd H1 p (.lst [])):=Kp.new hp;refine ⟨λ i n σ2 H2=>n=l.length - i /\ i<=l.length /\ ∃ ρ2 μ2 ys,RSt K H2 ρ2 σ2 /\ RelM K μ2 H2 /\ Kp H1 H2 /\ W (l.drop i) ys ρ2 μ2,⟨l.length,rfl,Nat.zero_le _,_,_,[],(tp2 (s.mono k1) js).mono kn,m1.newL hp .nil,kn,w0⟩,?_⟩;rintro i n σ2 H2 ⟨rfl,hi,ρ2,μ2,ys,s2,m2,k2,w2⟩;obtain ⟨hS2,hp2⟩:=hS _ _ _ _ w2;by_cases hlt:i < l.length
 ·rw [List.drop_eq_getElem_cons hlt] at w2;obtain ⟨hz,h2⟩:=hs _ _ _ _ _ w2;obtain ⟨ok1,_⟩:=ok i H2 μ2 k2 m2 hS2;obtain ⟨go,yl⟩:=ok1 l[i] (getElem?_eq_getElem hlt);refine .inr ⟨go,λ x H3 y=>?_⟩;obtain ⟨k3,m3,r3⟩:=yl x H3 y;refine rg x l[i] σ2 H3 _ ρ2 μ2 _ (s2.mono k3) m3 r3 h2 λ ρ4 μ4 σ4 H4 h4 k4 s4 m4=>?_;refine rt σ4 H4 _ ρ4 μ4 _ s4 m4 h4 λ b μ5 H5 h5 k5 m5=>?_;have k15:Kp H1 H5:=k2.trans (k3.trans (k4.trans k5));cases b with
  | false=>exact ⟨l.length - (i + 1),by omega,rfl,hlt,ρ4,μ5,ys,s4.mono k5,m5,k15,h5⟩
  | true =>
   refine re σ4 H5 _ ρ4 μ5 _ (s4.mono k5) m5 h5 λ d μ6 v H6 h6 k6 r6 m6=>?_;obtain ⟨vs,hv,rv⟩:=m6 p ys h6.1;refine ⟨vs,hv,by rw [<- rv.length]; exact hz,l.length - (i + 1),by omega,rfl,hlt,ρ4,_,_,((s4.mono k5).mono k6).mono (Kp.wr hv),m6.wr hv (rv.append (.cons r6 .nil)),(k15.trans k6).trans (Kp.wr hv),h6.2⟩
 ·have e:i=l.length:=by omega
  subst e;rw [List.drop_length] at w2;exact .inl ⟨(ok _ H2 μ2 k2 m2 hS2).2 [14],k _ _ _ _ (hn _ _ _ w2) (k1.trans k2) (.ref p) m2⟩
section
variable {X:Cx} {elt target iter:Expr} {ifs:List Expr} {pos:Pos} {ti:TI3} {g:TG3} {tc:TT3} {te:TE3} {NN:List Str} {scope:Scope} {cl:List (Str × Addr)} {js:List (Option Nat)}
theorem wi0 (hc:X.calm=true) (S:CompSc X NN scope cl js) (hi:RI X target iter ti) (hg:∀ C fp s₀ H₀ pn,RG [12] target g)
    (ht:∀ C fp s₀ H₀ pn,RTs [12] ifs tc) (he:∀ C fp s₀ H₀ pn,RE [12] elt te)
    (hs:∀ x,foldedSetIterable iter X.env x=pure x):RE X [13] (yi0 js ti g tc te):=by
 obtain ⟨wi,pi,ri⟩:=hi
 let gU:TG:=λ v σ H Q=>∀ (r:TG3),r=g->∃ d ρ μ Q3,RSt X.K H ρ σ /\ RelM X.K μ H /\ RelD X.K H d v /\ g d ρ μ Q3 /\ (∀ ρ' μ' σ' H',Q3 ρ' μ'->Kp H H'->RSt X.K H' ρ' σ'->RelM X.K μ' H'->Q σ' H')
 let tU:TT:=λ σ H Q=>∃ ρ μ Q3,RSt X.K H ρ σ /\ RelM X.K μ H /\ tc ρ μ Q3 /\ (∀ b μ' H',Q3 b μ'->Kp H H'->RelM X.K μ' H'->Q b H')
 let eU:TE:=λ σ H Q=>∃ ρ μ Q3,RSt X.K H ρ σ /\ RelM X.K μ H /\ te ρ μ Q3 /\ Ks X.K H Q3 Q
 have hg':∀ C fp s₀ H₀ pn,PG [12] target gU:=λ C fp s₀ H₀ pn=>by
  obtain ⟨tv,p,r⟩:=hg C fp s₀ H₀ pn;intro pins s σ H v u Q I rv h;obtain ⟨d,ρ,μ,Q3,a1,a2,a3,a4,a5⟩:=h g rfl;exact p pins s σ H v u Q I rv (r v d σ H Q ρ μ Q3 a1 a2 a3 a4 a5)
 have ht':∀ C fp s₀ H₀ pn,PTs [12] ifs tU:=λ C fp s₀ H₀ pn=>by
  obtain ⟨tv,p,r⟩:=ht C fp s₀ H₀ pn;intro pins s σ H Q I h;obtain ⟨ρ,μ,Q3,a1,a2,a3,a4⟩:=h;exact p pins s σ H Q I (r σ H Q ρ μ Q3 a1 a2 a3 a4)
 have he':∀ C fp s₀ H₀ pn,PE [12] elt eU:=λ C fp s₀ H₀ pn=>by
  obtain ⟨tv,p,r⟩:=he C fp s₀ H₀ pn;intro pins s σ H Q I h;obtain ⟨ρ,μ,Q3,a1,a2,a3,a4⟩:=h;exact p pins s σ H Q I (r σ H Q ρ μ Q3 a1 a2 a3 a4)
 exact ⟨_,tf3 hc S pi hg' ht' he' hs,RdE.comp ri (λ v d σ H Q ρ μ Q3 a1 a2 a3 a4 a5 _ _=>⟨d,ρ,μ,Q3,a1,a2,a3,a4,a5⟩) (λ σ H Q ρ μ Q3 a1 a2 a3 a4=>⟨ρ,μ,Q3,a1,a2,a3,a4⟩) (λ σ H Q ρ μ Q3 a1 a2 a3 a4=>⟨ρ,μ,Q3,a1,a2,a3,a4⟩)⟩
theorem uc3 (hf:∀ y ∈ scope.names,y.2 ≠ .free) (hcl:∀ y ∈ scope.names,y.2 ≠ .cell) (hn:∀ y ∈ scope.names,y.2=.local->scope.names.lookup y.1=some .local) (hi:RI X target iter ti) (hg:∀ C fp s₀ H₀ pn,RG (wd0 X NN scope [] C fp s₀ H₀ pn) target g)
    (ht:∀ C fp s₀ H₀ pn,RTs (wd0 X NN scope [] C fp s₀ H₀ pn) ifs tc) (he:∀ C fp s₀ H₀ pn,RE (wd0 X NN scope [] C fp s₀ H₀ pn) elt te) (hc:X.calm=true:=by rfl) (hk:scope.kind=.function:=by rfl)
    (hs:∀ x,foldedSetIterable iter X.env x=pure x:=by intro _; rfl):RE X [13] (yi0 (NN.map λ _=>none) ti g tc te) :=
 wi0 hc (CompSc.closed hf hcl hk hn) hi hg ht he hs
end
mutual
inductive TupK (K:Fg):List D->Addr->Prop where
 | mk {a:Addr} {l:List D} {its:Array Value} {n:Nat} {od:Option Addr} {sl:Array (Option Value)}:K.lookup a=some ⟨.type "tuple",od,.seq its n,sl⟩->its.size<=sizeLine->ItK K l its.toList->TupK K l a
inductive ItK (K:Fg):List D->List Value->Prop where
 | nil:ItK K [] []
 | int {i:Int} {t:Tok} {l:List D} {us:List Value}:ItK K l us->ItK K (.int i :: l) (.int i t :: us)
 | str {x:Str} {t:Tok} {l:List D} {us:List Value}:ItK K l us->ItK K (.str x :: l) (.str x t :: us)
 | bl {b:Bool} {l:List D} {us:List Value}:ItK K l us->ItK K (.bl b :: l) (.bool b :: us)
 | tup {a:Addr} {l' l:List D} {us:List Value}:TupK K l' a->ItK K l us->ItK K (.ktp l' :: l) (.ref a :: us)
end
mutual
theorem TupK.rel {K:Fg}:∀ {l:List D} {a:Addr},TupK K l a->∀ H,RelD K H (.ktp l) (.ref a)
 | _,_,.mk h1 h2 h3,H=>by
  obtain ⟨vs,r,rd⟩:=h3.rel;exact .ktp (.inr ⟨_,_,_,h1,rfl,rfl,h2,r⟩) (rd H)
theorem ItK.rel {K:Fg}:∀ {l:List D} {us:[24]},ItK K l us->∃ vs,Vals vs us /\ ∀ H,RelDs K H l vs
 | _,_,.nil=>⟨[],.nil,λ _=>.nil⟩
 | _,_,.int h=>let ⟨vs,r,rd⟩:=h.rel; ⟨_,.cons (show RelV (.int _) _ from ⟨_,rfl⟩) r,λ H=>.cons (.int _) (rd H)⟩
 | _,_,.str h=>let ⟨vs,r,rd⟩:=h.rel; ⟨_,.cons (show RelV (.str _) _ from ⟨_,rfl⟩) r,λ H=>.cons (.str _) (rd H)⟩
 | _,_,.bl h=>let ⟨vs,r,rd⟩:=h.rel; ⟨_,.cons (show RelV (.bl _) _ from rfl) r,λ H=>.cons (.bl _) (rd H)⟩
 | _,_,.tup h0 h=>let ⟨vs,r,rd⟩:=h.rel; ⟨_,.cons (show RelV (.ref _) _ from rfl) r,λ H=>.cons (h0.rel H) (rd H)⟩
end
section
variable {K:Fg} {h:Heap} {mg:Str->Option Value} {x:Str}
theorem wi4 {a:Addr} {l:List D} (X:K.In h) (G:h.Ns mainGlobals mg) (e:nsIn K mainGlobals x=some (some (.ref a))) (r:TupK K l a):Gd K mg x (.ktp l):=⟨_,.ref a,mg_of X G e,rfl,λ H=>r.rel H⟩
end
theorem uc1 {K:Fg} {H:Hp}:∀ ns:List Int,RelDs K H (ns.map D.int) (ns.map V.int)
 | []=>.nil
 | n :: r=>.cons (.int n) (uc1 r)
theorem uo2 {K:Fg} {H:Hp} {a:Addr} {ns:List Int} {sp:Sp3} (hO:Only H) (hS:SqL K H a (ns.map V.int)) (h:sp [.fls (ns.map D.int)] (λ _=>none) (λ d _=>d=.bl true)) :
    lift K sp [.ref a] H (λ v _=>v=.bl true) λ _ _ _=>False:=by
 have hF:SqF K H a (ns.map V.int):=by
  rcases hS with (h1 | ⟨o,h1⟩) | h1
  ·rcases hO a with z | ⟨o,xs,z⟩
   ·rw [h1] at z; cases z
   ·rw [h1] at z; cases z
  ·exact .inl ⟨o,h1⟩
  ·exact .inr h1
 refine ⟨_,_,_,.cons (.fls hF (uc1 ns)) .nil,(⟨λ p xs e=>(by cases e),λ p c fs e=>(by cases e),λ p kvs e=>(by cases e),λ p kvs e=>(by cases e)⟩),h,λ d μ' v H' q _ r _=>?_⟩;subst q;cases r;rfl
open PySem.AutoSeq1 (wpAny_loadPart')
theorem xf1 (l:Addr) (items:Array Value) (n:Nat) (dd:Option Addr) (sl:Array (Option Value)) (x:Int) (u:Tok) (hc0:(decide (x < -(2 ^ 63)) || decide (x ≥ 2 ^ 63))=false) (hc1:(items.isEmpty || x == 1)=true) :
    Meets (Builtin.«tuple.__mul__» ⟨[.ref l,.int x u],[]⟩) (λ _ R s=>s.heap.get? l=some { cls:=.type "tuple",dict:=dd,data:=.seq items n,slots:=sl } /\ R (.ok (.ret (.ref l))) s) :=
 .of_wp λ prog w A R s h=>by
  obtain ⟨hp,g,d,tk,os⟩:=s; obtain ⟨hl,h⟩:=h;have f1:=AutoSeq1.idx_int;have f2:=AutoSeq1.sub_tuple_tuple
  wp_walk using wpAny_loadPart' hl
  refine wpAny_ite_false (decide_eq_false (by rw [hc0]; exact Bool.false_ne_true)) ?_
  wp_walk using wpAny_loadPart' hl
  exact ⟨_,rfl,h⟩
theorem se1 (l:Addr) (items:Array Value) (n:Nat) (dd:Option Addr) (sl:Array (Option Value)) (x:Int) (u:Tok) (hc0:(decide (x < -(2 ^ 63)) || decide (x ≥ 2 ^ 63))=false) (hc1:(items.isEmpty || x == 1)=false) (hc2:(decide (x<=0) || items.isEmpty)=true) :
    Meets (Builtin.«tuple.__mul__» ⟨[.ref l,.int x u],[]⟩) (λ _ R s=>s.heap.get? l=some { cls:=.type "tuple",dict:=dd,data:=.seq items n,slots:=sl } /\ R (.ok (.ret (.ref s.heap.objs.size))) { s with heap:=s.heap.push { cls:=.type "tuple",data:=.seq #[] } }) :=
 .of_wp λ prog w A R s h=>by
  obtain ⟨hp,g,d,tk,os⟩:=s; obtain ⟨hl,h⟩:=h;have f1:=AutoSeq1.idx_int;have f2:=AutoSeq1.sub_tuple_tuple
  wp_walk using wpAny_loadPart' hl
  refine wpAny_ite_false (decide_eq_false (by rw [hc0]; exact Bool.false_ne_true)) ?_
  wp_walk using wpAny_loadPart' hl
  exact ⟨_,rfl,h⟩
theorem te1 (l:Addr) (items:Array Value) (n:Nat) (dd:Option Addr) (sl:Array (Option Value)) (x:Int) (u:Tok) (hc0:(decide (x < -(2 ^ 63)) || decide (x ≥ 2 ^ 63))=false) (hc1:(items.isEmpty || x == 1)=false) (hc2:(decide (x<=0) || items.isEmpty)=false)
    (hc3:¬ ((items.size:Int) * x > (2 ^ 63 - 1) / 8)) (hc4:Builtin.Tuple.tupleTooMany ((items.size:Int) * x)=false) (hz:((List.replicate x.toNat items).foldl (· ++ ·) #[]).size<=sizeLine) :
    Meets (Builtin.«tuple.__mul__» ⟨[.ref l,.int x u],[]⟩) (λ _ R s=>s.heap.get? l=some { cls:=.type "tuple",dict:=dd,data:=.seq items n,slots:=sl } /\ R (.ok (.ret (.ref s.heap.objs.size))) { s with heap:=s.heap.push { cls:=.type "tuple",data:=.seq ((List.replicate x.toNat items).foldl (· ++ ·) #[]) } }) :=
 .of_wp λ prog w A R s h=>by
  obtain ⟨hp,g,d,tk,os⟩:=s; obtain ⟨hl,h⟩:=h;have f1:=AutoSeq1.idx_int;have f2:=AutoSeq1.sub_tuple_tuple
  wp_walk using wpAny_loadPart' hl
  refine wpAny_ite_false (decide_eq_false (by rw [hc0]; exact Bool.false_ne_true)) ?_
  wp_walk using wpAny_loadPart' hl
  refine wpAny_ite_false (decide_eq_false hc3) ?_
  wp_walk using wpAny_loadPart' hl
  all_goals try (refine wpAny_ite_false (decide_eq_false (by rw [hc4]; exact Bool.false_ne_true)) ?_)
  have hsz:((List.replicate x.toNat items).foldl (· ++ ·) #[]).size<=sizeLine:=hz
  wp_walk using wpAny_loadPart' hl
  exact ⟨_,rfl,h⟩
theorem ur0:fillsNumberSlot (.type "tuple") "mul" = pure false :=
 PySem.fillsNumberSlot_seq (id := "tuple.__mul__") (r:=some (.builtin "tuple.__rmul__")) F.slot_tuple_mul.lookup (by decide +kernel) F.slot_tuple_rmul.lookup (by decide +kernel)
theorem yr0:seqRepeat? (.type "tuple")=pure (some (.builtin "tuple.__mul__")):=by
 unfold seqRepeat?;rw [PySem.seqSlot_of F.slot_tuple_mul.lookup (T := "tuple") (name := "__mul__") (id := "tuple.__mul__") (by decide +kernel),PySem.seqSlot_of F.slot_tuple_rmul.lookup (T := "tuple") (name := "__rmul__") (id := "tuple.__rmul__") (by decide +kernel)];rfl
theorem wu0 (a:Int) (t:Tok) (l:Addr) (its:Array Value) (n:Nat) (dd:Option Addr) (sl:Array (Option Value)) :
    Meets (Builtin.«int.__rmul__» ⟨[.int a t,.ref l],[]⟩) (λ _ R s=>s.heap.get? l=some ⟨.type "tuple",dd,.seq its n,sl⟩ /\ R (.ok (.ret .notImplemented)) s) :=
 .of_wp λ prog w A R s h=>by
  obtain ⟨hp,g,d,tk,os⟩:=s;obtain ⟨hl,h⟩:=h
  wp_walk using wpAny_loadPart' hl
  exact ⟨_,rfl,h⟩
section
variable {X:Cx}
def ur4 (K:Fg):R2:=λ x y H Q=>∃ a k xs,x=.ref a /\ y=.int k /\ SqT K H a xs /\ -(2 ^ 62)<=k /\ k < 2 ^ 62 /\ xs.length * k.toNat<=1000000 /\ (xs=[] \/ k=1->Q (.ref a) H) /\ ∀ p,H p=none->Q (.ref p) (upd H p (.tup (List.replicate k.toNat xs).flatten))
theorem op_repT:OpR X (binaryOp .Mult) (ur4 X.K):=by
 intro pins s σ H x y v u Q I rx ry h;obtain ⟨a,k,xs,rfl,rfl,hq,h1,h2,hz,q1,q2⟩:=h;cases rx;obtain ⟨t,rfl⟩:=ry;obtain ⟨its,r,⟨⟨cls,dd,data,sl⟩,ho,hc,n,hd⟩,hl⟩:=I.tuple hq;simp only at hc hd;subst hc hd;have hlen:its.length=xs.length:=r.length.symm
 have c0:(decide (k < -(2 ^ 63)) || decide (k ≥ 2 ^ 63))=false:=by
  rw [decide_eq_false [2],decide_eq_false [2]]; rfl
 refine wpAny_binaryOp_repeat_ref (T := "tuple") (U := "int") [7] ⟨_,ho,rfl⟩ (λ s'=>typeIs_int s' k t) ur0 F.fills_int_mul F.slot_int_rmul yr0 F.slot_int_index.lookup
  (call_meets F.slot_int_rmul (typeIs_int s k t) F.entry_int_rmul (F.args_int_rmul_2 _ _) (wu0 k t a its.toArray n dd sl) ⟨ho,rfl,⟨_,ho,rfl⟩,?_⟩)
 by_cases e1:xs=[] \/ k=1
 ·refine call_meets F.slot_tuple_mul ⟨_,ho,rfl⟩ F.entry_tuple_mul (F.args_tuple_mul_2 _ _) (xf1 a its.toArray n dd sl k t c0 ?_) ⟨ho,⟨.ref a,H,I,rfl,q1 e1⟩⟩;rcases e1 with e1 | e1
  ·subst e1; cases r; rfl
  ·subst e1; simp
 ·have hne:its ≠ []:=λ z=>e1 (.inl (by subst z; cases r; rfl));have hk1:k ≠ 1:=λ z=>e1 (.inr z);have c1:(its.toArray.isEmpty || k == 1)=false:=by simp [hne,hk1]
  have hf:H s.heap.objs.size=none:=I.hok.fresh [14];by_cases e2:k<=0
  ·have hk0:k.toNat=0:=by omega
   refine call_meets F.slot_tuple_mul ⟨_,ho,rfl⟩ F.entry_tuple_mul (F.args_tuple_mul_2 _ _) (se1 a its.toArray n dd sl k t c0 c1 (by simp [e2])) ⟨ho,?_⟩;refine ⟨.ref _,upd H s.heap.objs.size (.tup []),I.laid (t':=s.toks) (λ b ob q=>Heap.get?_push_of_some _ q) [14] ⟨by rw [sizeLine_eq]; decide,[],.nil,IsTup.new _ _⟩,rfl,?_⟩;have:=q2 _ hf;rw [hk0] at this;exact this
  ·have fr:List.foldl (· ++ ·) #[] (List.replicate k.toNat its.toArray)=(List.replicate k.toNat its).flatten.toArray:=by
     have:=ts0 its k.toNat [];rw [nil_append] at this;exact this
   have hb:(1000000:Nat)<=sizeLine:=by rw [sizeLine_eq]; decide
   have hm:(its.toArray.size:Int) * k<=1000000:=by
    rw [size_toArray,hlen];have:((xs.length * k.toNat:Nat):Int)<=1000000:=by omega
    rw [Int.natCast_mul,Int.toNat_of_nonneg [2]] at this;exact this
   have hsz:(List.replicate k.toNat its).flatten.length<=sizeLine:=by rw [wg1,Nat.mul_comm,hlen]; omega
   refine call_meets F.slot_tuple_mul ⟨_,ho,rfl⟩ F.entry_tuple_mul (F.args_tuple_mul_2 _ _) (te1 a its.toArray n dd sl k t c0 c1 (by simp [hne]; omega) [2] ?_ (by rw [fr,size_toArray]; exact hsz)) ⟨ho,?_⟩
   ·unfold Builtin.Tuple.tupleTooMany;rw [decide_eq_false [2]]
   ·rw [fr];refine ⟨.ref _,upd H s.heap.objs.size (.tup (List.replicate k.toNat xs).flatten),I.laid (t':=s.toks) (λ b ob q=>Heap.get?_push_of_some _ q) [14] ⟨?_,_,r.rep k.toNat,IsTup.new _ _⟩,rfl,q2 _ hf⟩;rw [wg1,Nat.mul_comm]; omega
theorem wb1:RO X (binaryOp .Mult) mulR:=by
 refine ⟨_,op_mulB.or (op_repT.or se4),λ x y v u H Q μ Q3 m rx ry h k=>?_⟩;cases ry with
 | int j =>
  cases rx with
  | int i=>exact .inl ⟨i,j,rfl,rfl,h.1,k _ _ _ _ h.2 (Kp.refl _) (.int _) m⟩
  | tup hq rs =>
   rename_i a l vs;refine .inr (.inl ⟨a,j,vs,rfl,rfl,(SqT.of hq),h.1.1.1,h.1.1.2,by rw [<- rs.length]; exact h.1.2,λ e=>?_,λ p hp=>?_⟩)
   ·rcases e with e | e
    ·subst e; cases rs;have h2:=h.2;have e:(List.replicate j.toNat ([]:List D)).flatten=[]:=by simp
     rw [e] at h2;exact k _ _ _ _ h2 (Kp.refl _) (.tup hq .nil) m
    ·subst e;have h2:=h.2;have e:(List.replicate (1:Int).toNat l).flatten=l:=by simp
     rw [e] at h2;exact k _ _ _ _ h2 (Kp.refl _) (.tup hq rs) m
   ·exact k _ _ _ _ h.2 (Kp.new hp) (.tup ve0 ((rs.rep _).mono (Kp.new hp))) (m.newT hp)
  | ref p =>
   dsimp only [mulR] at h;cases e:μ p with
   | none=>rw [e] at h; exact h.elim
   | some oo =>
    cases oo with
    | ins _ _=>rw [e] at h; exact h.elim
    | dck _=>rw [e] at h; exact h.elim
    | dcl _=>rw [e] at h; exact h.elim
    | lst l =>
     rw [e] at h;obtain ⟨vs,hv,rv⟩:=m p l e;have hb:(1000000:Nat)<=sizeLine:=by rw [sizeLine_eq]; decide
     refine .inr (.inr ⟨p,j,vs,rfl,rfl,hv,by have:=h.1.1.1; omega,by have:=h.1.1.2; omega,by rw [<- rv.length]; exact Nat.le_trans h.1.2 hb,λ t ht=>?_⟩);exact k _ _ _ _ (h.2 t (m.free ht)) (Kp.new ht) (.ref t) (m.newL ht (rv.rep _))
  | _=>exact False.elim h
 | _=>cases rx <;> exact False.elim h
theorem wu1 {prog:Program} {w:World} {A:Around} {E:[4]} {s:Shared} {t sl:Addr} {items:Array Value} {vl vu:Value} {lo hi:Option Int} {Q:[4]} (ht:IsTup s.heap t items) (hs:s.heap.IsSliceOf sl vl vu .none) (pl:IsPart vl lo) (pu:IsPart vu hi)
    (hw:HT.sIx items.size 0 lo=0 /\ HT.sIx items.size items.size hi=items.size) (h:Q (.ref t) s):wpAny [11] A (getItem (.ref t) (.ref sl)) Q E s:=by
 obtain ⟨os,hos,hcs,hds⟩:=id hs;have hTs:s.TypeIs (.ref sl) "slice" := ⟨os,hos,hcs⟩;unfold getItem
 try with_reducible refine wpAny_holding ?_
 first | refine wpAny_bind [17] | skip
 refine wpAny_bind (wpAny_sequenceKey ht.typeIs [7] ?_);refine wpAny_bind (wpAny_callSpecial?_slot ht.typeIs (name:=Str.ofString "__getitem__") PyProof.Rows.slot_tuple_getitem (wpAny_call_entry PyProof.Rows.slot_tuple_getitem ht.typeIs entry_tuple_getitem ?_ (args_tuple_getitem _ _)));show wpAny _ _ (Builtin.Tuple.tupleItemsOf (.ref t) >>= _) _ _ s;refine wpAny_bind (tupleItemsOf_ ht ?_);refine wpAny_bind (wpAny_typeOf hTs ?_);rw [if_pos [7]];refine wpAny_bind (HT.sliceApplied_gen hs pl pu ?_);rw [hw.1,hw.2];show wpAny _ _ (if ((((0:Nat):Int) == 0 && (1:Int) == 1 && (items.size - 0) == items.size)=true) then _ else _) _ _ s;rw [if_pos [16]];refine wpAny_bind (m:=Builtin.Tuple.tupleIsExact _) (wpAny_bind (wpAny_typeOf ht.typeIs [17]));rw [if_pos [7]];refine wpAny_bind (wpAny_rule ?_)
 first
  | exact wpAny_pure ⟨_,rfl,wpAny_pure h⟩
  | exact wpAny_bind (wpAny_pure (wpAny_pure ⟨_,rfl,wpAny_pure h⟩))
  | exact wpAny_bind (wpAny_bind (wpAny_pure (wpAny_pure (wpAny_pure ⟨_,rfl,wpAny_pure h⟩))))
def rSlA (K:Fg):V->Option Int->Option Int->Hp->VK->Prop:=λ x lo hi H Q=>∃ a xs,x=.ref a /\ SqT K H a xs /\ (cutV xs lo hi=xs->Q (.ref a) H) /\ ∀ p,H p=none->Q (.ref p) (upd H p (.tup (cutV xs lo hi)))
theorem sl_tupA:SlR X (rSlA X.K):=by
 intro pins s σ H x v vl vu lo hi sl Q I rx hs pl pu h;obtain ⟨a,xs,rfl,hx,q1,q2⟩:=h;by_cases hw:HT.sIx xs.length 0 lo=0 /\ HT.sIx xs.length xs.length hi=xs.length
 ·cases rx;obtain ⟨its,r,ht,hz⟩:=I.tuple hx;have hlen:its.toArray.size=xs.length:=by rw [size_toArray]; exact r.length.symm
  have e:cutV xs lo hi=xs:=by unfold cutV; rw [hw.1,hw.2]; simp
  exact ⟨"tuple",_,PyProof.Rows.slot_tuple_getitem.lookup,ht.typeIs,wu1 ht hs pl pu (by rw [hlen]; exact hw) ⟨.ref a,H,I,rfl,q1 e⟩⟩
 ·exact ws3 pins s σ H _ v vl vu lo hi sl Q I rx hs pl pu ⟨a,xs,rfl,hx,hw,q2⟩
theorem xc3:∀ (n d:Nat) (o:Option Int),HT.sIx n d o=sIx3 n d o
 | _,_,none=>rfl
 | _,_,some _=>rfl
theorem RelDs.cut {K:Fg} {H:Hp} {l:List D} {vs:List V} (r:RelDs K H l vs) (lo hi:Option Int):RelDs K H (cut3 l lo hi) (cutV vs lo hi):=by
 unfold cut3 cutV;rw [<- r.length];simp only [xc3];exact (r.drop _).take _
def RdP (K:Fg) (tv:TO) (t:TO3):Prop:=∀ σ H Q ρ μ Q3,RSt K H ρ σ->RelM K μ H->t ρ μ Q3->(∀ o μ' H',Q3 o μ'->Kp H H'->RelM K μ' H'->Q o H')->tv σ H Q
def RP (X:Cx) (e:Option Expr) (t:TO3):Prop:=∃ tv,PO X e tv /\ RdP X.K tv t
theorem yx1:RP X none np3:=⟨_,ue3,λ σ H Q ρ μ Q3 s m h k=>k _ _ _ h (Kp.refl _) m⟩
theorem xx1 {e:Expr} {te:TE3} (h:RE X e te):RP X (some e) (pt3 te):=by
 obtain ⟨tv,p,r⟩:=h;refine ⟨_,ve3 p,λ σ H Q ρ μ Q3 s m h k=>r σ H _ ρ μ _ s m h λ d μ1 v H1 h1 k1 r1 m1=>?_⟩;cases r1 with
 | int i=>exact ⟨i,rfl,k _ _ _ h1 k1 m1⟩
 | _=>exact False.elim h1
def RL (X:Cx) (r3:D->Option Int->Option Int->Mu->VK3->Prop):Prop:=∃ r,SlR X r /\ ∀ x v lo hi H Q μ Q3,RelM X.K μ H->RelD X.K H x v->r3 x lo hi μ Q3->Ks X.K H Q3 Q->r v lo hi H Q
def rSlS:V->Option Int->Option Int->Hp->VK->Prop:=λ x lo hi H Q=>∃ z:Str,x=.str z /\ z.length<=sizeLine /\ Q (.str ⟨(cut3 z.cps.toList lo hi).toArray⟩) H
theorem sr3 (lo hi:Option Int) (n:Nat):Builtin.Str.strSliceIndices lo hi 1 n=sliceRange ((sIx3 n 0 lo:Nat):Int) ((sIx3 n n hi:Nat):Int) 1:=by
 unfold Builtin.Str.strSliceIndices
 have a1:∀ (d:Nat) (v:Option Int),(match v with | none=>((d:Nat):Int) | some i=>(if (1:Int) > 0 then max 0 (min (if i < 0 then i + (n:Int) else i) (n:Int)) else max (-1) (min (if i < 0 then i + (n:Int) else i) ((n:Int) - 1))))=((sIx3 n d v:Nat):Int):=λ d v=>by
  cases v with
  | none=>rfl
  | some i =>
   simp only [sIx3,show (1:Int) > 0 by decide,if_true];by_cases h:i < 0
   ·simp only [h,if_true]; omega
   ·simp only [h,if_false]; omega
 have e1:=a1 0 lo;have e2:=a1 n hi;simp only [show (1:Int) > 0 by decide,if_true] at e1 e2 ⊢;rw [<- e1,<- e2];cases lo <;> cases hi <;> rfl
theorem us3 (n:Nat) (o:Option Int):sIx3 n n o<=n:=by
 cases o with
 | none=>exact Nat.le_refl _
 | some v =>
  show (if v < 0 then (v + (n:Int)).toNat else min v.toNat n)<=n;split <;> omega
theorem vs3:SlR X rSlS:=by
 intro pins s σ H x v vl vu lo hi sl Q I rx hs pl pu h;obtain ⟨z,rfl,hz,q⟩:=h;obtain ⟨t,rfl⟩:=rx;refine ⟨"str",_,F.slot_str_getitem.lookup,typeIs_str _ _ _,?_⟩
 have hl:∃ l:Option (Int × Tok),partValue l=vl /\ l.map (·.1)=lo:=by
  cases pl with
  | none=>exact ⟨none,rfl,rfl⟩
  | int i t=>exact ⟨some (i,t),rfl,rfl⟩
 have hu:∃ u:Option (Int × Tok),partValue u=vu /\ u.map (·.1)=hi:=by
  cases pu with
  | none=>exact ⟨none,rfl,rfl⟩
  | int i t=>exact ⟨some (i,t),rfl,rfl⟩
 obtain ⟨l,rfl,rfl⟩:=hl;obtain ⟨u,rfl,rfl⟩:=hu;refine wpAny_getItem_str_slice (l:=l) (u:=u) (st:=none) hs rfl ?_
 have e:(slicePicked z l u none).filterMap (z.cps[·]?)=cut3 z.cps.toList (l.map (·.1)) (u.map (·.1)):=by
  unfold slicePicked;show (Builtin.Str.strSliceIndices _ _ 1 z.length).filterMap (z.cps[·]?)=_;rw [sr3,sliceRange_one,pick_run];unfold cut3;rw [length_toList];rfl
 unfold sliceMade;split
 ·next hw =>
  have hlen:(slicePicked z l u none).length=z.length:=by
   rw [Bool.and_eq_true] at hw;simpa using hw.2
  have ez:cut3 z.cps.toList (l.map (·.1)) (u.map (·.1))=z.cps.toList:=by
   have h1:(Builtin.Str.strSliceIndices (l.map (·.1)) (u.map (·.1)) 1 z.length).length=z.length:=hlen;rw [sr3,sliceRange_one,length_map,length_range] at h1;have h2:=us3 z.length (u.map (·.1));have hs:z.length=z.cps.size:=rfl;unfold cut3;rw [length_toList,<- hs];rcases Nat.eq_zero_or_pos z.length with h0 | h0
   ·have:z.cps.toList=[]:=List.eq_nil_of_length_eq_zero (by rw [length_toList,<- hs]; exact h0);rw [this]; simp
   ·have ha:sIx3 z.length 0 (l.map (·.1))=0:=by omega
    rw [ha,List.drop_zero];exact take_of_length_le (by rw [length_toList,<- hs]; omega)
  rw [ez] at q;exact ⟨.str z,H,I,⟨t,rfl⟩,q⟩
 ·rw [e];refine ⟨?_,.str _,H,I.tok _,⟨_,rfl⟩,q⟩;refine Nat.le_trans ?_ hz;show (cut3 z.cps.toList (l.map (·.1)) (u.map (·.1))).toArray.size<=z.cps.size;rw [size_toArray];unfold cut3;rw [length_take,length_drop,length_toList];omega
theorem q_sl:RL X slR:=by
 refine ⟨_,(sl_tupA.or zb3).or vs3,λ x v lo hi H Q μ Q3 m rx h k=>?_⟩;cases rx with
 | str z=>exact .inr ⟨z,rfl,h.1,k _ _ _ _ h.2 (Kp.refl _) (.str _) m⟩
 | tup hq rs =>
  refine .inl <| .inl ⟨_,_,rfl,(SqT.of hq),λ e=>?_,λ p hp=>k _ _ _ _ h (Kp.new hp) (.tup ve0 ((rs.cut lo hi).mono (Kp.new hp))) (m.newT hp)⟩;refine k _ _ _ _ h (Kp.refl _) (.tup hq ?_) m;have:=rs.cut lo hi;rw [e] at this;exact this
 | fls hq rs=>exact .inl <| .inr ⟨_,_,rfl,hq.l,λ p hp=>k _ _ _ _ (h p (m.free hp)) (Kp.new hp) (.ref p) (m.newL hp (rs.cut lo hi))⟩
 | ref p =>
  dsimp only [slR] at h;cases e:μ p with
  | none=>rw [e] at h; exact h.elim
  | some oo =>
   cases oo with
   | ins _ _=>rw [e] at h; exact h.elim
   | dck _=>rw [e] at h; exact h.elim
   | dcl _=>rw [e] at h; exact h.elim
   | lst l =>
    rw [e] at h;obtain ⟨vs,hv,rs⟩:=m p l e;exact .inl <| .inr ⟨p,vs,rfl,SqL.of hv,λ t ht=>k _ _ _ _ (h t (m.free ht)) (Kp.new ht) (.ref t) (m.newL ht (rs.cut lo hi))⟩
 | _=>exact False.elim h
theorem wl1 {e:Expr} {te:TE3} {lo hi:Option Expr} {tl th:TO3} {pos p2:Pos} {r3:D->Option Int->Option Int->Mu->VK3->Prop} (hr:RL X r3) (he:RE X e te) (hl:RP X lo tl) (hu:RP X hi th):RE X (.Subscript e (.Slice lo hi none p2) pos) (sl3 r3 te tl th):=by
 obtain ⟨r,pr,rr⟩:=hr;obtain ⟨va,pa,ra⟩:=he;obtain ⟨vb,pb,rb⟩:=hl;obtain ⟨vc,pc,rc⟩:=hu
 exact ⟨_,un2 pr pa pb pc,λ σ H Q ρ μ Q3 s m h k=>ra σ H _ ρ μ _ s m h λ x μ1 v H1 h1 k1 r1 m1=>rb σ H1 _ ρ μ1 _ (s.mono k1) m1 h1 λ l μ2 H2 h2 k2 m2=>rc σ H2 _ ρ μ2 _ ((s.mono k1).mono k2) m2 h2 λ u μ3 H3 h3 k3 m3 =>
  rr x v l u H3 Q μ3 Q3 m3 (r1.mono (k2.trans k3)) h3 (k.after (k1.trans (k2.trans k3)))⟩
theorem zi2 {K:Fg} {H:Hp}:∀ {l:List D} {vs:List V} {bs:List Bool},RelDs K H l vs->bls? l=some bs->vs=bs.map V.bl
 | _,_,bs,.nil,e=>by simp [bls?] at e; subst e; rfl
 | _,_,bs,.cons h r,e=>by
  cases h with
  | bl x =>
   simp only [bls?] at e;split at e
   ·next ys e1 =>
    simp only [Option.some.injEq] at e;subst e;rw [zi2 r e1]; rfl
   ·cases e
  | _=>simp [bls?] at e
theorem wi1:∀ {bs:List Bool} {us:[24]},Vals (bs.map V.bl) us->us=bs.map Value.bool
 | [],_,r=>by cases r; rfl
 | b :: bs,_,r=>by
  cases r with
  | cons r1 r2=>cases r1; rw [wi1 r2]; rfl
theorem vu1 (prog:Program) (w:World) (A:Around) (bs:List Bool):TruthOf prog w A (λ i v=>(bs.map Value.bool).toArray[i]?=some v) (λ i=>bs.getD i false):=by
 intro i v s Q E hP hQ;have hP':(bs.map Value.bool)[i]?=some v:=by simpa using hP
 rw [getElem?_map] at hP';cases e:bs[i]? with
 | none=>rw [e] at hP'; cases hP'
 | some b =>
  rw [e] at hP';simp only [Option.map_some,Option.some.injEq] at hP';subst hP';refine wpAny_truthy_bool ?_;have:bs.getD i false=b:=by rw [getD_eq_getElem?_getD,e]; rfl
  dsimp only at hQ;rw [this] at hQ;exact hQ
theorem zy1 (bs:List Bool):(List.range bs.length).all (λ i=>bs.getD i false)=bs.all id:=by
 rw [Bool.eq_iff_iff,all_eq_true,all_eq_true];constructor
 ·intro h x hx;obtain ⟨i,hi,rfl⟩:=List.mem_iff_getElem.mp hx;have:=h i (List.mem_range.mpr hi);rw [getD_eq_getElem?_getD,getElem?_eq_getElem hi] at this;exact this
 ·intro h i hi;have hi':=List.mem_range.mp hi;rw [getD_eq_getElem?_getD,getElem?_eq_getElem hi'];exact h _ (getElem_mem hi')
theorem xi2 (hc:X.calm=true):CallR X (.builtin "all") (λ xs H Q=>∃ (p:Addr) (bs:List Bool),xs=[.ref p] /\ SqL X.K H p (bs.map V.bl) /\ Q (.bl (bs.all id)) H):=by
 intro pins s σ H xs us Q I r h;obtain ⟨p,bs,rfl,hq,q⟩:=h;obtain ⟨u,rfl,rx⟩:=ue1 r;cases rx;obtain ⟨its,r',pl,hz⟩:=I.list hq;have eu:=wi1 r';subst eu;refine call_all_walk (wpAny_pyIter_list pl.isList ?_);have hlt:p < s.heap.objs.size:=by obtain ⟨o,ho,_⟩:=pl.isList; exact Heap.lt_size ho
 refine ⟨_,_,_,_,_,_,_,rfl,Walks.list (A:=X.A.in1) (I.ok.hd hc) _ p (Nat.ne_of_lt hlt) _,⟨[30],pl.isList.at λ o e=>Heap.get?_push_of_some _ e⟩,vu1 _ _ _ bs,λ h' tk hk=>?_⟩;have e:(bs.map Value.bool).toArray.size=bs.length:=by simp
 rw [e,zy1];refine ⟨.bl _,H,I.kept (t':=tk) λ b o eb=>hk b o ?_ (Heap.get?_push_of_some _ eb),rfl,q⟩;intro z;rw [mem_singleton] at z;rw [z] at eb;exact absurd (Heap.lt_size eb) (Nat.lt_irrefl _)
theorem RdC.bools {K:Fg} {f:List Bool->Bool} {r3:C3} (hr:∀ ds μ Q3,r3 ds μ Q3->∃ p l bs,ds=[.ref p] /\ μ p=some (.lst l) /\ bls? l=some bs /\ Q3 (.bl (f bs)) μ) :
    RdC K (λ xs H Q=>∃ (p:Addr) (bs:List Bool),xs=[.ref p] /\ SqL K H p (bs.map V.bl) /\ Q (.bl (f bs)) H) r3:=λ xs vs H Q μ Q3 m r h k=>by
 obtain ⟨p,l,bs,rfl,e,e1,q⟩:=hr _ _ _ h;cases r with
 | cons r1 r2 =>
  cases r2;cases r1;obtain ⟨us,hv,rs⟩:=m p l e;have ev:=zi2 rs e1;subst ev;exact ⟨p,bs,rfl,SqL.of hv,k _ _ _ _ q (Kp.refl _) (.bl _) m⟩
theorem ys4 (hc:X.calm=true:=by rfl):RC X (.builtin "all") allR:=by
 refine ⟨_,xi2 hc,RdC.bools λ ds μ Q3 h=>?_⟩;unfold allR at h;split at h
 ·split at h
  ·next p _ l e =>
   split at h
   ·next bs e1=>exact ⟨p,l,bs,rfl,e,e1,h⟩
   ·exact h.elim
  ·exact h.elim
 ·exact h.elim
end
open PySem.AutoSeq1 (wpAny_loadPart')
end Pv
namespace Ms
open PySem.W PyProof.Rows
def run (lt:Nat->Nat->Bool) {α:Type}:KasT α->α
 | .ret a=>a
 | .ask i j k=>run lt (k (lt i j))
theorem yk0 (lt:Nat->Nat->Bool) {α β:Type} (f:α->KasT β):∀ t:KasT α,run lt (t.bind f)=run lt (f (run lt t))
 | .ret _=>rfl
 | .ask i j k=>yk0 lt f (k (lt i j))
structure Ord (lt:Nat->Nat->Bool):Prop where
 ir:∀ a,lt a a=false
 tr:∀ a b c,lt a b=true->lt b c=true->lt a c=true
 ng:∀ a b c,lt a c=true->lt a b=true \/ lt b c=true
section
variable {lt:Nat->Nat->Bool} (O:Ord lt)
abbrev at' (p:Array Nat) (i:Nat):Nat:=p.getD i 0
def le (lt:Nat->Nat->Bool) (a b:Nat):Prop:=lt b a=false
include O
theorem le_rf (a:Nat):le lt a a:=O.ir a
theorem zu0 {a b c:Nat} (h:le lt a b) (k:le lt b c):le lt a c:=by
 unfold le at *;cases e:lt c a with
 | false=>rfl
 | true =>
  rcases O.ng c b a e with h1 | h1
  ·rw [k] at h1; cases h1
  ·rw [h] at h1; cases h1
theorem yc2 {a b:Nat} (h:lt a b=true):le lt a b:=by
 unfold le;cases e:lt b a with
 | false=>rfl
 | true=>have:=O.tr a b a h e; rw [O.ir] at this; cases this
omit O
def Up (lt:Nat->Nat->Bool) (p:Array Nat) (n:Nat):Prop:=∀ a b,a<=b->b < n->le lt (at' p a) (at' p b)
def Dn (lt:Nat->Nat->Bool) (p:Array Nat) (n:Nat):Prop:=∀ a b,a<=b->b < n->le lt (at' p b) (at' p a)
theorem xj2 {p q:Array Nat} {i j:Nat} (h:p[i]?=q[j]?):at' p i=at' q j:=by
 show p.getD i 0=q.getD j 0;rw [Array.getD_eq_getD_getElem?,Array.getD_eq_getD_getElem?,h]
theorem st0 {p:Array Nat} {i j:Nat} (hj:j<=p.size) (k:Nat):at' (kas_rev p i j) k=if i<=k /\ k < j then at' p (i + j - 1 - k) else at' p k:=by
 have h:=getElem?_mirror_all (xs:=p) (i:=i) hj k;split
 ·next c=>rw [if_pos c] at h; exact xj2 h
 ·next c=>rw [if_neg c] at h; exact xj2 h
theorem xz2 {p:Array Nat} {k l:Nat} (hk:k < p.size) (hl:l<=k) (i:Nat):at' (bubble p k (k - l)) i=if i=l then at' p k else if l < i /\ i<=k then at' p (i - 1) else at' p i:=by
 have h:=getElem?_bubble (xs:=p) hk (k - l) [2] i;rw [show k - (k - l)=l by omega] at h;by_cases c:i=l
 ·rw [if_pos c] at h ⊢; exact xj2 h
 ·rw [if_neg c] at h ⊢;by_cases c2:l < i /\ i<=k
  ·rw [if_pos c2] at h ⊢; exact xj2 h
  ·rw [if_neg c2] at h ⊢; exact xj2 h
include O
theorem yo3 (p:Array Nat):Up lt p 1:=λ a b h1 h2=>by
 have e1:a=0:=by omega
 have e2:b=0:=by omega
 subst e1 e2;exact le_rf O _
theorem vz2 {p:Array Nat} {n:Nat} (h:Up lt p n) (h1:1<=n) (k:le lt (at' p (n - 1)) (at' p n)):Up lt p (n + 1):=λ a b hab hb=>by
 by_cases e:b=n
 ·subst e;by_cases e2:a=b
  ·subst e2; exact le_rf O _
  ·exact zu0 O (h a (b - 1) [2] [2]) k
 ·exact h a b hab [2]
theorem xt0 {p:Array Nat} {n:Nat} (h:Dn lt p n) (h1:1<=n) (k:le lt (at' p n) (at' p (n - 1))):Dn lt p (n + 1):=λ a b hab hb=>by
 by_cases e:b=n
 ·subst e;by_cases e2:a=b
  ·subst e2; exact le_rf O _
  ·exact zu0 O k (h a (b - 1) [2] [2])
 ·exact h a b hab [2]
theorem zj2 (p:Array Nat):∀ (f n:Nat),1<=n->Up lt p n->n<=run lt (kas_asc p f n) /\ run lt (kas_asc p f n)<=n + f /\ Up lt p (run lt (kas_asc p f n)) /\ (run lt (kas_asc p f n) < n + f->lt (at' p (run lt (kas_asc p f n))) (at' p (run lt (kas_asc p f n) - 1))=true)
 | 0,n,h1,h=>⟨Nat.le_refl _,Nat.le_refl _,h,λ z=>absurd z (Nat.lt_irrefl _)⟩
 | f + 1,n,h1,h=>by
  cases e:lt (at' p n) (at' p (n - 1)) with
  | true =>
   have r:run lt (kas_asc p (f + 1) n)=n:=by
    show run lt (if lt (at' p n) (at' p (n - 1))=true then .ret n else kas_asc p f (n + 1))=n;rw [e]; rfl
   rw [r];exact ⟨Nat.le_refl _,by omega,h,λ _=>e⟩
  | false =>
   have r:run lt (kas_asc p (f + 1) n)=run lt (kas_asc p f (n + 1)):=by
    show run lt (if lt (at' p n) (at' p (n - 1))=true then .ret n else kas_asc p f (n + 1))=_;rw [e]; rfl
   rw [r];obtain ⟨a1,a2,a3,a4⟩:=zj2 p f (n + 1) [2] (vz2 O h h1 e);exact ⟨by omega,by omega,a3,λ z=>a4 [2]⟩
omit O
def Eqs (lt:Nat->Nat->Bool) (p:Array Nat) (n q:Nat):Prop:=∀ a b,n - (q + 1)<=a->a < n->n - (q + 1)<=b->b < n->le lt (at' p a) (at' p b)
include O
theorem ux1 {p:Array Nat} {n q m:Nat} (hn:n<=p.size) (hq:q + 1<=n) (h:Eqs lt p n q) (k:Nat):le lt (at' (kas_rev p (n - (q + 1)) n) k) (at' p k) /\ le lt (at' p k) (at' (kas_rev p (n - (q + 1)) n) k):=by
 rw [st0 hn];split
 ·next c=>exact ⟨h _ _ [2] [2] c.1 c.2,h _ _ c.1 c.2 [2] [2]⟩
 ·exact ⟨le_rf O _,le_rf O _⟩
theorem sf2 {p p':Array Nat} {n:Nat} (h:Dn lt p n) (e:∀ k,le lt (at' p' k) (at' p k) /\ le lt (at' p k) (at' p' k)):Dn lt p' n:=λ a b hab hb =>
 zu0 O (e b).1 (zu0 O (h a b hab hb) (e a).2)
omit O
structure DOk (lt:Nat->Nat->Bool) (p0:Array Nat) (N:Nat) (r:Array Nat × Nat × Nat) (n:Nat):Prop where
 perm:r.1.Perm p0
 lo:n<=r.2.1
 hi:r.2.1<=N
 dn:Dn lt r.1 r.2.1
 q:r.2.2 + 1<=r.2.1
 eqs:Eqs lt r.1 r.2.1 r.2.2
include O
theorem vy0 (p0:Array Nat):∀ (f:Nat) (p:Array Nat) (n q:Nat),p.Perm p0->n + f<=p0.size->Dn lt p n->q + 1<=n->Eqs lt p n q->DOk lt p0 (n + f) (run lt (kas_desc f p n q)) n
 | 0,p,n,q,hp,hs,h,hq,he=>⟨hp,Nat.le_refl _,Nat.le_refl _,h,hq,he⟩
 | f + 1,p,n,q,hp,hs,h,hq,he=>by
  have hsz:p.size=p0.size:=hp.size_eq;cases e:lt (at' p n) (at' p (n - 1)) with
  | true =>
   have one:∀ p':Array Nat,Eqs lt p' (n + 1) 0:=λ p' a b a1 a2 b1 b2=>by
    have e1:a=n:=by omega
    have e2:b=n:=by omega
    subst e1 e2; exact le_rf O _
   by_cases c:q > 0
   ·have r:run lt (kas_desc (f + 1) p n q)=run lt (kas_desc f (kas_rev p (n - (q + 1)) n) (n + 1) 0):=by
      show run lt (if lt (at' p n) (at' p (n - 1))=true then (if q > 0 then kas_desc f (kas_rev p (n - (q + 1)) n) (n + 1) 0 else kas_desc f p (n + 1) 0) else _)=_;rw [e,if_pos rfl,if_pos c]
    rw [r];have lk:=ux1 O (m:=0) [2] hq he;have d:=vy0 p0 f (kas_rev p (n - (q + 1)) n) (n + 1) 0 ((mirror_perm _ _ _ _).trans hp) [2] (sf2 O (xt0 O h [2] (yc2 O e)) lk) [2] (one _);exact ⟨d.perm,by have:=d.lo; omega,by have:=d.hi; omega,d.dn,d.q,d.eqs⟩
   ·have r:run lt (kas_desc (f + 1) p n q)=run lt (kas_desc f p (n + 1) 0):=by
      show run lt (if lt (at' p n) (at' p (n - 1))=true then (if q > 0 then kas_desc f (kas_rev p (n - (q + 1)) n) (n + 1) 0 else kas_desc f p (n + 1) 0) else _)=_;rw [e,if_pos rfl,if_neg c]
    rw [r];have d:=vy0 p0 f p (n + 1) 0 hp [2] (xt0 O h [2] (yc2 O e)) [2] (one _);exact ⟨d.perm,by have:=d.lo; omega,by have:=d.hi; omega,d.dn,d.q,d.eqs⟩
  | false =>
   cases e2:lt (at' p (n - 1)) (at' p n) with
   | true =>
    have r:run lt (kas_desc (f + 1) p n q)=(p,n,q):=by
     show run lt (if lt (at' p n) (at' p (n - 1))=true then _ else (KasT.ask (at' p (n - 1)) (at' p n) λ d=>if d=true then .ret (p,n,q) else kas_desc f p (n + 1) (q + 1)))=_;rw [e,if_neg [7]];show run lt (if lt (at' p (n - 1)) (at' p n)=true then .ret (p,n,q) else kas_desc f p (n + 1) (q + 1))=_;rw [e2]; rfl
    rw [r];exact ⟨hp,Nat.le_refl _,by show n<=n + (f + 1); omega,h,hq,he⟩
   | false =>
    have r:run lt (kas_desc (f + 1) p n q)=run lt (kas_desc f p (n + 1) (q + 1)):=by
     show run lt (if lt (at' p n) (at' p (n - 1))=true then _ else (KasT.ask (at' p (n - 1)) (at' p n) λ d=>if d=true then .ret (p,n,q) else kas_desc f p (n + 1) (q + 1)))=_;rw [e,if_neg [7]];show run lt (if lt (at' p (n - 1)) (at' p n)=true then .ret (p,n,q) else kas_desc f p (n + 1) (q + 1))=_;rw [e2,if_neg [7]]
    rw [r]
    have he':Eqs lt p (n + 1) (q + 1):=λ a b a1 a2 b1 b2=>by
     by_cases ca:a=n
     ·subst ca;by_cases cb:b=a
      ·subst cb; exact le_rf O _
      ·exact zu0 O e2 (he (a - 1) b [2] [2] [2] [2])
     ·by_cases cb:b=n
      ·subst cb; exact zu0 O (he a (b - 1) [2] [2] [2] [2]) e
      ·exact he a b [2] [2] [2] [2]
    have d:=vy0 p0 f p (n + 1) (q + 1) hp [2] (xt0 O h [2] e2) [2] he';exact ⟨d.perm,by have:=d.lo; omega,by have:=d.hi; omega,d.dn,d.q,d.eqs⟩
omit O
structure ROk (lt:Nat->Nat->Bool) (p0:Array Nat) (N:Nat) (r:Nat × Array Nat):Prop where
 perm:r.2.Perm p0
 lo:1<=r.1
 hi:r.1<=N
 up:Up lt r.2 r.1
theorem wj4 {p:Array Nat} {n:Nat} (hn:n<=p.size) (h:Dn lt p n):Up lt (kas_rev p 0 n) n:=λ a b hab hb=>by
 rw [st0 hn,st0 hn,if_pos ⟨by omega,by omega⟩,if_pos ⟨by omega,by omega⟩];exact h _ _ [2] [2]
include O
theorem xj1 {p0 p:Array Nat} {n N:Nat} (hp:p.Perm p0) (hN:N<=p0.size) (h1:1<=n) (hn:n<=N) (h:Dn lt p n):ROk lt p0 N (run lt (kas_tail3 n N p)):=by
 have hsz:p.size=p0.size:=hp.size_eq;have u:=wj4 [2] h;unfold kas_tail3;rw [yk0];obtain ⟨a1,a2,a3,_⟩:=zj2 O (kas_rev p 0 n) (N - n) n h1 u;exact ⟨(mirror_perm _ _ _ _).trans hp,by show 1<=run lt _; omega,by show run lt _<=N; omega,a3⟩
theorem yt0 {p0 p:Array Nat} {n N:Nat} (hp:p.Perm p0) (hN:N<=p0.size) (hn:n + 1<=N) (h:Dn lt p (n + 1)):ROk lt p0 N (run lt (kas_descPart n N p)):=by
 have hsz:p.size=p0.size:=hp.size_eq;unfold kas_descPart;rw [yk0]
 have one:Eqs lt p (n + 1) 0:=λ a b a1 a2 b1 b2=>by
  have e1:a=n:=by omega
  have e2:b=n:=by omega
  subst e1 e2; exact le_rf O _
 have d:=vy0 O p0 (N - (n + 1)) p (n + 1) 0 hp [2] h [2] one;generalize run lt (kas_desc (N - (n + 1)) p (n + 1) 0)=r at d;obtain ⟨p',n',q'⟩:=r;have d1:=d.lo;have d2:=d.hi;have d3:=d.q;dsimp only at d1 d2 d3;have hs':p'.size=p0.size:=d.perm.size_eq;show ROk lt p0 N (run lt (if q' > 0 then kas_tail3 n' N (kas_rev p' (n' - (q' + 1)) n') else kas_tail3 n' N p'));split
 ·have lk:=ux1 O (p:=p') (n:=n') (q:=q') (m:=0) [2] d3 d.eqs;exact xj1 O ((mirror_perm _ _ _ _).trans d.perm) hN [2] [2] (sf2 O d.dn lk)
 ·exact xj1 O d.perm hN [2] [2] d.dn
theorem vr2 {p:Array Nat} {N:Nat} (hN:N<=p.size) (h1:1<=N):ROk lt p N (run lt (kas_count N p)):=by
 unfold kas_count;rw [yk0];obtain ⟨a1,a2,a3,a4⟩:=zj2 O p (N - 1) 1 [14] (yo3 O p);generalize run lt (kas_asc p (N - 1) 1)=n at a1 a2 a3 a4;by_cases c:n=N
 ·rw [if_pos (by rw [c]; exact beq_self_eq_true _)];exact ⟨Array.Perm.refl _,by show 1<=n; omega,by show n<=N; omega,a3⟩
 ·rw [if_neg (by simpa using c)];have lt1:=a4 [2];by_cases c2:n > 1
  ·rw [if_pos c2];show ROk lt p N (run lt (if lt (at' p 0) (at' p (n - 1))=true then .ret (n,p) else kas_descPart n N (kas_rev p 0 n)));cases e:lt (at' p 0) (at' p (n - 1)) with
   | true =>
    rw [if_pos rfl];exact ⟨Array.Perm.refl _,by show 1<=n; omega,by show n<=N; omega,a3⟩
   | false =>
    rw [if_neg [7]];have eq:∀ a b,a < n->b < n->le lt (at' p a) (at' p b):=λ a b ha hb=>zu0 O (a3 a (n - 1) [2] [2]) (zu0 O e (a3 0 b [2] hb));refine yt0 O (mirror_perm _ _ _ _) hN [2] ?_
    have d0:Dn lt (kas_rev p 0 n) n:=λ a b hab hb=>by
     rw [st0 [2],st0 [2],if_pos ⟨by omega,by omega⟩,if_pos ⟨by omega,by omega⟩];exact eq _ _ [2] [2]
    refine xt0 O d0 [2] ?_;rw [st0 [2],st0 [2],if_neg [2],if_pos ⟨by omega,by omega⟩];exact zu0 O (yc2 O lt1) (eq _ _ [2] [2])
  ·rw [if_neg c2];have e1:n=1:=by omega
   subst e1;refine yt0 O (Array.Perm.refl _) hN [2] ?_
   have d0:Dn lt p 1:=λ a b h1 h2=>by
    have e1:a=0:=by omega
    have e2:b=0:=by omega
    subst e1 e2; exact le_rf O _
   exact xt0 O d0 [14] (yc2 O lt1)
theorem yx0 {p:Array Nat} {k:Nat} (h:Up lt p k):∀ (f l r:Nat),l<=r->r<=k->r - l<=f->(∀ a,a < l->le lt (at' p a) (at' p k))->(∀ b,r<=b->b < k->lt (at' p k) (at' p b)=true) ->
    run lt (kas_place p k f l r)<=k /\ (∀ a,a < run lt (kas_place p k f l r)->le lt (at' p a) (at' p k)) /\ ∀ b,run lt (kas_place p k f l r)<=b->b < k->lt (at' p k) (at' p b)=true
 | 0,l,r,hlr,hrk,hf,h1,h2=>⟨by show l<=k; omega,h1,λ b hb1 hb2=>h2 b (by have:l<=b:=hb1; omega) hb2⟩
 | f + 1,l,r,hlr,hrk,hf,h1,h2=>by
  by_cases c:l ≥ r
  ·have e:run lt (kas_place p k (f + 1) l r)=l:=by
     show run lt (if l ≥ r then .ret l else _)=l;rw [if_pos c]; rfl
   rw [e];exact ⟨by omega,h1,λ b hb1 hb2=>h2 b [2] hb2⟩
  ·cases e:lt (at' p k) (at' p ((l + r) / 2)) with
   | true =>
    have e2:run lt (kas_place p k (f + 1) l r)=run lt (kas_place p k f l ((l + r) / 2)):=by
     show run lt (if l ≥ r then .ret l else .ask (at' p k) (at' p ((l + r) / 2)) λ c=>if c=true then kas_place p k f l ((l + r) / 2) else kas_place p k f ((l + r) / 2 + 1) r)=_;rw [if_neg c];show run lt (if lt (at' p k) (at' p ((l + r) / 2))=true then _ else _)=_;rw [e,if_pos rfl]
    rw [e2];refine yx0 h f l ((l + r) / 2) [2] [2] [2] h1 λ b hb1 hb2=>?_;have z:=h ((l + r) / 2) b hb1 hb2;rcases O.ng (at' p k) (at' p b) (at' p ((l + r) / 2)) e with y | y
    ·exact y
    ·unfold le at z; rw [z] at y; cases y
   | false =>
    have e2:run lt (kas_place p k (f + 1) l r)=run lt (kas_place p k f ((l + r) / 2 + 1) r):=by
     show run lt (if l ≥ r then .ret l else .ask (at' p k) (at' p ((l + r) / 2)) λ c=>if c=true then kas_place p k f l ((l + r) / 2) else kas_place p k f ((l + r) / 2 + 1) r)=_;rw [if_neg c];show run lt (if lt (at' p k) (at' p ((l + r) / 2))=true then _ else _)=_;rw [e,if_neg [7]]
    rw [e2];exact yx0 h f ((l + r) / 2 + 1) r [2] hrk [2] (λ a ha=>zu0 O (h a ((l + r) / 2) [2] [2]) e) h2
theorem uy2 {p0:Array Nat}:∀ (f:Nat) (p:Array Nat) (k:Nat),p.Perm p0->1<=k->k + f<=p0.size->Up lt p k->(run lt (kas_bin f p k)).Perm p0 /\ Up lt (run lt (kas_bin f p k)) (k + f)
 | 0,p,k,hp,h1,hs,h=>⟨hp,h⟩
 | f + 1,p,k,hp,h1,hs,h=>by
  have hsz:p.size=p0.size:=hp.size_eq
  have e:run lt (kas_bin (f + 1) p k)=run lt (kas_bin f (bubble p k (k - run lt (kas_place p k k 0 k))) (k + 1)):=by
   show run lt ((kas_place p k k 0 k).bind λ l=>kas_bin f (bubble p k (k - l)) (k + 1))=_;rw [yk0]
  rw [e];obtain ⟨b1,b2,b3⟩:=yx0 O h k 0 k [2] [14] [2] (λ a ha=>absurd ha (Nat.not_lt_zero _)) (λ b hb1 hb2=>by omega);generalize run lt (kas_place p k k 0 k)=l at b1 b2 b3
  have u:Up lt (bubble p k (k - l)) (k + 1):=λ a b hab hb=>by
   rw [xz2 [2] b1,xz2 [2] b1];by_cases ca:a=l
   ·rw [if_pos ca];by_cases cb:b=l
    ·rw [if_pos cb]; exact le_rf O _
    ·rw [if_neg cb,if_pos ⟨by omega,by omega⟩]; exact yc2 O (b3 _ [2] [2])
   ·rw [if_neg ca];by_cases cb:b=l
    ·rw [if_pos cb,if_neg [2]]; exact b2 _ [2]
    ·rw [if_neg cb];by_cases ca2:l < a /\ a<=k
     ·rw [if_pos ca2,if_pos ⟨by omega,by omega⟩]; exact h _ _ [2] [2]
     ·rw [if_neg ca2];by_cases cb2:l < b /\ b<=k
      ·rw [if_pos cb2]; exact h _ _ [2] [2]
      ·rw [if_neg cb2]; exact h _ _ [2] [2]
  have z:=uy2 f (bubble p k (k - l)) (k + 1) ((bubble_perm _ _ _).trans hp) [2] [2] u;rw [show k + 1 + f=k + (f + 1) by omega] at z;exact z
theorem sort_ok {n:Nat} (hn:1<=n):(run lt (kas_sort n)).Perm (List.toArray (List.range n)) /\ Up lt (run lt (kas_sort n)) n:=by
 have hs:(List.toArray (List.range n)).size=n:=by simp
 unfold kas_sort;rw [yk0];have c:=vr2 O (p:=List.toArray (List.range n)) (N:=n) [2] hn;generalize run lt (kas_count n (List.toArray (List.range n)))=r at c;obtain ⟨m,p⟩:=r;have c1:=c.lo;have c2:=c.hi;dsimp only at c1 c2;show (run lt (if m < n then kas_bin (n - max m 1) p (max m 1) else .ret p)).Perm _ /\ Up lt (run lt (if m < n then kas_bin (n - max m 1) p (max m 1) else .ret p)) n;rw [show max m 1=m by omega];by_cases e:m < n
 ·rw [if_pos e];have z:=uy2 O (n - m) p m c.perm c1 [2] c.up;rw [show m + (n - m)=n by omega] at z;exact z
 ·rw [if_neg e];have e2:m=n:=by omega
  subst e2;exact ⟨c.perm,c.up⟩
end
def Bd (N:Nat) {α:Type} (P:α->Prop):KasT α->Prop
 | .ret a=>P a
 | .ask i j k=>i < N /\ j < N /\ ∀ b,Bd N P (k b)
theorem Bd.bind {N:Nat} {α β:Type} {P:α->Prop} {R:β->Prop} {f:α->KasT β} (hf:∀ a,P a->Bd N R (f a)):∀ t:KasT α,Bd N P t->Bd N R (t.bind f)
 | .ret a,h=>hf a h
 | .ask i j k,h=>⟨h.1,h.2.1,λ b=>Bd.bind hf (k b) (h.2.2 b)⟩
theorem Bd.wp {N:Nat} {lt:Nat->Nat->Bool} {cmp:Nat->Nat->(Bool->PySem.Shared->Prop)->PySem.Shared->Prop} {s:PySem.Shared} (hc:∀ i j C,i < N->j < N->C (lt i j) s->cmp i j C s) {α:Type} {P:α->Prop} {Q:α->PySem.Shared->Prop} :
    ∀ t:KasT α,Bd N P t->Q (run lt t) s->t.kasWp cmp Q s
 | .ret _,_,q=>q
 | .ask i j k,h,q=>hc i j _ h.1 h.2.1 (Bd.wp hc (k (lt i j)) (h.2.2 _) q)
section
variable {N:Nat}
theorem zl0 {p:Array Nat} (hN:1<=N) (hp:p.Perm (List.toArray (List.range N))) (k:Nat):at' p k < N:=by
 show p.getD k 0 < N;rw [Array.getD_eq_getD_getElem?];cases e:p[k]? with
 | none=>exact hN
 | some x =>
  have h1:x ∈ p:=Array.mem_of_getElem? e;have h2:x ∈ List.toArray (List.range N):=hp.mem_iff.mp h1;simpa using h2
theorem ui2 (hN:1<=N) {p:Array Nat} (hp:p.Perm (List.toArray (List.range N))):∀ f n,Bd N (λ _=>True) (kas_asc p f n)
 | 0,_=>trivial
 | f + 1,n=>⟨zl0 hN hp _,zl0 hN hp _,λ b=>by
  show Bd N _ (if b=true then .ret n else kas_asc p f (n + 1));split
  ·trivial
  ·exact ui2 hN hp f (n + 1)⟩
theorem wz0 (hN:1<=N):∀ f (p:Array Nat) n q,p.Perm (List.toArray (List.range N))->Bd N (λ r=>r.1.Perm (List.toArray (List.range N))) (kas_desc f p n q)
 | 0,_,_,_,hp=>hp
 | f + 1,p,n,q,hp=>⟨zl0 hN hp _,zl0 hN hp _,λ b=>by
  show Bd N _ (if b=true then (if q > 0 then kas_desc f (kas_rev p (n - (q + 1)) n) (n + 1) 0 else kas_desc f p (n + 1) 0) else _);split
  ·split
   ·exact wz0 hN f _ _ _ ((mirror_perm _ _ _ _).trans hp)
   ·exact wz0 hN f _ _ _ hp
  ·refine ⟨zl0 hN hp _,zl0 hN hp _,λ d=>?_⟩;show Bd N _ (if d=true then .ret (p,n,q) else kas_desc f p (n + 1) (q + 1));split
   ·exact hp
   ·exact wz0 hN f _ _ _ hp⟩
theorem vo1 (hN:1<=N) {p:Array Nat} {n m:Nat} (hp:p.Perm (List.toArray (List.range N))):Bd N (λ r=>r.2.Perm (List.toArray (List.range N))) (kas_tail3 n m p):=by
 have hr:(kas_rev p 0 n).Perm (List.toArray (List.range N)):=(mirror_perm _ _ _ _).trans hp;unfold kas_tail3;refine Bd.bind (P:=λ _=>True) (f:=λ m=>.ret (m,kas_rev p 0 n)) (λ a _=>?_) _ (ui2 hN hr _ _);exact hr
theorem tt0 (hN:1<=N) {p:Array Nat} {n m:Nat} (hp:p.Perm (List.toArray (List.range N))):Bd N (λ r=>r.2.Perm (List.toArray (List.range N))) (kas_descPart n m p):=by
 refine Bd.bind (λ r hr=>?_) _ (wz0 hN _ _ _ _ hp);show Bd N _ (if r.2.2 > 0 then kas_tail3 r.2.1 m (kas_rev r.1 (r.2.1 - (r.2.2 + 1)) r.2.1) else kas_tail3 r.2.1 m r.1);split
 ·exact vo1 hN ((mirror_perm _ _ _ _).trans hr)
 ·exact vo1 hN hr
theorem zs2 (hN:1<=N) {p:Array Nat} {m:Nat} (hp:p.Perm (List.toArray (List.range N))):Bd N (λ r=>r.2.Perm (List.toArray (List.range N))) (kas_count m p):=by
 refine Bd.bind (λ n _=>?_) _ (ui2 hN hp _ _);split
 ·exact hp
 ·split
  ·refine ⟨zl0 hN hp _,zl0 hN hp _,λ b=>?_⟩;show Bd N _ (if b=true then .ret (n,p) else kas_descPart n m (kas_rev p 0 n));split
   ·exact hp
   ·exact tt0 hN ((mirror_perm _ _ _ _).trans hp)
  ·exact tt0 hN hp
theorem zz0 (hN:1<=N) {p:Array Nat} {k:Nat} (hp:p.Perm (List.toArray (List.range N))):∀ f l r,Bd N (λ _=>True) (kas_place p k f l r)
 | 0,_,_=>trivial
 | f + 1,l,r=>by
  show Bd N _ (if l ≥ r then .ret l else .ask (at' p k) (at' p ((l + r) / 2)) λ c=>if c=true then kas_place p k f l ((l + r) / 2) else kas_place p k f ((l + r) / 2 + 1) r);split
  ·trivial
  ·refine ⟨zl0 hN hp _,zl0 hN hp _,λ b=>?_⟩;show Bd N _ (if b=true then kas_place p k f l ((l + r) / 2) else kas_place p k f ((l + r) / 2 + 1) r);split
   ·exact zz0 hN hp f _ _
   ·exact zz0 hN hp f _ _
theorem ty2 (hN:1<=N):∀ f (p:Array Nat) k,p.Perm (List.toArray (List.range N))->Bd N (λ _=>True) (kas_bin f p k)
 | 0,_,_,_=>trivial
 | f + 1,p,k,hp=>Bd.bind (λ l _=>ty2 hN f _ _ ((bubble_perm _ _ _).trans hp)) _ (zz0 hN hp _ _ _)
theorem bd_sort (hN:1<=N):Bd N (λ _=>True) (kas_sort N):=by
 refine Bd.bind (λ r hr=>?_) _ (zs2 hN (Array.Perm.refl _));split
 ·exact ty2 hN _ _ _ hr
 ·trivial
end
end Ms
namespace Pv
open PySem PySem.Spec PySem.W PyProof.Rows L2
abbrev T3:=Int × Int × Int
def lt3 (a b:T3):Bool:=decide (a.1 < b.1) || (a.1 == b.1 && (decide (a.2.1 < b.2.1) || (a.2.1 == b.2.1 && decide (a.2.2 < b.2.2))))
def IsT3 (h:Heap) (v:Value) (t:T3):Prop:=∃ a o t1 t2 t3 n,v=.ref a /\ h.get? a=some o /\ o.cls=.type "tuple" /\ o.data=.seq #[.int t.1 t1,.int t.2.1 t2,.int t.2.2 t3] n
theorem IsT3.one {h:Heap} {v:Value} {t u:T3} (i:IsT3 h v t) (k:IsT3 h v u):t=u:=by
 obtain ⟨a,o,t1,t2,t3,n,rfl,e2,_,e4⟩:=i;obtain ⟨b,q,u1,u2,u3,m,f1,f2,_,f4⟩:=k;cases f1;rw [e2] at f2;cases f2;rw [e4] at f4;obtain ⟨x,y,z⟩:=t;obtain ⟨x',y',z'⟩:=u;simp only [Data.seq.injEq,Array.mk.injEq,List.cons.injEq,Value.int.injEq] at f4;obtain ⟨⟨⟨h1,_⟩,⟨h2,_⟩,⟨h3,_⟩,_⟩,_⟩:=f4;rw [h1,h2,h3]
theorem vh3 (ts:[34]):Ms.Ord λ i j=>lt3 (ts.getD i (0,0,0)) (ts.getD j (0,0,0)) where
 ir:=λ a=>by simp [lt3]
 tr:=λ a b c h k=>by
  simp only [lt3,Bool.or_eq_true,Bool.and_eq_true,decide_eq_true_eq,beq_iff_eq] at h k ⊢;omega
 ng:=λ a b c h=>by
  simp only [lt3,Bool.or_eq_true,Bool.and_eq_true,decide_eq_true_eq,beq_iff_eq] at h ⊢;omega
section
variable {prog:Program} {w:World} {A:Around} {E:[4]} {s:Shared}
theorem vn4 {x y:Value} {a b:T3} {Q:Bool->Shared->Prop} (hx:IsT3 s.heap x a) (hy:IsT3 s.heap y b) (h:Q (lt3 a b) s):wpAny [11] A (keyLt' (tuples' true) x y) Q E s:=by
 obtain ⟨x,ox,t1,t2,t3,n,rfl,ex,_,dx⟩:=hx;obtain ⟨y,oy,u1,u2,u3,m,rfl,ey,_,dy⟩:=hy;obtain ⟨a1,a2,a3⟩:=a;obtain ⟨b1,b2,b3⟩:=b;refine kat_lt ex dx ey dy ?_;refine kat_cons (wpAny_eqBool_int ?_);by_cases c1:a1=b1
 ·rw [show (a1 == b1)=true from beq_iff_eq.mpr c1];refine kat_yes (kat_cons (wpAny_eqBool_int ?_));by_cases c2:a2=b2
  ·rw [show (a2 == b2)=true from beq_iff_eq.mpr c2];refine kat_yes (kat_cons (wpAny_eqBool_int ?_));by_cases c3:a3=b3
   ·rw [show (a3 == b3)=true from beq_iff_eq.mpr c3];refine kat_yes (kat_nil ?_);have e:lt3 (a1,a2,a3) (b1,b2,b3)=false:=by subst c1 c2 c3; simp [lt3]
    rw [e] at h;exact h
   ·rw [show (a3 == b3)=false from by simpa using c3];have e:lt3 (a1,a2,a3) (b1,b2,b3)=decide (a3 < b3):=by subst c1 c2; simp [lt3]
    rw [e] at h;exact kat_no (kat_one _ _ (lt_int h))
  ·rw [show (a2 == b2)=false from by simpa using c2];have e:lt3 (a1,a2,a3) (b1,b2,b3)=decide (a2 < b2):=by subst c1; simp [lt3,c2]
   rw [e] at h;exact kat_no (kat_one _ _ (lt_int h))
 ·rw [show (a1 == b1)=false from by simpa using c1];have e:lt3 (a1,a2,a3) (b1,b2,b3)=decide (a1 < b1):=by simp [lt3,c1]
  rw [e] at h;exact kat_no (oneLt_int h)
end
abbrev ltI (ts:[34]):Nat->Nat->Bool:=λ i j=>lt3 (ts.getD i (0,0,0)) (ts.getD j (0,0,0))
abbrev outV (vs:[24]) (p:Array Nat):List Value:=p.toList.map λ i=>vs.getD i Value.none
theorem sr1 (vs:[24]):outV vs (List.toArray (List.range vs.length))=vs:=by
 apply ext_getElem
 ·simp
 ·intro i h1 h2;simp [getD_eq_getElem?_getD,getElem?_eq_getElem h2]
theorem zu4 {vs:Array Value} {n:Nat} {C:Prop} (h:(seqObj "list" vs n).cls=Value.type "tuple"):C:=by
 have h':Value.type "list" = Value.type "tuple" := h;injection h' with e
 exact absurd e [7]
structure SK (prog:Program) (w:World) (vs:List Value) (lt:Nat->Nat->Bool) (κ:SortKind) (J:Heap->Prop) (U:Nat):Prop where
 od:Ms.Ord lt
 kd:2<=vs.length->∀ {A:Around} {E:Value->Shared->Prop} (s:Shared) {Q:SortKind->Shared->Prop},J s.heap->Q κ s->wpAny (model prog w) A (keyKind' vs.toArray) Q E s
 sm:∀ (i j:Nat) v,vs[i]?=some v->vs[j]?=some v->∀ k,lt i k=lt j k /\ lt k i=lt k j
 cm:∀ {A:Around} (s:Shared) (i j:Nat) x y,A.units<=U->J s.heap->vs[i]?=some x->vs[j]?=some y->∀ C:Bool->Shared->Prop,C (lt i j) s->wpAny (model prog w) A (keyLt' κ x y) C (λ _ _=>False) s
section
variable {prog:Program} {w:World} {A:Around} {E:[4]} {s:Shared} {vs:[24]} {lt:Nat->Nat->Bool} {κ:SortKind} {J:Heap->Prop} {U:Nat}
theorem yg1 {a:Addr} {n:Nat} {P:PySem.Fin->Shared->Prop} (K:SK prog w vs lt κ J U) (hU:A.units<=U) (ho:s.heap.get? a=some (seqObj "list" vs.toArray n)) (hJ:∀ h':Heap,(∀ b o,b ≠ a->s.heap.get? b=some o->h'.get? b=some o)->J h') (h64:vs.length < 64)
    (h:∀ (p:Array Nat) (h':Heap) (c:Nat),p.Perm (List.toArray (List.range vs.length))->Ms.Up lt p vs.length->(∀ b o,b ≠ a->s.heap.get? b=some o->h'.get? b=some o) ->
     h'.get? a=some (seqObj "list" (outV vs p).toArray c)->P (.done (.ret .none)) [36]) :
    wpAny [11] A (Builtin.«list.sort» ⟨[.ref a],[]⟩) P E s:=by
 have hz:vs.length<=sizeLine:=Nat.le_of_lt (Nat.lt_trans h64 [7]);have ha:a < s.heap.objs.size:=Heap.lt_size ho;obtain ⟨e1,ho1⟩:∃ e1,(s.heap.update a (Obj.mapSeq λ _=>(#[]:Array Value))).get? a=some (seqObj "list" #[] e1):=⟨_,get?_update_seq ho λ _=>#[]⟩
 have kp:∀ b o,b ≠ a->s.heap.get? b=some o->(((s.heap.update a (Obj.mapSeq λ _=>(#[]:Array Value))).push (seqObj "tuple" vs.toArray 0)).push (seqObj "list" #[] 0)).get? b=some o:=λ b o hb e =>
  Heap.get?_push_of_some _ (Heap.get?_push_of_some _ (by rw [Heap.get?_update_ne _ _ _ _ hb]; exact e))
 have ht3:=hJ _ kp;have hoN:=Heap.get?_push_of_some (seqObj "list" #[] 0) (Heap.get?_push_of_some (seqObj "tuple" vs.toArray 0) ho1);generalize hN:((s.heap.update a (Obj.mapSeq λ _=>(#[]:Array Value))).push (seqObj "tuple" vs.toArray 0)).push (seqObj "list" #[] 0)=hp3 at kp ht3 hoN
 have fin:∀ (p:Array Nat),p.Perm (List.toArray (List.range vs.length))->Ms.Up lt p vs.length->P (.done (.ret .none)) { s with heap:=hp3.update a (Obj.mapSeq λ _=>(outV vs p).toArray) }:=λ p hp hu=>by
  refine h p _ _ hp hu (λ b o hb e=>by rw [Heap.get?_update_ne _ _ _ _ hb]; exact kp b o hb e) (get?_update_seq hoN λ _=>(outV vs p).toArray)
 have szO:∀ p:Array Nat,p.Perm (List.toArray (List.range vs.length))->(outV vs p).toArray.size<=sizeLine + 1:=λ p hp=>by
  have:=hp.size_eq;simp at this;simp;omega
 rw [list_sort_plain];refine wpAny_bind (listItems_at ho rfl (wpAny_bind (listUpdate_at ho rfl ?_ (by simpa using hz) (Nat.zero_le _))));refine wpAny_bind (seqEpoch_at ho1 rfl (wpAny_bind (wpAny_newTuple ?_ (by simpa using hz))));refine wpAny_bind (wpAny_newList (wpAny_holding ?_) (Nat.zero_le _));show wpAny [11] A _ P E { s with heap:=((s.heap.update a (Obj.mapSeq λ _=>(#[]:Array Value))).push (seqObj "tuple" vs.toArray 0)).push (seqObj "list" #[] 0) };rw [hN];dsimp only;by_cases c:vs.toArray.size < 2
 ·rw [if_pos c,if_pos c];refine wpAny_bind [17];rw [StateT.run_pure];refine wpAny_bind [17]
  have id1:(arrOf (SortSt.mk' general' (vs.toArray.zip vs.toArray) #[] 7 none)).map (·.2)=(outV vs (List.toArray (List.range vs.length))).toArray:=by
   rw [sr1];show (vs.toArray.zip vs.toArray).map (·.2)=vs.toArray;apply Array.toList_inj.mp;simp [List.map_snd_zip]
  dsimp only;rw [id1];have pr:=Array.Perm.refl (List.toArray (List.range vs.length));refine wpAny_bind (seqEpoch_at hoN rfl (wpAny_bind (listUpdate_at hoN rfl ?_ (Nat.zero_le _) (szO _ pr))));simp only [bne_self_eq_false,Bool.false_eq_true,if_false];refine wpAny_pure (fin _ pr ?_);intro x y hxy hy;have:x=y:=by simp at c; omega
  subst this;exact Ms.le_rf K.od _
 ·rw [if_neg c,if_neg c];have c2:2<=vs.length:=by simp at c; omega
  refine wpAny_bind (K.kd c2 { s with heap:=hp3 } ht3 ?_);have srt:=Ms.sort_ok K.od (n:=vs.length) [2];have vg:∀ i,i < vs.length->vs[i]?=some (vs.getD i .none):=λ i hi=>by rw [getD_eq_getElem?_getD,getElem?_eq_getElem hi]; rfl
  refine wpAny_bind (wpAny_mono (kat_run (ks:=vs) (Q:=λ st' s'=>s'={ s with heap:=hp3 } /\ ∃ p:Array Nat,arrOf st'=p.map (kas_item (vs.toArray.zip vs.toArray)) /\ failedOf st'=none /\ p=Ms.run lt (kas_sort vs.length)) (G:=λ p s'=>s'={ s with heap:=hp3 } /\ p=Ms.run lt (kas_sort vs.length)) rfl c2 h64
   (λ p st' s' _ b2 b3 b4=>⟨b4.1,p,b2,b3,b4.2⟩) ?_) ?_ λ _ _ z=>z)
  ·refine Ms.Bd.wp (N:=vs.length) (lt:=lt) (λ i j C hi hj hc=>?_) _ (Ms.bd_sort [2]) ⟨rfl,rfl⟩;exact K.cm { s with heap:=hp3 } i j _ _ hU ht3 (vg i hi) (vg j hj) C hc
  ·rintro ⟨⟨⟩,st'⟩ s' ⟨rfl,p,hp1,hp2,rfl⟩;obtain ⟨pp,pu⟩:=srt;dsimp only;rw [kat_snds rfl hp1];refine wpAny_bind (seqEpoch_at hoN rfl (wpAny_bind (listUpdate_at hoN rfl ?_ (Nat.zero_le _) (szO _ pp))));rw [hp2];simp only [bne_self_eq_false,Bool.false_eq_true,if_false];exact wpAny_pure (fin _ pp pu)
theorem sk2 {l:Addr} {Q:[4]} (K:SK prog w vs lt κ J U) (hU:A.units + 2<=U) (hl:s.heap.IsList l vs.toArray) (hJ:∀ h':Heap,(∀ b o,s.heap.get? b=some o->h'.get? b=some o)->J h') (h64:vs.length < 64)
    (h:∀ (p:Array Nat) (h':Heap) (c:Nat),p.Perm (List.toArray (List.range vs.length))->Ms.Up lt p vs.length->(∀ b o,s.heap.get? b=some o->h'.get? b=some o) ->
     h'.get? (s.heap.objs.size + 1)=some (seqObj "list" (outV vs p).toArray c)->Q (.ref (s.heap.objs.size + 1)) [36]) :
    wpAny [11] A (call (.builtin "sorted") [.ref l]) Q E s:=by
 have hz:vs.length<=sizeLine:=Nat.le_of_lt (Nat.lt_trans h64 [7]);refine Calls.call_function_entry kind_sorted plain_sorted entry_sorted (args_sorted1 _) ?_;unfold Builtin.«sorted»;refine wpAny_bind (m:=checkCount "sorted" 1 1 _) (wpAny_pure (wpAny_bind (collect_list hl ?_ hz)));refine wpAny_bind (wpAny_newList ?_ hz)
 have z1:[23].objs.size=s.heap.objs.size + 1:=by
  rw [Heap.size_update,size_push']
 have kp:∀ b o,s.heap.get? b=some o->([23].push (seqObj "list" vs.toArray 0)).get? b=some o:=λ b o q=>by
  have hb:b < s.heap.objs.size:=Heap.lt_size q;exact Heap.get?_push_of_some _ (by rw [Heap.get?_update_ne _ _ _ _ (Nat.ne_of_lt hb)]; exact Heap.get?_push_of_some _ q)
 have zo:([23].push (seqObj "list" vs.toArray 0)).get? (s.heap.objs.size + 1)=some (seqObj "list" vs.toArray 0):=by
  have q:=Heap.get?_push_size [23] (o:=seqObj "list" vs.toArray 0) rfl;rw [z1] at q;exact q
 show wpAny _ _ _ _ _ { s with heap:=[23].push (seqObj "list" vs.toArray 0) };rw [z1];generalize [23].push (seqObj "list" vs.toArray 0)=hp at kp zo;refine wpAny_bind (wpAny_holding (wpAny_call_entry slot_list_sort ⟨_,zo,rfl⟩ entry_list_sort (yg1 (s:={ s with heap:=hp }) K (by simpa using hU) zo (λ h' g=>hJ h' λ b o q=>g b o (Nat.ne_of_lt (Nat.lt_succ_of_lt (Heap.lt_size q))) (kp b o q)) h64 λ p h' c a1 a2 a3 a4=>⟨_,rfl,?_⟩) (args_list_sort _)));refine wpAny_pure ⟨_,rfl,h p h' c a1 a2 (λ b o q=>a3 b o (Nat.ne_of_lt (Nat.lt_succ_of_lt (Heap.lt_size q))) (kp b o q)) a4⟩
end
def Lw {α β:Type} (R:β->α->Prop):List β->List α->Prop
 | [],[]=>True
 | v :: vs,t :: ts=>R v t /\ Lw R vs ts
 | _,_=>False
theorem Lw.mono {α β:Type} {R S:β->α->Prop} (k:∀ v t,R v t->S v t):∀ {vs:List β} {ts:List α},Lw R vs ts->Lw S vs ts
 | [],[],_=>trivial
 | [],_ :: _,i=>i.elim
 | _ :: _,[],i=>i.elim
 | _ :: _,_ :: _,i=>⟨k _ _ i.1,i.2.mono k⟩
theorem Lw.len {α β:Type} {R:β->α->Prop}:∀ {vs:List β} {ts:List α},Lw R vs ts->vs.length=ts.length
 | [],[],_=>rfl
 | [],_ :: _,i=>i.elim
 | _ :: _,[],i=>i.elim
 | _ :: _,_ :: _,i=>congrArg (· + 1) i.2.len
theorem Lw.get {α:Type} {R:Value->α->Prop} {d:α}:∀ {vs:[24]} {ts:List α},Lw R vs ts->∀ i,i < vs.length->R (vs.getD i .none) (ts.getD i d)
 | [],[],_,i,hi=>absurd hi (Nat.not_lt_zero _)
 | [],_ :: _,z,_,_=>z.elim
 | _ :: _,[],z,_,_=>z.elim
 | _ :: _,_ :: _,z,0,_=>z.1
 | _ :: _,_ :: _,z,i + 1,hi=>z.2.get i (Nat.lt_of_succ_lt_succ hi)
structure TupI {α:Type} (Is:Heap->Value->α->Prop) (lt:α->α->Bool) (d:α):Prop where
 kept:∀ {h h':Heap} {v t},(∀ b o,h.get? b=some o->o.cls=.type "tuple" -> h'.get? b=some o)->Is h v t->Is h' v t
 one:∀ {h v t u},Is h v t->Is h v u->t=u
 ord:∀ ts:List α,Ms.Ord λ i j=>lt (ts.getD i d) (ts.getD j d)
 fst:∀ {h v t},Is h v t->∃ a o i t1 r n,v=.ref a /\ h.get? a=some o /\ o.cls=.type "tuple" /\ o.data=.seq (.int i t1 :: r).toArray n
 lt':∀ {prog w A} {E:Value->Shared->Prop} {s x y a b} {Q:Bool->Shared->Prop},Is s.heap x a->Is s.heap y b->Q (lt a b) s->wpAny (model prog w) A (keyLt' (tuples' true) x y) Q E s
section
variable {α:Type} {Is:Heap->Value->α->Prop} {lt:α->α->Bool} {d:α} {vs:[24]} {ts:List α}
theorem TupI.firsts (T:TupI Is lt d) {h:Heap}:∀ {vs:[24]} {ts:List α},Lw (Is h) vs ts->∃ fs,KatTups h vs fs /\ fs.length=vs.length /\ ∀ v ∈ fs,∃ i t,v=Value.int i t
 | [],[],_=>⟨[],trivial,rfl,λ _ hv=>nomatch hv⟩
 | [],_ :: _,z=>z.elim
 | _ :: _,[],z=>z.elim
 | v :: vs,t :: ts,z=>by
  obtain ⟨fs,f1,f2,f3⟩:=T.firsts z.2;obtain ⟨a,o,i,t1,r,n,rfl,e2,e3,e4⟩:=T.fst z.1;refine ⟨.int i t1 :: fs,KatTups.cons e2 e3 e4 rfl f1,by rw [length_cons,length_cons,f2],λ x hx=>?_⟩;rcases List.mem_cons.mp hx with rfl | hx
  ·exact ⟨_,_,rfl⟩
  ·exact f3 x hx
theorem TupI.at (T:TupI Is lt d) {h:Heap} (z:Lw (Is h) vs ts) {i:Nat} {v:Value} (e:vs[i]?=some v):Is h v (ts.getD i d):=by
 have g:=z.get (d:=d) i (List.getElem?_eq_some_iff.mp e).1
 rwa [getD_eq_getElem?_getD,e] at g
theorem TupI.sk (T:TupI Is lt d) {prog:Program} {w:World} {h:Heap} {U:Nat} (z:Lw (Is h) vs ts):SK prog w vs (λ i j=>lt (ts.getD i d) (ts.getD j d)) (tuples' true) (λ h=>Lw (Is h) vs ts) U where
 od:=T.ord ts
 kd:=λ h2 {A E} s {Q} z q=>by
  obtain ⟨fs,f1,f2,f3⟩:=T.firsts z;refine kat_kind f1 [2] (T:=.type "int") (λ v hv=>?_) [7] ?_
  ·obtain ⟨i,t,rfl⟩:=f3 v hv;exact Looks.of_pure rfl
  show Q _ s;rw [show (Value.type "int" != Value.type "tuple")=true by decide];exact q
 sm:=λ i j v e1 e2 k=>by
  rw [T.one (T.at z e1) (T.at z e2)];exact ⟨rfl,rfl⟩
 cm:=λ {A} s i j x y _ z e1 e2 C hc=>T.lt' (T.at z e1) (T.at z e2) hc
theorem TupI.keep (T:TupI Is lt d) {h h':Heap} {a:Addr} {us:Array Value} {n:Nat} (ho:h.get? a=some (seqObj "list" us n)) (k:∀ b o,b ≠ a->h.get? b=some o->h'.get? b=some o) (z:Lw (Is h) vs ts):Lw (Is h') vs ts :=
 z.mono λ _ _=>T.kept λ b o e ec=>k b o (λ z=>by subst z; rw [ho] at e; cases e; exact zu4 ec) e
end
abbrev T3s (h:Heap):List Value->List T3->Prop:=Lw (IsT3 h)
theorem ti3:TupI IsT3 lt3 (0,0,0) where
 kept:=λ k ⟨a,o,t1,t2,t3,n,e1,e2,e3,e4⟩=>⟨a,o,t1,t2,t3,n,e1,k _ _ e2 e3,e3,e4⟩
 one:=IsT3.one
 ord:=vh3
 fst:=λ ⟨a,o,t1,t2,t3,n,e1,e2,e3,e4⟩=>⟨a,o,_,t1,_,n,e1,e2,e3,e4⟩
 lt':=vn4
abbrev V3s (K:Fg) (H:Hp):List V->List T3->Prop:=Lw λ v t=>∃ a,v=.ref a /\ H a=some (.tup [.int t.1,.int t.2.1,.int t.2.2])
section
variable {X:Cx}
theorem yw0 {pins:[5]} {σ:L2.St} {H:Hp} {s:Shared} (I:[6]):∀ {vs:List V} {ts:[34]} {us:[24]},V3s X.K H vs ts->Vals vs us->T3s s.heap us ts
 | [],[],_,_,.nil=>trivial
 | [],_ :: _,_,z,_=>z.elim
 | _ :: _,[],_,z,_=>z.elim
 | v :: vs,t :: ts,_,z,.cons r rs=>by
  obtain ⟨⟨a,rfl,hq⟩,z⟩:=z;refine ⟨?_,yw0 I z rs⟩;cases r;obtain ⟨its,rv,⟨o,p1,p2,n,p3⟩,_⟩:=I.tuple (SqT.of hq);cases rv with
  | cons r1 rv =>
   cases rv with
   | cons r2 rv =>
    cases rv with
    | cons r3 rv =>
     cases rv;obtain ⟨t1,rfl⟩:=r1;obtain ⟨t2,rfl⟩:=r2;obtain ⟨t3,rfl⟩:=r3;exact ⟨a,o,t1,t2,t3,n,rfl,p1,p2,p3⟩
theorem xm0 {vs:List V} {us:[24]} (r:Vals vs us):∀ (l:List Nat),(∀ i ∈ l,i < vs.length)->Vals (l.map λ i=>vs.getD i .non) (l.map λ i=>us.getD i Value.none)
 | [],_=>.nil
 | i :: l,h=>by
  refine .cons ?_ (xm0 r l λ j hj=>h j (mem_cons_of_mem _ hj));have hi:=h i (mem_cons_self ..);obtain ⟨u,e,z⟩:=Vals.get r (i:=i) (x:=vs.getD i .non) (by rw [getD_eq_getElem?_getD,getElem?_eq_getElem hi]; rfl);dsimp only;rw [show us.getD i Value.none=u by rw [getD_eq_getElem?_getD,e]; rfl];exact z
end
def encT (t:T3):D:=.tup [.int t.1,.int t.2.1,.int t.2.2]
def t3?:D->Option T3
 | .tup [.int a,.int b,.int c]=>some (a,b,c)
 | _=>none
def t3s?:List D->Option (List T3)
 | []=>some []
 | d :: r=>match t3? d with
  | some t=>match t3s? r with
   | some ts=>some (t :: ts)
   | none=>none
  | none=>none
theorem yf1:∀ ts:List T3,t3s? (ts.map encT)=some ts
 | []=>rfl
 | t :: ts=>by simp only [map_cons,t3s?,encT,t3?,yf1 ts]
theorem wn4 {d:D} {t:T3} (h:t3? d=some t):d=encT t:=by
 unfold t3? at h;split at h
 ·cases h; rfl
 ·cases h
theorem ut2:∀ {l:List D} {ts:[34]},t3s? l=some ts->l=ts.map encT
 | [],ts,h=>by cases h; rfl
 | d :: r,ts,h=>by
  unfold t3s? at h;split at h
  ·next t e =>
   split at h
   ·next us e2=>cases h; rw [wn4 e,ut2 e2]; rfl
   ·cases h
  ·cases h
theorem tt1 {K:Fg} {H:Hp}:∀ {ts:[34]} {vs:List V},RelDs K H (ts.map encT) vs->V3s K H vs ts
 | [],_,.nil=>trivial
 | t :: ts,_,.cons r rs=>by
  refine ⟨?_,tt1 rs⟩;cases r with
  | tup hq r2 =>
   cases r2 with
   | cons x r2 =>
    cases r2 with
    | cons y r2 =>
     cases r2 with
     | cons z r2 =>
      cases r2;cases x;cases y;cases z;exact ⟨_,rfl,hq⟩
def le3 (a b:T3):Prop:=lt3 b a=false
section
variable {α:Type} {d0:α} {enc:α->D} {lt:α->α->Bool}
theorem zk0 {K:Fg} {H:Hp} {ts:List α} {vs:List V} (r:RelDs K H (ts.map enc) vs):∀ (l:List Nat),(∀ i ∈ l,i < vs.length)->RelDs K H ((l.map λ i=>ts.getD i d0).map enc) (l.map λ i=>vs.getD i .non)
 | [],_=>.nil
 | i :: l,h=>by
  refine .cons ?_ (zk0 r l λ j hj=>h j (mem_cons_of_mem _ hj));have hi:=h i (mem_cons_self ..);have hl:=r.length;rw [length_map] at hl;obtain ⟨v,e,z⟩:=r.get (i:=i) (d:=enc (ts.getD i d0)) (by rw [getElem?_map,getD_eq_getElem?_getD,getElem?_eq_getElem [2]]; rfl);dsimp only;rw [show vs.getD i .non=v by rw [getD_eq_getElem?_getD,e]; rfl];exact z
theorem tq0 {ts:List α} {q:Array Nat} (h:q.Perm (List.toArray (List.range ts.length))):(q.toList.map λ i=>ts.getD i d0).Perm ts:=by
 have h1:q.toList.Perm (List.range ts.length):=h.toList;refine (h1.map _).trans (List.Perm.of_eq ?_);apply ext_getElem
 ·simp
 ·intro i h1 h2;simp [getD_eq_getElem?_getD,getElem?_eq_getElem h2]
theorem zf1 {ts:List α} {q:Array Nat} (h:q.Perm (List.toArray (List.range ts.length))) (u:Ms.Up (λ i j=>lt (ts.getD i d0) (ts.getD j d0)) q ts.length):(q.toList.map λ i=>ts.getD i d0).Pairwise λ a b=>lt b a=false:=by
 have sz:q.size=ts.length:=by have:=h.size_eq; simpa using this
 rw [List.pairwise_iff_getElem];intro i j hi hj hij;simp only [length_map,length_toList] at hi hj;have z:=u i j (Nat.le_of_lt hij) [2];simp only [List.getElem_map,Array.getElem_toList];have e1:Ms.at' q i=q[i]:=by show q.getD i 0=_; simp [Array.getD,hi]
 have e2:Ms.at' q j=q[j]:=by show q.getD j 0=_; simp [Array.getD,hj]
 rw [e1,e2] at z;exact z
def wr4 (K:Fg) (enc:α->D) (lt:α->α->Bool) (d0:α):List V->Hp->VK->Prop:=λ xs H Q=>∃ (p:Addr) (vs:List V) (ts:List α),xs=[.ref p] /\ SqL K H p vs /\ RelDs K H (ts.map enc) vs /\ vs.length < 64 ∧
 ∀ q:Array Nat,q.Perm (List.toArray (List.range vs.length))->Ms.Up (λ i j=>lt (ts.getD i d0) (ts.getD j d0)) q vs.length->∀ r,H r=none->Q (.ref r) (upd H r (.lst (q.toList.map λ i=>vs.getD i .non)))
theorem vy1 {X:Cx} {Is:Heap->Value->α->Prop} {srt:C3} (T:TupI Is lt d0) (rl:∀ {pins σ H s},Inv X pins σ H s->∀ {t v u},RelD X.K H (enc t) v->RelV v u->Is s.heap u t)
    (hs:∀ {ds μ Q},srt ds μ Q->∃ (p:Addr) (ts:List α),ds=[.ref p] /\ μ p=some (.lst (ts.map enc)) /\ ts.length < 64 /\ ∀ us:List α,us.Perm ts->(us.Pairwise λ a b=>lt b a=false)->∀ r,μ r=none->Q (.ref r) (updM μ r (.lst (us.map enc)))):RC X (.builtin "sorted") srt:=by
 refine ⟨wr4 X.K enc lt d0,?_,λ xs vs H Q μ Q3 m r h k=>?_⟩
 ·intro pins s σ H xs us Q I r h;obtain ⟨p,vs,ts,rfl,hq,h3,h64,k⟩:=h;cases r with
  | cons r rr =>
   cases rr;cases r;obtain ⟨its,rv,pl,hz⟩:=I.list hq;have hl:=rv.length
   have lw:∀ {ts:List α} {vs:List V} {us:[24]},RelDs X.K H (ts.map enc) vs->Vals vs us->Lw (Is s.heap) us ts:=λ {ts}=>by
    induction ts with
    | nil=>intro vs us a b; cases a; cases b; trivial
    | cons t ts ih=>intro vs us a b; cases a with | cons a1 a2=>cases b with | cons b1 b2=>exact ⟨rl I a1 b1,ih a2 b2⟩
   have z:=lw h3 rv;refine sk2 (T.sk z) [14] pl.isList (λ h' g=>z.mono λ _ _=>T.kept λ b o e _=>g b o e) [2] λ q h' c a1 a2 a3 a4=>?_;have a1':q.Perm (List.toArray (List.range vs.length)):=by rw [hl]; exact a1
   have lt':∀ i ∈ q.toList,i < vs.length:=λ i hi=>by
    have e:i ∈ List.toArray (List.range vs.length):=a1'.mem_iff.mp (by simpa using hi);simpa using e
   have sz:q.toList.length=vs.length:=by have:=a1'.size_eq; simpa using this
   have nw:s.heap.objs.size<=s.heap.objs.size + 1:=Nat.le_succ _;refine ⟨.ref _,_,I.laid (t':=s.toks) a3 nw (show ObjOk X.prog X.w _ h' _ (.lst (q.toList.map λ i=>vs.getD i .non)) from ⟨by rw [length_map,sz]; exact hz,_,c,xm0 rv _ lt',a4⟩),rfl,k q a1' (by rw [hl]; exact a2) _ (I.hok.fresh nw)⟩
 ·obtain ⟨p,ts,rfl,e,h1,h2⟩:=hs h;cases r with
  | cons r1 r2 =>
   cases r2;cases r1;obtain ⟨us,hv,rv⟩:=m p _ e;have hl:=rv.length;rw [length_map] at hl;refine ⟨p,us,ts,rfl,SqL.of hv,rv,by omega,λ q a1 a2 r hr=>?_⟩;rw [<- hl] at a1 a2
   have lt':∀ i ∈ q.toList,i < us.length:=λ i hi=>by
    have e:i ∈ List.toArray (List.range ts.length):=a1.mem_iff.mp (by simpa using hi);have e':i < ts.length:=by simpa using e
    omega
   exact k _ _ _ _ (h2 _ (tq0 (d0:=d0) a1) (zf1 a1 a2) r (m.free hr)) (Kp.new hr) (.ref r) (m.newL hr (zk0 rv _ lt'))
end
def srtR:C3:=λ ds μ Q=>match ds with
 | [.ref p]=>match μ p with
  | some (.lst l)=>match t3s? l with
   | some ts=>ts.length < 64 /\ ∀ us:List T3,us.Perm ts->us.Pairwise le3->∀ r,μ r=none->Q (.ref r) (updM μ r (.lst (us.map encT)))
   | none=>False
  | _=>False
 | _=>False
section
variable {X:Cx}
theorem sl1:RC X (.builtin "sorted") srtR:=by
 refine vy1 (enc:=encT) ti3 (λ {_ _ _ _} I {t v u} a b=>?_) λ {ds μ Q} h=>?_
 ·exact (yw0 I (tt1 (ts:=[t]) (.cons a .nil)) (.cons b .nil)).1
 ·unfold srtR at h;split at h
  ·next p =>
   split at h
   ·next l e =>
    split at h
    ·next ts e2=>exact ⟨p,ts,rfl,by rw [e,ut2 e2],h.1,h.2⟩
    ·exact h.elim
   ·exact h.elim
  ·exact h.elim
end
theorem zl1 {K:Fg} {H:Hp}:∀ {ts:[34]} {vs:List V},V3s K H vs ts->RelDs K H (ts.map encT) vs
 | [],[],_=>.nil
 | [],_ :: _,z=>z.elim
 | _ :: _,[],z=>z.elim
 | t :: ts,v :: vs,z=>by
  obtain ⟨⟨a,rfl,hq⟩,z⟩:=z;exact .cons (.tup hq (.cons (.int _) (.cons (.int _) (.cons (.int _) .nil)))) (zl1 z)
end Pv
namespace Pv
open PySem PySem.Spec PyProof.Rows L2
open PySem.AutoSeq1 (wpAny_loadPart')
theorem ndlt (x y:Int):(!decide (x < y))=decide (y<=x):=by
 by_cases h:x < y
 ·rw [decide_eq_true h,decide_eq_false [2]]; rfl
 ·rw [decide_eq_false h,decide_eq_true [2]]; rfl
theorem xj3 (p q:Addr) (a b:T3) (t1 t2 t3 u1 u2 u3:Tok) (n m:Nat) (dd dd2:Option Addr) (sl sl2:Array (Option Value)) :
    Meets (Builtin.«tuple.__ge__» ⟨[.ref p,.ref q],[]⟩) (λ A R s=>s.heap.get? p=some { cls:=.type "tuple",dict:=dd,data:=.seq #[.int a.1 t1,.int a.2.1 t2,.int a.2.2 t3] n,slots:=sl } /\ s.heap.get? q=some { cls:=.type "tuple",dict:=dd2,data:=.seq #[.int b.1 u1,.int b.2.1 u2,.int b.2.2 u3] m,slots:=sl2 } ∧
     R (.ok (.ret (.bool (!lt3 a b)))) s) :=
 .of_wp λ prog w A R s h=>by
  obtain ⟨hp,g,dr,tk,os⟩:=s; obtain ⟨hl,hb,h⟩:=h;obtain ⟨a1,a2,a3⟩:=a;obtain ⟨b1,b2,b3⟩:=b;have f2:=AutoSeq1.sub_tuple_tuple;have ge:∀ (x y:Int) (tx ty:Tok) {Q:[4]} {E:[4]} {A:Around} {s:Shared},Q (.bool (decide (y<=x))) s->wpAny [11] A (richCompare .GtE (.int x tx) (.int y ty)) Q E s:=λ x y tx ty Q E A s hq=>ge_int hq;have eqb:∀ (x y:Int) (tx ty:Tok) {Q:Bool->Shared->Prop} {E:[4]} {A:Around} {s:Shared},Q (x == y) s->wpAny [11] A (eqBool (.int x tx) (.int y ty)) Q E s:=λ x y tx ty Q E A s hq=>wpAny_eqBool_int hq
  wp_walk using wpAny_loadPart' hl,wpAny_loadPart' hb,eqb a1 b1 t1 u1
  by_cases h1:a1=b1
  ·rw [show (a1 == b1)=true by simpa using h1]
   wp_walk using eqb a2 b2 t2 u2
   by_cases h2:a2=b2
   ·rw [show (a2 == b2)=true by simpa using h2]
    wp_walk using eqb a3 b3 t3 u3
    by_cases h3:a3=b3
    ·rw [show (a3 == b3)=true by simpa using h3]
     wp_walk
     have h':R (.ok (.ret (.bool true))) ⟨hp,g,dr,tk,os⟩:=by simpa [lt3,h1,h2,h3] using h
     exact ⟨_,rfl,h'⟩
    ·rw [show (a3 == b3)=false by simpa using h3]
     wp_walk using ge a3 b3 t3 u3
     have e:(!lt3 (a1,a2,a3) (b1,b2,b3))=decide (b3<=a3):=by rw [show lt3 (a1,a2,a3) (b1,b2,b3)=decide (a3 < b3) by subst h1 h2; simp [lt3],ndlt]
     rw [e] at h;exact ⟨_,rfl,by simpa using h⟩
   ·rw [show (a2 == b2)=false by simpa using h2]
    wp_walk using ge a2 b2 t2 u2
    have e:(!lt3 (a1,a2,a3) (b1,b2,b3))=decide (b2<=a2):=by rw [show lt3 (a1,a2,a3) (b1,b2,b3)=decide (a2 < b2) by subst h1; simp [lt3,h2],ndlt]
    rw [e] at h;exact ⟨_,rfl,by simpa using h⟩
  ·rw [show (a1 == b1)=false by simpa using h1]
   wp_walk using ge a1 b1 t1 u1
   have e:(!lt3 (a1,a2,a3) (b1,b2,b3))=decide (b1<=a1):=by rw [show lt3 (a1,a2,a3) (b1,b2,b3)=decide (a1 < b1) by simp [lt3,h1],ndlt]
   rw [e] at h;exact ⟨_,rfl,by simpa using h⟩
section
variable {X:Cx}
def ge3R:R3:=λ x y μ Q=>match x,y with
 | .int i,.int j=>Q (.bl (decide (j<=i))) μ
 | .tup [.int a,.int b,.int c],.tup [.int d,.int e,.int f]=>Q (.bl (!lt3 (a,b,c) (d,e,f))) μ
 | _,_=>False
def rGe3 (K:Fg):R2:=λ x y H Q=>∃ p q a b,x=.ref p /\ y=.ref q /\ SqT K H p [.int a.1,.int a.2.1,.int a.2.2] /\ SqT K H q [.int b.1,.int b.2.1,.int b.2.2] /\ Q (.bl (!lt3 a b)) H
theorem sn3 {x y z:V} {us:[24]} (r:Vals [x,y,z] us):∃ a b c,us=[a,b,c] /\ RelV x a /\ RelV y b /\ RelV z c:=by
 cases r with
 | cons r1 r =>
  cases r with
  | cons r2 r =>
   cases r with
   | cons r3 r=>cases r; exact ⟨_,_,_,rfl,r1,r2,r3⟩
theorem vf4 (hu:X.A.units < cLine):OpR X (compareOp .GtE) (rGe3 X.K):=by
 intro pins s σ H x y v u Q I rx ry h;obtain ⟨p,q,a,b,rfl,rfl,ha,hb,k⟩:=h;cases rx;cases ry;obtain ⟨its,r1,⟨⟨c1,d1,e1,l1⟩,o1,o2,n1,o3⟩,_⟩:=I.tuple ha;obtain ⟨its2,r2,⟨⟨c2,d2,e2,l2⟩,o4,o5,n2,o6⟩,_⟩:=I.tuple hb;obtain ⟨_,_,_,rfl,⟨t1,rfl⟩,⟨t2,rfl⟩,⟨t3,rfl⟩⟩:=sn3 r1;obtain ⟨_,_,_,rfl,⟨u1,rfl⟩,⟨u2,rfl⟩,⟨u3,rfl⟩⟩:=sn3 r2;dsimp only at o2 o3 o5 o6;subst o2 o3 o5 o6;exact richCompare_meets_room (op:=.GtE) (T := "tuple") ⟨_,o1,rfl⟩ ⟨_,o4,rfl⟩ PySem.F.slot_tuple_ge PySem.F.entry_tuple_ge (PySem.F.args_tuple_ge_2 _ _) (xj3 p q a b t1 t2 t3 u1 u2 u3 n1 n2 d1 d2 l1 l2) ⟨o1,o4,by simp,⟨.bl (!lt3 a b),H,I,rfl,k⟩⟩ hu
theorem xb4 (hu:X.A.units + 64 < cLine):RO X (compareOp .GtE) ge3R:=by
 refine ⟨_,op_ge.or (vf4 [2]),λ x y v u H Q μ Q3 m rx ry h k=>?_⟩;unfold ge3R at h;split at h
 ·cases rx;cases ry;exact .inl ⟨_,_,rfl,rfl,k _ _ _ _ h (Kp.refl _) (.bl _) m⟩
 ·next a b c d e f =>
  cases rx with
  | tup hq rs =>
   cases ry with
   | tup hq2 rs2 =>
    cases rs with
    | cons x1 rs =>
     cases rs with
     | cons x2 rs =>
      cases rs with
      | cons x3 rs =>
       cases rs;cases rs2 with
       | cons y1 rs2 =>
        cases rs2 with
        | cons y2 rs2 =>
         cases rs2 with
         | cons y3 rs2 =>
          cases rs2;cases x1; cases x2; cases x3; cases y1; cases y2; cases y3;exact .inr ⟨_,_,(a,b,c),(d,e,f),rfl,rfl,(SqT.of hq),(SqT.of hq2),k _ _ _ _ h (Kp.refl _) (.bl _) m⟩
 ·exact h.elim
end
end Pv
namespace L2
open PySem PySem.Spec PyProof.Rows
section
variable {κ:Type} [DecidableEq κ]
def valV (kvs:List (κ × V)) (k:κ):Option V:=(kvs.find? λ kv=>decide (kv.1=k)).map (·.2)
def putK (kvs:List (κ × V)) (k:κ) (v:V):List (κ × V) :=
 if (kvs.any λ kv=>decide (kv.1=k))=true then kvs.map (λ kv=>if kv.1=k then (kv.1,v) else kv) else kvs ++ [(k,v)]
theorem ym0 {p:κ × V} {r:List (κ × V)} {k:κ} (e:p.1=k):valV (p :: r) k=some p.2:=by simp [valV,find?_cons,e]
theorem zm0 {p:κ × V} {r:List (κ × V)} {k:κ} (e:¬ p.1=k):valV (p :: r) k=valV r k:=by simp [valV,find?_cons,e]
theorem xw0 (k:κ):∀ kvs:List (κ × V),(kvs.any λ kv=>decide (kv.1=k))=(valV kvs k).isSome
 | []=>rfl
 | p :: r=>by
  rw [any_cons];by_cases e:p.1=k
  ·simp only [ym0 e,decide_eq_true e,Bool.true_or,Option.isSome_some]
  ·rw [zm0 e,decide_eq_false e,Bool.false_or]; exact xw0 k r
theorem ul0 (kvs:List (κ × V)) (k:κ) (v:V):(putK kvs k v).length<=kvs.length + 1:=by
 unfold putK;split
 ·rw [length_map]; omega
 ·rw [length_append,length_cons,length_nil]; omega
theorem RelO.isSome_eq {o:Option V} {u:Option Value} (r:RelO o u):o.isSome=u.isSome:=by
 cases o with
 | none=>cases u with
  | none=>rfl
  | some _=>exact (show False from r).elim
 | some _=>cases u with
  | none=>exact (show False from r).elim
  | some _=>rfl
theorem RelO.getD {o:Option V} {u:Option Value} {d:V} {d':Value} (r:RelO o u) (rd:RelV d d'):RelV (o.getD d) (u.getD d'):=by
 cases o with
 | none=>cases u with
  | none=>exact rd
  | some _=>exact (show False from r).elim
 | some _=>cases u with
  | none=>exact (show False from r).elim
  | some _=>exact r
theorem KV.val {kvs:List (κ × V)} {vs:List (κ × Value)} (r:KV kvs vs) (k:κ):RelO (valV kvs k) (valueAt vs k):=by
 unfold KV at r
 induction r with
 | nil=>exact True.intro
 | @cons p q ps qs h t ih =>
  obtain ⟨h1,h2⟩:=h;by_cases e:p.1=k
  ·have e':q.1=k:=h1.symm.trans e;have b:valueAt (q :: qs) k=some q.2:=by simp [valueAt,find?_cons,e']
   rw [ym0 e,b]; exact h2
  ·have e':¬ q.1=k:=λ z=>e (h1.trans z);have b:valueAt (q :: qs) k=valueAt qs k:=by simp [valueAt,find?_cons,e']
   rw [zm0 e,b]; exact ih
theorem KV.any {kvs:List (κ × V)} {vs:List (κ × Value)} (r:KV kvs vs) (k:κ):(kvs.any λ kv=>decide (kv.1=k))=vs.any λ kv=>decide (kv.1=k):=by
 unfold KV at r
 induction r with
 | nil=>rfl
 | cons h t ih=>rw [any_cons,any_cons,ih,h.1]
theorem KV.repl {kvs:List (κ × V)} {vs:List (κ × Value)} (r:KV kvs vs) (k:κ) {y:V} {u:Value} (ry:RelV y u) :
    KV (kvs.map λ kv=>if kv.1=k then (kv.1,y) else kv) (vs.map λ kv=>if kv.1=k then (kv.1,u) else kv):=by
 unfold KV at r ⊢
 induction r with
 | nil=>exact .nil
 | @cons p q ps qs h t ih =>
  rw [map_cons,map_cons];refine .cons ?_ ih;obtain ⟨h1,h2⟩:=h;by_cases e:p.1=k
  ·rw [if_pos e,if_pos (h1.symm.trans e)]; exact ⟨h1,ry⟩
  ·rw [if_neg e,if_neg (λ z=>e (h1.trans z))]; exact ⟨h1,h2⟩
theorem KV.put {kvs:List (κ × V)} {vs:List (κ × Value)} (r:KV kvs vs) (k:κ) {y:V} {u:Value} (ry:RelV y u):KV (putK kvs k y) (stored vs k u):=by
 unfold putK stored;rw [r.any k];by_cases e:(vs.any λ kv=>decide (kv.1=k))=true
 ·rw [if_pos e,if_pos e]; exact r.repl k ry
 ·rw [if_neg e,if_neg e]; exact Paired.snoc r ⟨rfl,ry⟩
theorem KV.length {kvs:List (κ × V)} {vs:List (κ × Value)} (r:KV kvs vs):kvs.length=vs.length:=Paired.length r
end
theorem ws1 {P:Program} {w:World} {k:Key} {u:Value} (r:RelV (kV k) u):(we0 P w).is k u=true:=by
 cases k with
 | inl i=>obtain ⟨t,e⟩:=(show ∃ t,u=Value.int i t from r); subst e; exact xg1 P w i t
 | inr x=>obtain ⟨t,e⟩:=(show ∃ t,u=Value.str x t from r); subst e; exact sf1 P w x t
theorem vc1 {P:Program} {w:World}:∀ {ks:List Key} {us:[24]},Vals (ks.map kV) us->ItemsAre (we0 P w) ks us
 | [],_,r=>by rw [map_nil] at r; cases r; exact .nil
 | k :: ks,_,r=>by
  rw [map_cons] at r;cases r with
  | cons h t=>exact .cons (ws1 h) (vc1 t)
abbrev KT (H:Hp):List (List Key × V)->List (List Key × Addr × Value)->Prop:=Paired λ p q=>p.1=q.1 /\ H q.2.1=some (.tup (p.1.map kV)) /\ RelV p.2 q.2.2
theorem KT.val {H:Hp} {kvs:[31]} {xs:List (List Key × Addr × Value)} (r:KT H kvs xs) (k:List Key):RelO (valV kvs k) ((atKey xs k).map (·.2)):=by
 induction r with
 | nil=>exact True.intro
 | @cons p q ps qs h t ih =>
  obtain ⟨h1,_,h2⟩:=h;by_cases e:p.1=k
  ·have e':q.1=k:=h1.symm.trans e;have b:atKey (q :: qs) k=some q.2:=by simp [atKey,find?_cons,e']
   rw [ym0 e,b]; exact h2
  ·have e':¬ q.1=k:=λ z=>e (h1.trans z);have b:atKey (q :: qs) k=atKey qs k:=by simp [atKey,find?_cons,e']
   rw [zm0 e,b]; exact ih
theorem KT.repl {H:Hp} {kvs:[31]} {xs:List (List Key × Addr × Value)} (r:KT H kvs xs) (k:List Key) {y:V} {u:Value} (ry:RelV y u) :
    KT H (kvs.map λ kv=>if kv.1=k then (kv.1,y) else kv) (xs.map (putAt k u)):=by
 induction r with
 | nil=>exact .nil
 | @cons p q ps qs h t ih =>
  rw [map_cons,map_cons];refine .cons ?_ ih;obtain ⟨h1,h2,h3⟩:=h;unfold putAt;by_cases e:p.1=k
  ·rw [if_pos e,if_pos (h1.symm.trans e)]; exact ⟨h1,h2,ry⟩
  ·rw [if_neg e,if_neg (λ z=>e (h1.trans z))]; exact ⟨h1,h2,h3⟩
theorem KT.put {H:Hp} {kvs:[31]} {xs:List (List Key × Addr × Value)} (r:KT H kvs xs) (k:List Key) {b:Addr} {y:V} {u:Value} (hb:H b=some (.tup (k.map kV))) (ry:RelV y u) :
    KT H (putK kvs k y) (storedH xs k b u):=by
 have e:(kvs.any λ kv=>decide (kv.1=k))=(atKey xs k).isSome:=by
  rw [xw0,(r.val k).isSome_eq,Option.isSome_map]
 unfold putK storedH;rw [e];by_cases q:(atKey xs k).isSome=true
 ·rw [if_pos q,if_pos q]; exact r.repl k ry
 ·rw [if_neg q,if_neg q]; exact Paired.snoc r ⟨rfl,hb,ry⟩
theorem KT.keeps {H H':Hp} {kvs:[31]} {xs:List (List Key × Addr × Value)} (r:KT H kvs xs) (ht:∀ b ys,H b=some (.tup ys)->H' b=some (.tup ys)):KT H' kvs xs :=
 Paired.mapP r λ _ _ z=>⟨z.1,ht _ _ z.2.1,z.2.2⟩
section
variable {prog:Program} {w:World} {K:Type} [DecidableEq K] {knd:HeapKind prog w K} {A:Around} {E:[4]} {s:Shared}
def DHe (knd:HeapKind prog w K) (h:Heap) (d:Addr) (xs:List (K × Addr × Value)) (ep:Nat):Prop :=
 ∃ o es,h.get? d=some o /\ o.ExactDict /\ o.data=.dict es ep /\ es.toList=xs.map (entryOfKey knd) /\ (∀ x ∈ xs,knd.is h x.1 x.2.1) /\ (xs.map (·.1)).Nodup
theorem DHe.of {h:Heap} {d:Addr} {xs:List (K × Addr × Value)} {ep:Nat} (x:DHe knd h d xs ep):h.DictOfH knd d xs:=by
 obtain ⟨o,es,a⟩:=x; exact ⟨o,es,ep,a⟩
theorem DHe.new {d a:Addr} {xs:List (K × Addr × Value)} {k:K} {v:Value} {o:Obj} {es:Array DictEntry} {ep:Nat} {hs:Int} (ho:s.heap.get? d=some o) (hc:o.ExactDict) (hd:o.data=.dict es ep) (he:es.toList=xs.map (entryOfKey knd))
    (his:∀ x ∈ xs,knd.is s.heap x.1 x.2.1) (hn:(xs.map (·.1)).Nodup) (hkey:knd.is s.heap k a) (hno:∀ (j:Nat) (p:Addr × Value),xs[j]? ≠ some (k,p)) (eh:entryOfKey knd (k,a,v)=⟨hs,.ref a,v⟩) :
    DHe knd (s.heap.update d (Obj.mapDictKeys (·.push ⟨hs,.ref a,v⟩))) d (storedH xs k a v) (ep + 1):=by
 have hnot:k ∉ xs.map (·.1):=not_mem_keys_of_get hno;rw [storedH_new (atKey_none_of_get hno)];refine ⟨_,_,Heap.get?_update_self _ ho (Obj.isFreed_of_dict (Obj.data_mapDictKeys hd _)),hc.mapDictKeys _,Obj.data_mapDictKeys hd _,by simp [he,eh],λ c mc=>?_,?_⟩
 ·rcases List.mem_append.mp mc with mc | mc; · exact knd.keeps (his c mc) ho hd (Heap.SameBut.update ..)
  rw [mem_singleton] at mc; subst mc; exact knd.keeps hkey ho hd (Heap.SameBut.update ..)
 ·rw [map_append,nodup_append]; refine ⟨hn,by simp,λ c mc c' mc'=>?_⟩;have e':c'=k:=by simpa using mc'
  subst e'; exact λ e=>hnot (e ▸ mc)
theorem ss3 {d a:Addr} {xs:List (K × Addr × Value)} {k:K} {v:Value} {ep:Nat} {Q:Unit->Shared->Prop} (hu:knd.room A.in1) (hkey:knd.is s.heap k a) (hm:DHe knd s.heap d xs ep) (hsz:xs.length<=sizeLine)
    (hQ:∀ h' ep',ep'=(if (atKey xs k).isSome then ep else ep + 1)->DHe knd h' d (storedH xs k a v) ep'->Heap.SameBut d s.heap h'->Q () { s with heap:=h',toks:=s.toks + knd.draws k }) :
    wpAny [11] A (setItem (.ref d) (.ref a) v) Q E s:=by
 have ty:=hm.of.typeIs;obtain ⟨o,es,ho,hc,hd,he,his,hn⟩:=hm;unfold setItem; try with_reducible refine wpAny_holding ?_
 refine wpAny_bind (wpAny_sequenceKey ty [7] (wpAny_bind (wpAny_callSpecial?_slot (name:=Str.ofString "__setitem__") ty slot_dict_setitem (wpAny_call_entry slot_dict_setitem ty entry_dict_setitem ?_ (args_dict_setitem _ _ _)))));refine (show wpAny _ _ (Builtin.Dict.notOrdered "__setitem__" ⟨[.ref d,.ref a,v],[]⟩ >>= _) _ _ s from wpAny_bind (wpAny_notOrdered_dict ty ?_));refine (show wpAny _ _ (dictSet d (.ref a) v >>= _) _ _ s from wpAny_bind ?_);unfold dictSet; try with_reducible refine wpAny_holding ?_
 refine wpAny_bind (knd.pyHash hu hkey ?_); unfold dictSetHashed; try with_reducible refine wpAny_holding ?_
 refine wpAny_bind (wpAny_dictFind_heap (s:={ s with toks:=s.toks + knd.draws k }) hu hkey ho hd he his hn (λ hno=>?_) λ j p hj=>?_)
 ·refine wpAny_bind (wpAny_rule (wpAny_updateDictKeys (hz:=by have e:=size_of_entries he; omega) (s:={ s with toks:=s.toks + knd.draws k }) ho hd (wpAny_pure ⟨.none,rfl,wpAny_pure (hQ _ (ep + 1) (by rw [atKey_none_of_get hno]; rfl) (DHe.new ho hc hd he his hn hkey hno rfl) (Heap.SameBut.update ..))⟩)))
 ·have ak:=atKey_of_get hn hj;refine wpAny_bind (wpAny_rule (wpAny_bind (wpAny_updateDict (s:={ s with toks:=s.toks + knd.draws k }) ho hd (wpAny_point (wpAny_pure ⟨.none,rfl,wpAny_pure (hQ _ ep (by rw [ak]; rfl) ⟨_,_,Heap.get?_update_self _ ho (Obj.isFreed_of_dict (Obj.data_mapDict hd _)),hc.mapDict _,Obj.data_mapDict hd _,?_,?_,?_⟩ (Heap.SameBut.update ..))⟩)))))
  ·rw [storedH_old ak]; have z:=modify_map_putAt (entryOfKey knd) (λ e:DictEntry=>{ e with val:=v }) k v (λ _ _=>rfl) hn hj;rw [<- he] at z; obtain ⟨l⟩:=es; simpa using z
  ·rw [storedH_old ak]; intro c mc; obtain ⟨y,my,rfl⟩:=List.mem_map.mp mc; unfold putAt; split <;> exact knd.keeps (his y my) ho hd (Heap.SameBut.update ..)
  ·rw [storedH_old ak,keys_map_putAt]; exact hn
theorem ww1 {d a:Addr} {xs:List (K × Addr × Value)} {k:K} {v:Value} {ep:Nat} {Q:[4]} (hu:knd.room A) (hkey:knd.is s.heap k a) (hm:DHe knd s.heap d xs ep) (hsz:xs.length<=sizeLine)
    (h1:∀ p,atKey xs k=some p->Q p.2 { s with toks:=s.toks + knd.draws k })
    (h2:atKey xs k=none->∀ h',DHe knd h' d (storedH xs k a v) (ep + 1)->Heap.SameBut d s.heap h'->Q v { s with heap:=h',toks:=s.toks + knd.draws k }) :
    wpAny [11] A (dictSetDefault d (.ref a) v) Q E s:=by
 obtain ⟨o,es,ho,hc,hd,he,his,hn⟩:=hm;unfold dictSetDefault; try with_reducible refine wpAny_holding ?_
 refine wpAny_bind (knd.pyHash hu hkey (wpAny_bind (wpAny_dictFind_heap (s:={ s with toks:=s.toks + knd.draws k }) hu hkey ho hd he his hn (λ hno=>?_) λ j p hj=>?_)))
 ·exact wpAny_bind (wpAny_rule (wpAny_bind (wpAny_updateDictKeys (hz:=by have e:=size_of_entries he; omega) (s:={ s with toks:=s.toks + knd.draws k }) ho hd (wpAny_pure (h2 (atKey_none_of_get hno) _ (DHe.new ho hc hd he his hn hkey hno rfl) (Heap.SameBut.update ..))))))
 ·refine wpAny_bind (wpAny_dictEntries (s:={ s with toks:=s.toks + knd.draws k }) ho hd ?_); rw [entry_at he j,hj];exact wpAny_bind (wpAny_rule (wpAny_pure (h1 p (atKey_of_get hn hj))))
end
theorem xc2 {κ:Type} [DecidableEq κ] (kvs:List (κ × V)) (k:κ) (v:V):(putK kvs k v).length=if (valV kvs k).isSome then kvs.length else kvs.length + 1:=by
 unfold putK; rw [xw0]; split <;> simp
section
variable {P:Program} {w:World} {H:Hp} {h:Heap} {a:Addr}
theorem wa4 {u:HO} (ok:HOk P w H h) (e:Rd H a u):ObjOk P w H h a u:=e.ok ok
theorem xt1 {kvs:List (Key × V)} (ok:HOk P w H h) (e:Rd H a (.dK kvs)):kvs.length<=sizeLine /\ (a == sysModules)=false /\ ∃ vs,KV kvs vs /\ h.DictOf (we0 P w) a vs :=
 show ObjOk P w H h a (.dK kvs) from wa4 ok e
theorem yw4 {kvs:List (Key × V)} (ok:HOk P w H h) (e:H a=some (.dK kvs)):kvs.length<=sizeLine /\ (a == sysModules)=false /\ ∃ vs,KV kvs vs /\ h.DictOf (we0 P w) a vs:=xt1 ok (.inl e)
theorem xs0 {ks:List Key} (ok:HOk P w H h) (e:H a=some (.tup (ks.map kV))):(tupleKind (we0 P w)).is h ks a:=by
 obtain ⟨_,its,r,o,h1,h2,n,h3⟩:=(show ObjOk P w H h a (.tup (ks.map kV)) from ok a _ e);exact ⟨o,its.toArray,n,h1,h2,h3,by simpa using vc1 r⟩
theorem ss0 {kvs:[31]} (ok:HOk P w H h) (e:Rd H a (.dT kvs)):kvs.length<=sizeLine /\ (a == sysModules)=false ∧
    ∃ xs,KT H kvs xs /\ DHe (tupleKind (we0 P w)) h a xs kvs.length:=by
 obtain ⟨z,y,xs,r,o,es,ep,h1,h2,h3,h4,h5,h6⟩:=(show ObjOk P w H h a (.dT kvs) from wa4 ok e);subst h6;refine ⟨z,y,xs,r,o,es,h1,h2,h3,h4,λ x hx=>?_,h5⟩
 have all:∀ {l:[31]} {m:List (List Key × Addr × Value)},KT H l m->∀ x ∈ m,(tupleKind (we0 P w)).is h x.1 x.2.1:=by
  intro l m q
  induction q with
  | nil=>intro x hx; exact nomatch hx
  | @cons p q ps qs hq t ih =>
   intro x hx;rcases List.mem_cons.mp hx with e | hx
   ·subst e;exact xs0 ok (by rw [<- hq.1]; exact hq.2.1)
   ·exact ih x hx
 exact all r x hx
theorem uf2 {kvs:[31]} (ok:HOk P w H h) (e:Rd H a (.dT kvs)):kvs.length<=sizeLine /\ (a == sysModules)=false /\ ∃ xs,KT H kvs xs /\ h.DictOfH (tupleKind (we0 P w)) a xs:=by
 obtain ⟨z,y,xs,r,d⟩:=ss0 ok e; exact ⟨z,y,xs,r,d.of⟩
end
def DGet (H:Hp) (a:Addr) (y:V) (r:Option V):Prop :=
 (∃ kvs k,Rd H a (.dK kvs) /\ y=kV k /\ r=valV kvs k) \/ ∃ kvs k b,Rd H a (.dT kvs) /\ y=.ref b /\ H b=some (.tup (k.map kV)) /\ r=valV kvs k
def DPut (H:Hp) (a:Addr) (y v:V) (H':Hp):Prop :=
 (∃ kvs k,H a=some (.dK kvs) /\ y=kV k /\ kvs.length < sizeLine /\ H'=upd H a (.dK (putK kvs k v))) ∨
 ∃ kvs k b,H a=some (.dT kvs) /\ y=.ref b /\ H b=some (.tup (k.map kV)) /\ kvs.length < sizeLine /\ H'=upd H a (.dT (putK kvs k v))
theorem DGet.k {H:Hp} {a:Addr} {kvs:List (Key × V)} {k:Key} (e:H a=some (.dK kvs)):DGet H a (kV k) (valV kvs k):=.inl ⟨kvs,k,.inl e,rfl,rfl⟩
theorem DGet.t {H:Hp} {a b:Addr} {kvs:[31]} {k:List Key} (e:H a=some (.dT kvs)) (eb:H b=some (.tup (k.map kV))):DGet H a (.ref b) (valV kvs k):=.inr ⟨kvs,k,b,.inl e,rfl,eb,rfl⟩
theorem DPut.k {H:Hp} {a:Addr} {kvs:List (Key × V)} {k:Key} {v:V} (e:H a=some (.dK kvs)) (hl:kvs.length < sizeLine):DPut H a (kV k) v (upd H a (.dK (putK kvs k v))):=.inl ⟨kvs,k,e,rfl,hl,rfl⟩
theorem DPut.t {H:Hp} {a b:Addr} {kvs:[31]} {k:List Key} {v:V} (e:H a=some (.dT kvs)) (eb:H b=some (.tup (k.map kV))) (hl:kvs.length < sizeLine) :
    DPut H a (.ref b) v (upd H a (.dT (putK kvs k v))):=.inr ⟨kvs,k,b,e,rfl,eb,hl,rfl⟩
section
variable {X:Cx} {pins:[5]} {σ:St} {H:Hp} {s:Shared} {a:Addr} {y v:V} {u r:Value} {o:Option V} {A:Around} {E:[4]}
theorem Inv.big (I:[6]):sysModules < s.heap.objs.size:=by
 have h:mainGlobals < s.heap.objs.size:=(I.mod.glob.keeps I.bk).lt;exact Nat.lt_trans [7] h
theorem zh2 {Q:[4]} (hu:A.units + 1 < cLine) (I:[6]) (g:DGet H a y (some v)) (ry:RelV y u) (h:∀ w' s',Inv X pins σ H s'->RelV v w'->Q w' s') :
    wpAny [9] A (getItem (.ref a) u) Q E s:=by
 rcases g with ⟨kvs,k,e,ey,l⟩ | ⟨kvs,k,b,e,ey,eb,l⟩
 ·subst ey;obtain ⟨z,hd,vs,rel,dd⟩:=xt1 I.hok e;obtain ⟨w',hw,rw'⟩:=RelO.some_of (v:=v) (o:=valueAt vs k) (by rw [l]; exact rel.val k);exact wpAny_getItem_of (ws1 ry) dd.mapOf hw (h w' _ (I.tok _) rw')
 ·subst ey;cases (show u=Value.ref b from ry);obtain ⟨z,hd,xs,rel,dd⟩:=uf2 I.hok e;obtain ⟨w',hw,rw'⟩:=RelO.some_of (v:=v) (o:=(atKey xs k).map (·.2)) (by rw [l]; exact rel.val k);obtain ⟨p,hp,hp2⟩:=Option.map_eq_some_iff.mp hw;refine wpAny_getItem_heap (tupleKind_room_in1 hu) (xs0 I.hok eb) dd hp ?_;rw [hp2];exact h w' _ (I.tok _) rw'
theorem d_in {Q:[4]} (hu:A.units + 1 < cLine) (I:[6]) (g:DGet H a y o) (ry:RelV y u) (h:∀ s',Inv X pins σ H s'->Q (.bool o.isSome) s') :
    wpAny [9] A (compareOp .In u (.ref a)) Q E s:=by
 rcases g with ⟨kvs,k,e,ey,l⟩ | ⟨kvs,k,b,e,ey,eb,l⟩
 ·subst ey;obtain ⟨z,hd,vs,rel,dd⟩:=xt1 I.hok e;refine wpAny_in_of (ws1 ry) hd dd.mapOf ?_;rw [<- (rel.val k).isSome_eq,<- l];exact h _ (I.tok _)
 ·subst ey;cases (show u=Value.ref b from ry);obtain ⟨z,hd,xs,rel,dd⟩:=uf2 I.hok e;refine wpAny_in_heap (tupleKind_room_in1 hu) (xs0 I.hok eb) hd dd ?_;have q:=(rel.val k).isSome_eq;rw [Option.isSome_map] at q;rw [<- q,<- l];exact h _ (I.tok _)
theorem yh2 {Q:[4]} (hu:A.units + 1 < cLine) (I:[6]) (g:DGet H a y o) (ry:RelV y u) (h:∀ s',Inv X pins σ H s'->Q (.bool (!o.isSome)) s') :
    wpAny [9] A (compareOp .NotIn u (.ref a)) Q E s:=by
 rcases g with ⟨kvs,k,e,ey,l⟩ | ⟨kvs,k,b,e,ey,eb,l⟩
 ·subst ey;obtain ⟨z,hd,vs,rel,dd⟩:=xt1 I.hok e;refine wpAny_notIn_of (ws1 ry) hd dd.mapOf ?_;rw [<- (rel.val k).isSome_eq,<- l];exact h _ (I.tok _)
 ·subst ey;cases (show u=Value.ref b from ry);obtain ⟨z,hd,xs,rel,dd⟩:=uf2 I.hok e;refine wpAny_notIn_heap (tupleKind_room_in1 hu) (xs0 I.hok eb) hd dd ?_;have q:=(rel.val k).isSome_eq;rw [Option.isSome_map] at q;rw [<- q,<- l];exact h _ (I.tok _)
theorem uh1 {h':Heap} {t':Nat} {ob:HO} (I:[6]) (mu:Mut (H a)) (hs:Heap.SameBut a s.heap h') (he:∃ q,h'.get? a=some q) (new:ObjOk X.prog X.w (upd H a ob) h' a ob) :
    Inv X pins σ (upd H a ob) { s with heap:=h',toks:=t' } :=
 I.write (x:=a) (e:=a) mu (.inl rfl) (λ b q hb z=>(hs.2 b hb).trans z) he new
theorem vj4 {P:Program} {w:World} {H':Hp} {h':Heap} {kvs:List (Key × V)} {vs:List (Key × Value)} (z:kvs.length<=sizeLine) (hd:(a == sysModules)=false) (rel:KV kvs vs) (dd:h'.DictOf (we0 P w) a vs) :
    ObjOk P w H' h' a (.dK kvs):=⟨z,hd,vs,rel,dd⟩
theorem xh2 {H':Hp} {Q:Unit->Shared->Prop} (hu:A.units + 1 < cLine) (I:[6]) (g:DPut H a y v H') (ry:RelV y u) (rv:RelV v r) (h:∀ s',Inv X pins σ H' s'->Q () s') :
    wpAny [9] A (setItem (.ref a) u r) Q E s:=by
 rcases g with ⟨kvs,k,e,ey,l,eH⟩ | ⟨kvs,k,b,e,ey,eb,l,eH⟩
 ·subst ey eH;obtain ⟨z,hd,vs,rel,dd⟩:=yw4 I.hok e;have hz:vs.length<=sizeLine:=by rw [<- rel.length]; exact z
  have hl:(putK kvs k v).length<=sizeLine:=by have:=ul0 kvs k v; omega
  refine wpAny_setItem_pairs (hsz:=hz) (ws1 ry) dd λ h' dd' hs=>h _ ?_;have he:∃ q,h'.get? a=some q:=let ⟨q,_,_,hq,_⟩:=dd'; ⟨q,hq⟩
  exact uh1 I (by rw [e]; exact True.intro) hs he (vj4 hl hd (rel.put k rv) dd')
 ·subst ey eH;cases (show u=Value.ref b from ry);obtain ⟨z,hd,xs,rel,dd⟩:=ss0 I.hok (.inl e);have hz:xs.length<=sizeLine:=by rw [<- Paired.length rel]; exact z
  have hl:(putK kvs k v).length<=sizeLine:=by have:=ul0 kvs k v; omega
  refine ss3 (tupleKind_room_in1 hu) (xs0 I.hok eb) dd hz λ h' ep' e1 dd' hs=>h _ ?_;obtain ⟨q,es,hq,h2,h3,h4,_,h5⟩:=dd';have e2:ep'=(putK kvs k v).length:=by rw [e1,xc2,(rel.val k).isSome_eq,Option.isSome_map]
  refine uh1 I (by rw [e]; exact True.intro) hs ⟨q,hq⟩ ⟨hl,hd,_,(rel.put k eb rv).keeps λ c ys ec=>?_,q,es,ep',hq,h2,h3,h4,h5,e2⟩;rw [vc0 (xc1 ec e (λ z=>nomatch z))];exact ec
end
def NoSl (i:Expr):Prop:=∀ ov iv,subscripted i false ov iv=operate [ov,iv] (getItem ov iv)
theorem wa3 {prog:Program} {w:World} {A:Around} {E:[4]} {s:Shared} {env:Env} {value slice:Expr} {pos:Pos} {T id:String} {Q:[4]}
    (hl:typeLookup (.type T) "__getitem__" = pure (some (.builtin id))) (hs:NoSl slice)
    (h:wpAny [11] A (eval value env) (λ o s₁=>wpAny [11] A (eval slice env) (λ i s₂=>s₂.TypeIs o T /\ wpAny [11] A (getItem o i) Q E s₂) E s₁) E s) :
    wpAny [11] A (eval (.Subscript value slice pos) env) Q E s:=by
 refine Subscript_ (wpAny_mono h (λ o s₁ h₁=>wpAny_mono h₁ (λ i s₂ h₂=>?_) λ _ _ x=>x) λ _ _ x=>x);obtain ⟨hT,h₂⟩:=h₂;unfold subscriptTail;refine wpAny_bind ?_;rw [getitemInPython_of_ne hT.not_modules];refine wpAny_bind (wpAny_specialOf hT hl ?_)
 have fin:wpAny [11] A (subscripted slice false o i) (λ r s₃=>wpAny [11] A (letTemporaryGo value o r >>= λ _=>pure r) Q E s₃) E s₂:=by
  rw [hs o i];exact wpAny_operating (wpAny_mono h₂ (λ r s₃ h₃=>wpAny_bind (wpAny_letTemporaryGo (wpAny_pure h₃))) λ _ _ x=>x)
 first
  | exact wpAny_pure (wpAny_bind fin)
  | exact wpAny_bind (wpAny_pure (wpAny_bind fin))
  | exact wpAny_bind fin
theorem wh1 {X:Cx} {pins:[5]} {σ:St} {H:Hp} {s:Shared} {a:Addr} {y:V} {o:Option V} (I:[6]) (g:DGet H a y o):s.TypeIs (.ref a) "dict" := by
 rcases g with ⟨kvs,k,e,_,_⟩ | ⟨kvs,k,b,e,_,_,_⟩
 ·obtain ⟨_,_,vs,_,dd⟩:=xt1 I.hok e;exact dd.typeIs
 ·obtain ⟨_,_,xs,_,dd⟩:=uf2 I.hok e;exact dd.typeIs
def sm4 (td ty:TE):TE:=λ σ H Q=>td σ H λ x H1=>ty σ H1 λ y H2=>∃ a v,x=.ref a /\ DGet H2 a y (some v) /\ Q v H2
def vo4 (td ty tv:TE):TS:=λ D σ H=>tv σ H λ v H1=>td σ H1 λ x H2=>ty σ H2 λ y H3=>∃ a H4,x=.ref a /\ DPut H3 a y v H4 /\ D.nx σ H4
section
variable {X:Cx} {o i e value:Expr} {pos pos' tpos:Pos} {td ty tv:TE}
theorem uf3 (hu:X.A.units + 1 < cLine) (ho:PE X o td) (hi:PE X i ty) (hs:NoSl i):PE X (.Subscript o i pos) (sm4 td ty):=by
 intro pins s σ H Q I h;refine wa3 PySem.F.slot_dict_getitem.lookup hs (thn (ho pins s σ H _ I h) λ u s1 ⟨x,H1,I1,rx,q1⟩=>thn (hi pins s1 σ H1 _ I1 q1) λ iv s2 ⟨y,H2,I2,ry,a,v,ex,g,q2⟩=>?_);subst ex;obtain rfl:u=Value.ref a:=rx;exact ⟨wh1 I2 g,zh2 hu I2 g ry λ w' s3 I3 rw'=>⟨v,H2,I3,rw',q2⟩⟩
theorem yz1 (hu:X.A.units + 1 < cLine) (ho:PE X o td) (hi:PE X i ty) (hv:PE X value tv) (hs:swapsWith value (some (.Subscript o i pos')) pos.line X.env=pure false) :
    PS X (.Assign [.Subscript o i pos'] value pos) (vo4 td ty tv):=by
 intro pins s σ H D I h;refine wpAny_Assign_Subscript (thn (hv pins s σ H _ I h) λ r s1 ⟨v,H1,I1,rv,q1⟩=>thn (ho pins s1 σ H1 _ I1 q1) λ u s2 ⟨x,H2,I2,rx,q2⟩=>thn (hi pins s2 σ H2 _ I2 q2) λ iv s3 ⟨y,H3,I3,ry,a,H4,ex,g,q3⟩=>?_) hs;subst ex;obtain rfl:u=Value.ref a:=rx;exact xh2 hu I3 g ry rv λ s4 I4=>⟨σ,H4,I4,q3⟩
end
theorem xr2 {P:Program} {w:World} {H:Hp} (h:Heap) (hb:sysModules < h.objs.size):ObjOk P w H (h.push { cls:=.type "dict",data:=.dict #[] }) h.objs.size (.dK []) :=
 ⟨Nat.zero_le _,beq_eq_false_iff_ne.mpr (Ne.symm (Nat.ne_of_lt hb)),[],.nil,Heap.DictOf.new h⟩
theorem sq2 {P:Program} {w:World} {H:Hp} (h:Heap) (hb:sysModules < h.objs.size):ObjOk P w H (h.push { cls:=.type "dict",data:=.dict #[] }) h.objs.size (.dT []) :=
 ⟨Nat.zero_le _,beq_eq_false_iff_ne.mpr (Ne.symm (Nat.ne_of_lt hb)),[],.nil,_,#[],0,Heap.get?_push_size _ rfl,⟨rfl,rfl,rfl⟩,rfl,rfl,nodup_nil,rfl⟩
def vr3:TE:=λ _ H Q=>∀ p,H p=none->Q (.ref p) (upd H p (.dK []))
def wr3:TE:=λ _ H Q=>∀ p,H p=none->Q (.ref p) (upd H p (.dT []))
section
variable {X:Cx} {pos:Pos}
theorem xo2:PE X (.Dict [] [] pos) vr3:=λ pins s σ H Q I h =>
 wpAny_Dict_empty ⟨.ref s.heap.objs.size,_,I.laid (a:=s.heap.objs.size) (o:=.dK []) (t':=s.toks) (λ _ _ q=>Heap.get?_push_of_some _ q) [14] (xr2 s.heap I.big),rfl,h _ (I.hok.fresh [14])⟩
theorem sn2:PE X (.Dict [] [] pos) wr3:=λ pins s σ H Q I h =>
 wpAny_Dict_empty ⟨.ref s.heap.objs.size,_,I.laid (a:=s.heap.objs.size) (o:=.dT []) (t':=s.toks) (λ _ _ q=>Heap.get?_push_of_some _ q) [14] (sq2 s.heap I.big),rfl,h _ (I.hok.fresh [14])⟩
end
section
variable {X:Cx} {pins:[5]} {σ:St} {H:Hp} {s:Shared} {a:Addr} {y d:V} {u r:Value} {o:Option V} {A:Around} {E:[4]}
theorem yk4 {Q:[4]} (hu:A.units + 1 < cLine) (I:[6]) (g:DGet H a y o) (ry:RelV y u) (rd:RelV d r) (h:∀ w' s',Inv X pins σ H s'->RelV (o.getD d) w'->Q w' s') :
    wpAny [9] A (call (.builtin "dict.get") [.ref a,u,r]) Q E s:=by
 rcases g with ⟨kvs,k,e,ey,l⟩ | ⟨kvs,k,b,e,ey,eb,l⟩
 ·subst ey;obtain ⟨z,hd,vs,rel,dd⟩:=xt1 I.hok e;refine call_meetsIn slot_dict_get dd.typeIs entry_dict_get (PySem.F.args_dict_get_3 _ _ _) (meets_dict_get_default (we0 X.prog X.w) a (ws1 ry) hd r) ⟨_,dd.mapOf,h _ _ (I.tok _) ?_⟩;rw [l];exact (rel.val k).getD rd
 ·subst ey;cases (show u=Value.ref b from ry);obtain ⟨z,hd,xs,rel,dd⟩:=uf2 I.hok e;refine call_meetsIn slot_dict_get dd.typeIs entry_dict_get (PySem.F.args_dict_get_3 _ _ _) (meetsH_dict_get_default (tupleKind (we0 X.prog X.w)) a b hd r) ⟨tupleKind_room_in1 hu,k,xs,xs0 I.hok eb,dd,h _ _ (I.tok _) ?_⟩;rw [l];exact (rel.val k).getD rd
end
end L2
namespace Pv
open PySem PySem.Spec PyProof.Rows L2
def keyI:D->Option (List Int)
 | .tup l=>ints? l
 | _=>none
def valL (kvs:List (List Int × D)) (k:List Int):Option D:=(kvs.find? λ kv=>decide (kv.1=k)).map (·.2)
def putL (kvs:List (List Int × D)) (k:List Int) (y:D):List (List Int × D):=if (kvs.any λ kv=>decide (kv.1=k))=true then kvs.map (λ kv=>if kv.1=k then (kv.1,y) else kv) else kvs ++ [(k,y)]
def dnl3:TE3:=λ _ μ Q=>∀ p,μ p=none->Q (.ref p) (updM μ p (.dcl []))
def dgR:R3:=λ x y μ Q=>match x,keyI y with
 | .ref p,some k=>match μ p with
  | some (.dcl kvs)=>match valL kvs k with
   | some v=>Q v μ
   | none=>False
  | _=>False
 | _,_=>False
def dinR (neg:Bool):R3:=λ y x μ Q=>match x,keyI y with
 | .ref p,some k=>match μ p with
  | some (.dcl kvs)=>Q (.bl (if neg then !(valL kvs k).isSome else (valL kvs k).isSome)) μ
  | _=>False
 | _,_=>False
def xo0 (to ti tv:TE3):TS3:=λ D' ρ μ=>tv ρ μ λ v μ1=>to ρ μ1 λ x μ2=>ti ρ μ2 λ y μ3=>match x,keyI y with
 | .ref p,some k=>match μ3 p with
  | some (.dcl kvs)=>kvs.length < 90000 /\ D'.nx ρ (updM μ3 p (.dcl (putL kvs k v)))
  | _=>False
 | _,_=>False
theorem Kp.wrD {H:Hp} {p:Addr} {o:HO} {xs:[31]} (h:H p=some (.dT xs)):Kp H (upd H p o) :=
 ⟨λ b ys q=>by rw [vc0 (xc1 q h (by intro z; cases z))]; exact q,λ b o u q=>by rw [vc0 (xc1 q h (by intro z; cases z))]; exact q⟩
theorem RelM.newC {K:Fg} {μ:Mu} {H:Hp} {p:Addr} (h:H p=none) (m:RelM K μ H):RelM K (updM μ p (.dcl [])) (upd H p (.dT [])):=by
 have m':=m.newT (o:=.dT []) h;refine ⟨λ q ys e=>?_,λ q c fs e=>?_,λ q kvs e=>?_,λ q kvs e=>?_⟩
 ·by_cases z:q=p
  ·subst z; rw [za0] at e; cases e
  ·rw [sa0 z] at e; exact m'.lst q ys e
 ·by_cases z:q=p
  ·subst z; rw [za0] at e; cases e
  ·rw [sa0 z] at e; exact m'.ins q c fs e
 ·by_cases z:q=p
  ·subst z; rw [za0] at e; cases e
  ·rw [sa0 z] at e; exact m'.dck q kvs e
 ·by_cases z:q=p
  ·subst z; rw [za0] at e; cases e; exact ⟨[],ve0,.nil⟩
  ·rw [sa0 z] at e; exact m'.dcl q kvs e
theorem RelM.wrC {K:Fg} {μ:Mu} {H:Hp} {p:Addr} {kvs:List (List Int × D)} {vs ws:[31]} (h:H p=some (.dT ws)) (r:RelKl K H kvs vs) (m:RelM K μ H):RelM K (updM μ p (.dcl kvs)) (upd H p (.dT vs)):=by
 refine ⟨λ q ys e=>?_,λ q c fs e=>?_,λ q ks e=>?_,λ q ks e=>?_⟩
 ·by_cases z:q=p
  ·subst z; rw [za0] at e; cases e
  ·rw [sa0 z] at e;obtain ⟨us,q1,r1⟩:=m.lst q ys e;exact ⟨us,by rw [vc0 z]; exact q1,r1.mono (Kp.wrD h)⟩
 ·by_cases z:q=p
  ·subst z; rw [za0] at e; cases e
  ·rw [sa0 z] at e;obtain ⟨C,dx,us,n,q1,q2,r1⟩:=m.ins q c fs e;refine ⟨C,dx,us,n,by rw [vc0 z]; exact q1,?_,r1.mono (Kp.wrD h)⟩;rw [vc0]
   ·exact q2
   ·intro y; subst y; rw [h] at q2; cases q2
 ·by_cases z:q=p
  ·subst z; rw [za0] at e; cases e
  ·rw [sa0 z] at e;obtain ⟨us,q1,r1⟩:=m.dck q ks e;exact ⟨us,by rw [vc0 z]; exact q1,r1.mono (Kp.wrD h)⟩
 ·by_cases z:q=p
  ·subst z; rw [za0] at e; cases e; exact ⟨vs,ve0,r.mono (Kp.wrD h)⟩
  ·rw [sa0 z] at e;obtain ⟨us,q1,r1⟩:=m.dcl q ks e;exact ⟨us,by rw [vc0 z]; exact q1,r1.mono (Kp.wrD h)⟩
theorem sm1:∀ {a b:List Int},kL a=kL b->a=b
 | [],[],_=>rfl
 | [],_ :: _,h=>by cases h
 | _ :: _,[],h=>by cases h
 | x :: a,y :: b,h=>by
  have h':(Sum.inl x:Key) :: kL a=Sum.inl y :: kL b:=h;injection h' with h1 h2
  cases h1;rw [sm1 h2]
theorem RelKl.len {K:Fg} {H:Hp} {l:List (List Int × D)} {vs:[31]} (r:RelKl K H l vs):l.length=vs.length:=by
 induction r with
 | nil=>rfl
 | cons _ _ ih=>rw [length_cons,length_cons,ih]
theorem RelKl.any {K:Fg} {H:Hp} {t:List Int} {l:List (List Int × D)} {vs:[31]} (r:RelKl K H l vs):(vs.any λ kv=>decide (kv.1=kL t))=l.any λ kv=>decide (kv.1=t):=by
 induction r with
 | nil=>rfl
 | cons _ _ ih =>
  rw [any_cons,any_cons,ih];congr 1;rw [decide_eq_decide];exact ⟨sm1,λ h=>congrArg kL h⟩
theorem RelKl.val {K:Fg} {H:Hp} {t:List Int} {l:List (List Int × D)} {vs:[31]} (r:RelKl K H l vs):(valL l t=none /\ valV vs (kL t)=none) \/ ∃ d v,valL l t=some d /\ valV vs (kL t)=some v /\ RelD K H d v:=by
 induction r with
 | nil=>exact .inl ⟨rfl,rfl⟩
 | cons h _ ih =>
  rename_i t' d' v' l' vs' _;by_cases c:t'=t
  ·subst c;exact .inr ⟨d',v',by simp [valL],ym0 rfl,h⟩
  ·have e1:valL ((t',d') :: l') t=valL l' t:=by simp [valL,c]
   rw [e1,zm0 (p:=(kL t',v')) (λ z=>c (sm1 z))];exact ih
theorem RelKl.rep {K:Fg} {H:Hp} {t:List Int} {y:D} {v:V} (ry:RelD K H y v) {l:List (List Int × D)} {vs:[31]} (r:RelKl K H l vs):RelKl K H (l.map λ kv=>if kv.1=t then (kv.1,y) else kv) (vs.map λ kv=>if kv.1=kL t then (kv.1,v) else kv):=by
 induction r with
 | nil=>exact .nil
 | cons h _ ih =>
  rename_i t' d' v' l' vs' _;rw [map_cons,map_cons];by_cases c:t'=t
  ·rw [if_pos c,if_pos (by rw [c])]; exact .cons ry ih
  ·rw [if_neg c,if_neg (λ z=>c (sm1 z))]; exact .cons h ih
theorem RelKl.snoc {K:Fg} {H:Hp} {t:List Int} {y:D} {v:V} (ry:RelD K H y v) {l:List (List Int × D)} {vs:[31]} (r:RelKl K H l vs):RelKl K H (l ++ [(t,y)]) (vs ++ [(kL t,v)]):=by
 induction r with
 | nil=>exact .cons ry .nil
 | cons h _ ih=>exact .cons h ih
theorem RelKl.put {K:Fg} {H:Hp} {t:List Int} {y:D} {v:V} (ry:RelD K H y v) {l:List (List Int × D)} {vs:[31]} (r:RelKl K H l vs):RelKl K H (putL l t y) (putK vs (kL t) v):=by
 unfold putL putK;rw [r.any];split
 ·exact r.rep ry
 ·exact r.snoc ry
theorem wn1 {K:Fg} {H:Hp}:∀ {l:List D} {vs:List V} {k:List Int},RelDs K H l vs->ints? l=some k->vs=(kL k).map kV
 | _,_,k,.nil,e=>by simp [ints?] at e; subst e; rfl
 | _,_,k,.cons h r,e=>by
  cases h with
  | int x =>
   simp only [ints?] at e;split at e
   ·next ys e1 =>
    simp only [Option.some.injEq] at e;subst e;rw [wn1 r e1]; rfl
   ·cases e
  | _=>simp [ints?] at e
theorem ys0 {K:Fg} {H:Hp} {y:D} {v:V} {k:List Int} (r:RelD K H y v) (e:keyI y=some k):∃ b,v=.ref b /\ H b=some (.tup ((kL k).map kV)):=by
 cases r with
 | tup hq rs=>exact ⟨_,rfl,by rw [<- wn1 rs e]; exact hq⟩
 | _=>simp [keyI] at e
section
variable {X:Cx} {pos pos':Pos}
theorem zb1:RE X (.Dict [] [] pos) dnl3:=⟨_,sn2,λ σ H Q ρ μ Q3 s m h k p hp=>k _ _ _ _ (h p (m.free hp)) (Kp.new hp) (.ref p) (m.newC hp)⟩
theorem vf1 {o i:Expr} {to ti:TE3} (hu:X.A.units + 64 < cLine) (ho:RE X o to) (hi:RE X i ti) (hs:NoSl i:=by intro _ _; rfl):RE X (.Subscript o i pos) (o3 dgR to ti):=by
 obtain ⟨vo,po,ro⟩:=ho;obtain ⟨vi,pi,ri⟩:=hi;refine ⟨_,uf3 [2] po pi hs,λ σ H Q ρ μ Q3 s m h k=>ro σ H _ ρ μ _ s m h λ x μ1 a H1 h1 k1 r1 m1=>ri σ H1 _ ρ μ1 _ (s.mono k1) m1 h1 λ y μ2 b H2 h2 k2 r2 m2=>?_⟩;unfold dgR at h2;split at h2
 ·next p kk ek =>
  split at h2
  ·next kvs e =>
   split at h2
   ·next v ev =>
    cases r1;obtain ⟨ws,hw,rk⟩:=m2.dcl p kvs e;obtain ⟨b',rfl,hb⟩:=ys0 r2 ek;rcases rk.val (t:=kk) with ⟨z,_⟩ | ⟨d,w,z1,z2,rd⟩
    ·rw [ev] at z; cases z
    ·rw [ev] at z1;cases z1;have g:=DGet.t (k:=kL kk) hw hb;rw [z2] at g;exact ⟨p,w,rfl,g,k _ _ _ _ h2 (k1.trans k2) rd m2⟩
   ·exact h2.elim
  ·exact h2.elim
 ·exact h2.elim
theorem xs4 (neg:Bool) (hu:X.A.units + 64 < cLine):RO X (compareOp (if neg then .NotIn else .In)) (dinR neg):=by
 refine ⟨λ y x H Q=>∃ a o,x=.ref a /\ DGet H a y o /\ Q (.bl (if neg then !o.isSome else o.isSome)) H,?_,λ y x b a H Q μ Q3 m ry rx h k=>?_⟩
 ·intro pins s σ H y x u v Q I ry rx h;obtain ⟨a,o,rfl,g,q⟩:=h;cases rx;cases neg with
  | true=>exact yh2 [2] I g ry λ s' I'=>⟨.bl (!o.isSome),H,I',rfl,q⟩
  | false=>exact d_in [2] I g ry λ s' I'=>⟨.bl o.isSome,H,I',rfl,q⟩
 ·unfold dinR at h;split at h
  ·next p kk ek =>
   split at h
   ·next kvs e =>
    cases rx;obtain ⟨ws,hw,rk⟩:=m.dcl p kvs e;obtain ⟨b',rfl,hb⟩:=ys0 ry ek;refine ⟨p,_,rfl,DGet.t (k:=kL kk) hw hb,?_⟩
    have es:(valV ws (kL kk)).isSome=(valL kvs kk).isSome:=by
     rcases rk.val (t:=kk) with ⟨z1,z2⟩ | ⟨d,w,z1,z2,_⟩ <;> rw [z1,z2] <;> rfl
    rw [es];exact k _ _ _ _ h (Kp.refl _) (.bl _) m
   ·exact h.elim
  ·exact h.elim
theorem vv2 (hu:X.A.units + 64 < cLine):RO X (compareOp .NotIn) (dinR true):=xs4 true hu
theorem wn0 {o i value:Expr} {to ti tv:TE3} (hu:X.A.units + 64 < cLine) (ho:RE X o to) (hi:RE X i ti) (hv:RE X value tv) (hs:swapsWith value (some (.Subscript o i pos')) pos.line X.env=pure false:=by rfl) :
    RS X (.Assign [.Subscript o i pos'] value pos) (xo0 to ti tv):=by
 obtain ⟨vo,po,ro⟩:=ho;obtain ⟨vi,pi,ri⟩:=hi;obtain ⟨vv,pv,rv⟩:=hv
 refine ⟨_,yz1 [2] po pi pv hs,λ σ H D ρ μ D3 s m h k=>rv σ H _ ρ μ _ s m h λ y μ1 v H1 h1 k1 r1 m1=>ro σ H1 _ ρ μ1 _ (s.mono k1) m1 h1 λ d μ2 x H2 h2 k2 r2 m2 =>
  ri σ H2 _ ρ μ2 _ (s.mono (k1.trans k2)) m2 h2 λ kd μ3 b H3 h3 k3 r3 m3=>?_⟩
 split at h3
 ·next p kk ek =>
  split at h3
  ·next kvs e =>
   cases r2;obtain ⟨ws,hw,rk⟩:=m3.dcl p kvs e;obtain ⟨b',rfl,hb⟩:=ys0 r3 ek;have hl:=rk.len;have hz:(90000:Nat) < sizeLine:=by decide
   refine ⟨p,_,rfl,DPut.t (k:=kL kk) hw hb [2],?_⟩;exact k.nx _ _ _ _ h3.2 (k1.trans (k2.trans (k3.trans (Kp.wrD hw)))) (s.mono (k1.trans (k2.trans (k3.trans (Kp.wrD hw))))) (m3.wrC hw (rk.put (r1.mono (k2.trans k3))))
  ·exact h3.elim
 ·exact h3.elim
end
def sdf3 (to:TE3) (t:TA3):TE3:=λ ρ μ Q=>to ρ μ λ x μ1=>match x with
 | .ref p=>match μ1 p with
  | some (.dcl _)=>t ρ μ1 λ ds μ2=>match ds with
   | [y,d]=>match keyI y,μ2 p with
    | some k,some (.dcl kvs)=>kvs.length < 90000 /\ (match valL kvs k with
     | some v=>Q v μ2
     | none=>Q d (updM μ2 p (.dcl (putL kvs k d))))
    | _,_=>False
   | _=>False
  | _=>False
 | _=>False
def rSd:V->List V->Hp->VK->Prop:=λ x vs H Q=>∃ a kvs k b v,x=.ref a /\ vs=[.ref b,v] /\ H a=some (.dT kvs) /\ H b=some (.tup (k.map kV)) /\ kvs.length < sizeLine ∧
 (∀ u,valV kvs k=some u->Q u H) /\ (valV kvs k=none->Q v (upd H a (.dT (putK kvs k v))))
section
variable {X:Cx}
theorem wu4 (hu:X.A.units + 1 < cLine):MtM X "dict.setdefault" rSd:=by
 intro pins s σ H x vs v us Q I rx rv h;obtain ⟨d,kvs,k,b,v0,rfl,rfl,e,eb,l,q1,q2⟩:=h;cases rx;cases rv with
 | cons r1 r2 =>
 cases r2 with
 | cons r2 r3 =>
 cases r3;rename_i u1 u2;cases (show u1=Value.ref b from r1);obtain ⟨z,hd,xs,rel,dd⟩:=ss0 I.hok (.inl e);have hz:xs.length<=sizeLine:=by rw [<- Paired.length rel]; exact z
 refine wpAny_call_entry F.slot_dict_setdefault dd.of.typeIs F.entry_dict_setdefault ?_ (F.args_dict_setdefault_3 _ _ _);unfold Builtin.«dict.setdefault»; refine wpAny_bind ?_;unfold Builtin.Dict.keyAndDefault; refine wpAny_bind (wpAny_notOrdered_dict dd.of.typeIs ?_);refine (show wpAny _ _ (pure (d,Value.ref b,some u2)) _ _ s from wpAny_pure ?_);show wpAny _ _ (if (d == sysModules)=true then _ else (dictSetDefault d (.ref b) u2 >>= _)) _ _ s;rw [if_neg (by rw [hd]; exact Bool.false_ne_true)];have rv:=rel.val k;refine wpAny_bind (ww1 (tupleKind_room_in1 hu) (xs0 I.hok eb) dd hz (λ p hp=>wpAny_pure ⟨p.2,rfl,?_⟩) λ hno h' dd' hs'=>wpAny_pure ⟨_,rfl,?_⟩)
 ·rw [hp,Option.map_some] at rv;cases ev:valV kvs k with
  | none=>rw [ev] at rv; exact rv.elim
  | some w'=>rw [ev] at rv; exact ⟨w',H,I.tok _,rv,q1 w' ev⟩
 ·rw [hno,Option.map_none] at rv;cases ev:valV kvs k with
  | some w'=>rw [ev] at rv; exact rv.elim
  | none =>
   have hl:(putK kvs k v0).length<=sizeLine:=by have:=ul0 kvs k v0; omega
   obtain ⟨ob,es,hq,h2,h3,h4,_,h5⟩:=dd';have e2:kvs.length + 1=(putK kvs k v0).length:=by rw [xc2,ev]; rfl
   refine ⟨v0,upd H d (.dT (putK kvs k v0)),uh1 (ob:=.dT (putK kvs k v0)) I (by rw [e]; exact True.intro) hs' ⟨ob,hq⟩ ⟨hl,hd,_,(rel.put k eb r2).keeps λ c ys ec=>?_,ob,es,_,hq,h2,h3,h4,h5,e2⟩,r2,q2 ev⟩;rw [vc0 (xc1 ec e (λ z=>nomatch z))]; exact ec
variable {o e:Expr} {es:List Expr} {to:TE3} {t:TA3} {apos cpos:Pos}
theorem wx3 (hu:X.A.units + 64 < cLine) (ho:RE X o to) (ha:RA X (e :: es) t) (hbase:attributeBase o "setdefault" X.env (eval o X.env)=eval o X.env:=by rfl)
    (hfew:((backTo cpos (starEach (e :: es) X.env)).all (λ x=>!x.1) && (backToKw cpos (keywordEach [] X.env)).all (λ x=>x.1.isSome)
     && decide [20])=true:=by rfl)
    (hline:(apos.endLine == cpos.line)=true:=by rfl) (hs:starEach (e :: es) X.env=[35] :: starEach es X.env:=by rfl) (hplain:(backTo cpos (starEach es X.env)).any (·.1)=false:=by rfl) :
    RE X (.Call (.Attribute o "setdefault" apos) (e :: es) [] cpos) (sdf3 to t):=by
 obtain ⟨va,pa,ra⟩:=ho;obtain ⟨vb,pb,rb⟩:=ha;refine ⟨_,yg3 plainAttrs_dict PySem.F.slot_dict_setdefault PySem.F.type_dict_setdefault (wu4 [2]) pa pb hbase hfew hline hs hplain,λ σ H Q ρ μ Q3 s m h k=>ra σ H _ ρ μ _ s m h λ x μ1 v H1 h1 k1 r1 m1=>?_⟩;split at h1
 ·next p =>
  split at h1
  ·next kvs0 e0 =>
   cases r1;obtain ⟨ws0,hw0,_⟩:=m1.dcl p kvs0 e0;refine ⟨.inr (.inr (.inl ⟨rfl,.inr ⟨ws0,hw0⟩⟩)),rb σ H1 _ ρ μ1 _ (s.mono k1) m1 h1 λ ds μ2 vs H2 h2 k2 r2 m2=>?_⟩;split at h2
   ·next y d =>
    cases r2 with
    | cons ry r2 =>
    cases r2 with
    | cons rd r2 =>
    cases r2;split at h2
    ·next kk kvs ek e =>
     obtain ⟨ws,hw,rk⟩:=m2.dcl p kvs e;obtain ⟨b,rfl,hb⟩:=ys0 ry ek;have hl:=rk.len;have hz:(90000:Nat) < sizeLine:=by decide
     refine ⟨p,ws,kL kk,b,_,rfl,rfl,hw,hb,by omega,λ u eu=>?_,λ eu=>?_⟩
     ·rcases rk.val (t:=kk) with ⟨_,z2⟩ | ⟨d',w',z1,z2,rd'⟩
      ·rw [eu] at z2; cases z2
      ·rw [eu] at z2; cases z2; rw [z1] at h2; exact k _ _ _ _ h2.2 (k1.trans k2) rd' m2
     ·rcases rk.val (t:=kk) with ⟨z1,_⟩ | ⟨d',w',_,z2,_⟩
      ·rw [z1] at h2; exact k _ _ _ _ h2.2 (k1.trans (k2.trans (Kp.wrD hw))) (rd.mono (Kp.wrD hw)) (m2.wrC hw (rk.put rd))
      ·rw [eu] at z2; cases z2
    ·exact h2.elim
   ·exact h2.elim
  ·exact h1.elim
 ·exact h1.elim
end
end Pv
namespace Pv
open PySem PySem.Spec PySem.W PyProof.Rows L2
def DG (h:Heap) (d:Addr) (es:Array DictEntry) (ep:Nat):Prop:=∃ o,h.get? d=some o /\ o.ExactDict /\ o.data=.dict es ep
theorem DG.keep {h h':Heap} {d:Addr} {es:Array DictEntry} {ep:Nat} (x:DG h d es ep) (k:∀ o,h.get? d=some o->h'.get? d=some o):DG h' d es ep:=by
 obtain ⟨o,a,b⟩:=x;exact ⟨o,k o a,b⟩
theorem DG.ty {s:Shared} {d:Addr} {es:Array DictEntry} {ep:Nat} (x:DG s.heap d es ep):s.TypeIs (.ref d) "dict" := by
 obtain ⟨o,a,b,_⟩:=x;exact ⟨o,a,b.1⟩
section
variable {prog:Program} {w:World} {A:Around} {E:[4]} {s:Shared} {d it:Addr} {es:Array DictEntry} {ep i:Nat}
theorem zg2 {Q:[4]} (lo:(d == sysModules)=false) (x:DG s.heap d es ep) (q:Q (.ref s.heap.objs.size) { s with heap:=s.heap.push { cls:=.type "dict_keyiterator",data:=.fields #[.ref d,.int 0 0,.int es.size 0,.int ep 0] } }) :
    wpAny [11] A (pyIter (.ref d)) Q E s:=by
 have ty:=x.ty;obtain ⟨o,e1,e2,e3⟩:=x;refine wpAny_pyIter_slot ty F.slot_dict_iter (wpAny_call_entry F.slot_dict_iter ty F.entry_dict_iter ?a (F.args_dict_iter_1 _))
 case a =>
  unfold Builtin.«dict.__iter__»;refine wpAny_bind ?_; unfold Builtin.Dict.dictSlotNone;refine wpAny_bind (wpAny_notOrdered_dict ty (show wpAny _ _ (pure (Value.ref d)) _ _ s from wpAny_pure ?_));show wpAny _ _ (Builtin.Dict.showsAll d >>= _) _ _ s; unfold Builtin.Dict.showsAll;rw [if_neg (by rw [lo]; exact Bool.false_ne_true)];refine wpAny_bind (wpAny_pure (wpAny_bind (wpAny_dictEntries e1 e3 (wpAny_bind (wpAny_dictEpoch e1 e3 ?_)))));refine wpAny_bind (wpAny_newObj_type (wpAny_pure ⟨_,rfl, "dict_keyiterator",_,⟨_,Heap.get?_push_size _ rfl,rfl⟩,F.slot_dict_keyiterator_next.lookup,q⟩))
theorem yg2 {Q:Option Value->Shared->Prop} (hi:s.heap.IsKeyIter it d i es.size ep) (x:DG s.heap d es ep) (lt:i < es.size)
    (q:∀ h',h'.IsKeyIter it d (i + 1) es.size ep->Heap.SameBut it s.heap h'->Q (some es[i].key) [36]):wpAny [11] A (pyNext (.ref it)) Q E s:=by
 obtain ⟨o,a1,a2,a3⟩:=id hi;obtain ⟨od,e1,e2,e3⟩:=x;have ty:=hi.typeIs;have own0:Builtin.Dict_items.ownsTuple "dict_keyiterator" = false:=by decide
 unfold pyNext;refine wpAny_bind (wpAny_attempt (wpAny_callSpecial?_slot (name:=Str.ofString "__next__") ty F.slot_dict_keyiterator_next (wpAny_call_entry F.slot_dict_keyiterator_next ty F.entry_dict_keyiterator_next ?a (F.args_dict_keyiterator_next_1 _))))
 case a =>
  refine wpAny_bind (wpAny_pure (wpAny_bind (wpAny_bind ?_)))
  first | refine wpAny_bind (wpAny_typeNameOfWhole_keyiter ty [17]) | refine wpAny_bind (wpAny_typeNameOf_keyiter ty [17])
  refine wpAny_bind (wpAny_fieldsOf a1 a3 ?_); simp only [own0,Bool.false_eq_true,if_false];show wpAny _ _ (if (Value.ref d == Value.none)=true then _ else _) _ _ s; rw [if_neg (show ¬ ((Value.ref d == Value.none)=true) from Bool.false_ne_true)];refine wpAny_bind (wpAny_pure (wpAny_bind (wpAny_dictEntries e1 e3 ?_))); rw [if_neg [16]];refine wpAny_bind (wpAny_pure (wpAny_bind (wpAny_dictEpoch e1 e3 ?_))); rw [if_neg [16]];refine wpAny_pure ?_;simp only [show ¬ ((i:Int) < 0) from by omega,if_false,Int.toNat_natCast,Array.getElem?_eq_getElem lt];refine wpAny_bind ?_
  first | refine wpAny_bind (wpAny_typeNameOfWhole_keyiter ty [17]) | refine wpAny_bind (wpAny_typeNameOf_keyiter ty [17])
  refine wpAny_bind (wpAny_isOneOf_keyiter ty (show wpAny _ _ (setField (.ref it) 1 (rawInt ((i:Int) + 1)) >>= _) _ _ s from wpAny_bind (wpAny_setField a1 a3 [16] ?_)));have hi':(s.heap.update it (Obj.mapFields (·.setIfInBounds 1 (rawInt ((i:Int) + 1))))).IsKeyIter it d (i + 1) es.size ep:=⟨_,Heap.get?_update_self _ a1 (Obj.isFreed_of_fields (Obj.data_mapFields a3 _)),(Obj.cls_mapFields ..).trans a2,by rw [Obj.data_mapFields a3]; simp [rawInt]⟩;refine wpAny_bind (wpAny_holding (wpAny_bind (wpAny_isOneOf_keyiter (s:={ s with heap:=s.heap.update it (Obj.mapFields (·.setIfInBounds 1 (rawInt ((i:Int) + 1)))) }) hi'.typeIs ?_)));show wpAny _ _ (pure es[i].key) _ _ _;exact wpAny_pure (wpAny_pure ⟨_,rfl,wpAny_pure (q _ hi' (Heap.SameBut.update ..))⟩)
theorem sx2 {Q:Option Value->Shared->Prop} (hh:A.handled=none) (hi:s.heap.IsKeyIter it d i es.size ep) (x:DG s.heap d es ep) (ge:es.size<=i)
    (q:∀ h',Heap.ExtBut it s.heap h'->Q none [36]):wpAny [11] A (pyNext (.ref it)) Q E s:=by
 obtain ⟨o,a1,a2,a3⟩:=id hi;obtain ⟨od,e1,e2,e3⟩:=x;have ty:=hi.typeIs;have own0:Builtin.Dict_items.ownsTuple "dict_keyiterator" = false:=by decide
 unfold pyNext;refine wpAny_bind (wpAny_attempt (wpAny_callSpecial?_slot (name:=Str.ofString "__next__") ty F.slot_dict_keyiterator_next (wpAny_call_entry F.slot_dict_keyiterator_next ty F.entry_dict_keyiterator_next ?a (F.args_dict_keyiterator_next_1 _))))
 case a =>
  refine wpAny_bind (wpAny_pure (wpAny_bind (wpAny_bind ?_)))
  first | refine wpAny_bind (wpAny_typeNameOfWhole_keyiter ty [17]) | refine wpAny_bind (wpAny_typeNameOf_keyiter ty [17])
  refine wpAny_bind (wpAny_fieldsOf a1 a3 ?_); simp only [own0,Bool.false_eq_true,if_false];show wpAny _ _ (if (Value.ref d == Value.none)=true then _ else _) _ _ s; rw [if_neg (show ¬ ((Value.ref d == Value.none)=true) from Bool.false_ne_true)];refine wpAny_bind (wpAny_pure (wpAny_bind (wpAny_dictEntries e1 e3 ?_))); rw [if_neg [16]];refine wpAny_bind (wpAny_pure (wpAny_bind (wpAny_dictEpoch e1 e3 ?_))); rw [if_neg [16]];refine wpAny_pure ?_;simp only [show ¬ ((i:Int) < 0) from by omega,if_false,Int.toNat_natCast,Array.getElem?_eq_none ge];refine wpAny_bind ?_
  first | refine wpAny_bind (wpAny_typeNameOfWhole_keyiter ty [17]) | refine wpAny_bind (wpAny_typeNameOf_keyiter ty [17])
  show wpAny _ _ (setField (.ref it) 0 .none >>= _) _ _ s; refine wpAny_bind (wpAny_setField a1 a3 [16] ?_);show wpAny _ _ (newExc (.type "StopIteration") [] >>= _) _ _ _; refine wpAny_bind ?_; simp only [newExc,newTuple];refine wpAny_bind [27];simp only [raiseNew]; refine wpAny_bind (wpAny_handled ?_); rw [show A.in1.handled=none from hh];refine wpAny_bind (wpAny_pure (wpAny_throw ?_)); refine wpAny_bind (wpAny_isInstance (T := "StopIteration") (b:=true) ⟨_,Heap.get?_push_size _ rfl,rfl⟩ isSubtype_stop ?_);exact wpAny_pure (q _ (((Heap.SameBut.update ..).extBut.push _).push _))
theorem zr2 (hh:A.handled=none) (I d:Addr) (ne:d ≠ I):Walks prog w A I [I,d] [I] es.size (λ i v=>∃ e,es[i]?=some e /\ v=e.key) (λ i h=>h.IsKeyIter I d i es.size ep /\ DG h d es ep) where
 sub:=λ b hb=>by simp at hb; simp [hb]
 frame:=λ _ _ _ z hk=>⟨z.1.at λ o e=>hk I [16] o e,z.2.keep λ o e=>hk d [16] o e⟩
 item:=λ i s Q E hi z q=>by
  refine yg2 z.1 z.2 hi λ h' k1 k2=>?_;exact q _ h' s.toks ⟨es[i],by simp [hi],rfl⟩ ⟨k1,z.2.keep λ o e=>k2.extBut d o ne e⟩ λ b o hb e=>k2.extBut b o (λ y=>hb (by simp [y])) e
 done:=λ s Q E z q=>sx2 hh z.1 z.2 [14] λ h' k=>q h' s.toks λ b o hb e=>k b o (λ y=>hb (by simp [y])) e
 self:=λ _ _ _ _ z q=>wpAny_pyIter_keyiter z.1 q
theorem tj4 (lo:(d == sysModules)=false):KdlSrc prog w "dict" d d es.size (λ i v=>∃ e,es[i]?=some e /\ v=e.key) (λ h=>DG h d es ep) where
 type:=λ _ x=>x.ty
 there:=λ _ x=>by obtain ⟨o,a,_⟩:=x; exact ⟨Heap.lt_size a,Heap.lt_size a⟩
 keep:=λ _ _ x k=>x.keep λ o e=>k d (.inl rfl) o e
 notList:=by decide
 notTuple:=by decide
 hint:=λ _ _ _ _ x q=>kdl_hint_dict x.ty q
 iter:=λ _ s hh x=>by
  have hl:d < s.heap.objs.size:=by obtain ⟨o,a,_⟩:=x; exact Heap.lt_size a
  exact ⟨_,_,(λ _ _ q=>zg2 lo x q),zr2 hh _ d (Nat.ne_of_lt hl),⟨[30],x.keep λ o e=>Heap.get?_push_of_some _ e⟩⟩
end
end Pv
namespace Pv
open PySem PySem.Spec PyProof.Rows L2
def Itd (a:Addr) (n:Nat):It :=
 ⟨λ i H=>∃ kvs,H a=some (.dT kvs) /\ kvs.length=n /\ i < n,λ i H x H'=>H'=H /\ ∃ kvs k v b,H a=some (.dT kvs) /\ kvs[i]?=some (k,v) /\ x=.ref b /\ H b=some (.tup (k.map kV)),
  λ i H=>∃ kvs,H a=some (.dT kvs) /\ kvs.length=n /\ n<=i⟩
theorem xx2 {H:Hp}:∀ {kvs:[31]} {xs:List (List Key × Addr × Value)},KT H kvs xs->∀ (i:Nat) x,xs[i]?=some x->∃ v,kvs[i]?=some (x.1,v) /\ H x.2.1=some (.tup (x.1.map kV))
 | _,_,.nil,i,x,e=>by simp at e
 | _,_,.cons (a:=p) (b:=q) h r,0,x,e=>by
  simp at e; subst e;exact ⟨p.2,by rw [List.getElem?_cons_zero,<- h.1],by rw [<- h.1]; exact h.2.1⟩
 | _,_,.cons h r,i + 1,x,e=>by
  rw [getElem?_cons_succ] at e ⊢;exact xx2 r i x e
theorem zu1 {P:Program} {w:World} {K:PySem.W.Frag} {tg:Expr} (a it:Addr) (n:Nat):Turn P w K tg (Itd a n) [it] it (λ i h=>h.IsKeyIter it a i n n) where
 mem:=by simp
 obj:=λ i h st b hb=>by
  have e:b=it:=by simpa using hb
  subst e;obtain ⟨o,e,c,d⟩:=st;exact ⟨o,e,λ v z=>by rw [d] at z; cases z⟩
 keep:=λ i h h' st k=>by
  obtain ⟨o,e,c,d⟩:=st;exact ⟨o,k it [16] o e,c,d⟩
 item:=by
  intro X hP hw hK hc i pins s σ H E I hf st hg;subst hP hw hK;obtain ⟨f0,f1,f2,f3,f4,f5⟩:=hf it [16];obtain ⟨kvs,e,el,hi⟩:=hg;obtain ⟨z,hd,xs,rel,o,es,ho,hc1,hd1,he,_⟩:=ss0 I.hok (.inl e);have l1:xs.length=n:=by rw [<- Paired.length rel]; exact el
  have l2:es.size=n:=by rw [<- length_toList,he,length_map,l1]
  rw [el] at hd1;have st':s.heap.IsKeyIter it a i es.size n:=by rw [l2]; exact st
  refine yg2 st' ⟨o,ho,hc1,hd1⟩ [2] λ h' hst hk=>?_;rw [l2] at hst;have hx:xs[i]?=some (xs[i]'(by omega)):=getElem?_eq_getElem _
  have ek:(es[i]'(by omega)).key=.ref (xs[i]'(by omega)).2.1:=by
   have q:es.toList[i]?=some (entryOfKey (tupleKind (we0 X.prog X.w)) (xs[i]'(by omega))):=by rw [he,getElem?_map,hx]; rfl
   rw [getElem?_toList,Array.getElem?_eq_getElem [2]] at q;cases q':es[i]'(by omega) with
   | mk a1 a2 a3=>rw [q'] at q; cases q; rfl
  obtain ⟨v,kg,kh⟩:=xx2 rel i _ hx;have I1:Inv X pins σ H [36]:=I.turned (t':=s.toks) (λ b o hb e=>hk.extBut b o hb e) f0 f1 f3 f4 f5;obtain ⟨o1,e1,c1,d1⟩:=id hst;refine ⟨_,rfl,sg1 (s:=[36]) e1 c1 d1 [7] ⟨.ref _,H,I1,ek,⟨rfl,kvs,_,v,_,e,kg,rfl,kh⟩,hst,λ b hb=>(hf b hb).1⟩⟩
 done:=by
  intro X hP hw hK hc i pins s σ H E I hf st hg;subst hP hw hK;obtain ⟨f0,f1,f2,f3,f4,f5⟩:=hf it [16];obtain ⟨kvs,e,el,hi⟩:=hg;obtain ⟨z,hd,xs,rel,o,es,ho,hc1,hd1,he,_⟩:=ss0 I.hok (.inl e);have l1:xs.length=n:=by rw [<- Paired.length rel]; exact el
  have l2:es.size=n:=by rw [<- length_toList,he,length_map,l1]
  rw [el] at hd1;have st':s.heap.IsKeyIter it a i es.size n:=by rw [l2]; exact st
  exact sx2 (I.ok.hd hc) st' ⟨o,ho,hc1,hd1⟩ [2] λ h' hk=>⟨rfl,I.turned (t':=s.toks) (λ b o hb e=>hk b o hb e) f0 f1 f3 f4 f5⟩
 self:=λ A i s Q E st h=>wpAny_pyIter_keyiter st h
section
variable {X:Cx} {tg:Expr}
def iDct (tl:TE):TI:=λ σ H R=>tl σ H λ x H1=>∃ a kvs,x=.ref a /\ H1 a=some (.dT kvs) /\ R (Itd a kvs.length) H1
theorem xf3 {l:Expr} {tl:TE} (hl:PE X l tl):PI X tg l (iDct tl):=by
 intro pins s σ H R I h;refine thn (hl pins s σ H _ I h) λ v s1 ⟨x,H1,I1,r1,q1⟩=>?_
 have fp:∀ b ∈ [s1.heap.objs.size],FpOk X pins H1 b:=λ b hb=>by
  have e:b=s1.heap.objs.size:=by simpa using hb
  subst e;exact I1.fpOk [14] (I1.hok.fresh [14])
 obtain ⟨a,kvs,rfl,e,q⟩:=q1;cases r1;obtain ⟨z,hd,xs,rel,o,es,ho,hc1,hd1,he,_⟩:=ss0 I1.hok (.inl e);have l2:es.size=kvs.length:=by rw [<- length_toList,he,length_map]; exact (Paired.length rel).symm
 refine zg2 hd ⟨o,ho,hc1,hd1⟩ ?_;rw [l2];exact ⟨s1.heap.objs.size,[s1.heap.objs.size],_,_,H1,rfl,I1.kept (t':=s1.toks) λ b o e=>Heap.get?_push_of_some _ e,zu1 a _ _,[30],fp,q⟩
def tupI (k:List Int):D:=.tup (k.map .int)
theorem xv0 {K:Fg} {H:Hp}:∀ k:List Int,RelDs K H (k.map .int) ((kL k).map kV)
 | []=>.nil
 | i :: k=>.cons (.int i) (xv0 k)
theorem RelKl.get {K:Fg} {H:Hp} {l:List (List Int × D)} {vs:[31]} (r:RelKl K H l vs):∀ (i:Nat) k v,vs[i]?=some (k,v)->∃ t d,l[i]?=some (t,d) /\ k=kL t:=by
 induction r with
 | nil=>intro i k v e; simp at e
 | cons h _ ih =>
  intro i k v e;cases i with
  | zero=>simp at e; exact ⟨_,_,rfl,e.1.symm⟩
  | succ i=>rw [getElem?_cons_succ] at e ⊢; exact ih i k v e
theorem up2 {K:Fg} {H0:Hp} {a:Addr} {l:List (List Int × D)}:ItOk K (Itd a l.length) (l.map λ kv=>tupI kv.1) (λ μ=>μ a=some (.dcl l)) H0:=λ i H μ k m s=>by
 obtain ⟨vs,h,r⟩:=m.dcl a l s;have hl:=r.len;refine ⟨λ d e=>?_,λ hl'=>⟨vs,h,hl.symm,by simpa using hl'⟩⟩;rw [getElem?_map] at e
 have hi:i < l.length:=by
  rcases Nat.lt_or_ge i l.length with c | c
  ·exact c
  ·rw [getElem?_eq_none c] at e; cases e
 refine ⟨⟨vs,h,hl.symm,hi⟩,λ x H2 y=>?_⟩;obtain ⟨rfl,kvs,kk,v,b,e1,e2,rfl,e3⟩:=y;rw [h] at e1;cases e1;obtain ⟨t,dd,e4,rfl⟩:=r.get i kk v e2;rw [e4] at e;cases e;exact ⟨Kp.refl _,m,.tup e3 (xv0 t)⟩
def isd3 (t:TE3):TI3:=λ ρ μ R=>t ρ μ λ d μ1=>match d with
 | .ref p=>match μ1 p with
  | some (.dcl l)=>R (l.map λ kv=>tupI kv.1) (λ μ=>μ p=some (.dcl l)) μ1
  | _=>False
 | _=>False
theorem wx1 {a:Expr} {ta:TE3} (ha:RE X a ta):RI X tg a (isd3 ta):=by
 obtain ⟨va,pa,ra⟩:=ha;refine ⟨_,xf3 pa,λ σ H R ρ μ R3 s m h k=>ra σ H _ ρ μ _ s m h λ d μ1 v H1 h1 k1 r1 m1=>?_⟩;split at h1
 ·next p =>
  split at h1
  ·next l e =>
   cases r1;obtain ⟨vs,hv,rv⟩:=m1.dcl p l e;refine ⟨p,vs,rfl,hv,?_⟩;rw [<- rv.len];exact k _ _ _ _ _ h1 k1 m1 up2
  ·exact h1.elim
 ·exact h1.elim
end
end Pv
namespace Pv
open PySem PySem.Spec PySem.W PyProof.Rows L2
section
variable {prog:Program} {w:World} {A:Around} {E:[4]} {s:Shared} {d it vw:Addr} {es:Array DictEntry} {ep i:Nat}
theorem yz2 {Q:[4]} (lo:(d == sysModules)=false) (x:DG s.heap d es ep) (q:Q (.ref s.heap.objs.size) { s with heap:=s.heap.push { cls:=.type "dict_values",data:=.fields #[.ref d] } }) :
    wpAny [11] A (call (.builtin "dict.values") [.ref d]) Q E s:=by
 have ty:=x.ty;refine wpAny_call_entry F.slot_dict_values ty F.entry_dict_values ?a (F.args_dict_values_1 _)
 case a =>
  unfold Builtin.«dict.values»;refine wpAny_bind (m:=Builtin.Dict.noArgs "values" _) ?_;unfold Builtin.Dict.noArgs;refine wpAny_bind (wpAny_notOrdered_dict ty ?_);refine wpAny_bind (m:=Builtin.Dict.nameIsSure _ _ _) [17];refine wpAny_bind (m:=selfOnly _ _) [17];refine (show wpAny _ _ (pure d) _ _ s from wpAny_pure ?_);show wpAny _ _ (Builtin.Dict.showsAll d >>= _) _ _ s; unfold Builtin.Dict.showsAll;rw [if_neg (by rw [lo]; exact Bool.false_ne_true)];exact wpAny_bind (wpAny_pure (wpAny_bind (wpAny_newObj_type (wpAny_pure ⟨_,rfl,q⟩))))
theorem wz2 {Q:[4]} (hv:s.heap.IsValuesView vw d) (x:DG s.heap d es ep) (q:Q (.ref s.heap.objs.size) { s with heap:=s.heap.push { cls:=.type "dict_valueiterator",data:=.fields #[.ref d,.int 0 0,.int es.size 0,.int ep 0] } }) :
    wpAny [11] A (pyIter (.ref vw)) Q E s:=by
 have ty:=hv.typeIs;obtain ⟨ov,v1,v2,v3⟩:=hv;obtain ⟨o,e1,e2,e3⟩:=x;refine wpAny_pyIter_slot ty F.slot_dict_values_iter (wpAny_call_entry F.slot_dict_values_iter ty F.entry_dict_values_iter ?a (F.args_dict_values_iter_1 _))
 case a =>
  unfold Builtin.«dict_values.__iter__»;refine wpAny_bind (m:=Builtin.Dict_items.slot0 _ _) [17];refine wpAny_bind ?_; unfold Builtin.Dict_items.dictOf;refine wpAny_bind (wpAny_field v1 v3 rfl [17]);refine wpAny_bind ?_; unfold Builtin.Dict_items.newIterator;refine wpAny_bind (wpAny_dictEntries e1 e3 (wpAny_bind (wpAny_dictEpoch e1 e3 ?_)));show wpAny _ _ (newObj (.type "dict_valueiterator") (.fields #[.ref d,.int 0 0,.int es.size 0,.int ep 0])) _ _ s;exact wpAny_newObj_type (wpAny_pure ⟨_,rfl, "dict_valueiterator",_,⟨_,Heap.get?_push_size _ rfl,rfl⟩,F.slot_dict_valueiterator_next.lookup,q⟩)
theorem zz2 {Q:Option Value->Shared->Prop} (hi:s.heap.IsValIter it d i es.size ep) (x:DG s.heap d es ep) (lt:i < es.size)
    (q:∀ h',h'.IsValIter it d (i + 1) es.size ep->Heap.SameBut it s.heap h'->Q (some es[i].val) [36]):wpAny [11] A (pyNext (.ref it)) Q E s:=by
 obtain ⟨o,a1,a2,a3⟩:=id hi;obtain ⟨od,e1,e2,e3⟩:=x;have ty:=hi.typeIs;have own0:Builtin.Dict_items.ownsTuple "dict_valueiterator" = false:=by decide
 unfold pyNext;refine wpAny_bind (wpAny_attempt (wpAny_callSpecial?_slot (name:=Str.ofString "__next__") ty F.slot_dict_valueiterator_next (wpAny_call_entry F.slot_dict_valueiterator_next ty F.entry_dict_valueiterator_next ?a (F.args_dict_valueiterator_next_1 _))))
 case a =>
  refine wpAny_bind (wpAny_pure (wpAny_bind (wpAny_bind ?_)))
  first | refine wpAny_bind (wpAny_typeNameOfWhole_valiter ty [17]) | refine wpAny_bind (wpAny_typeNameOf_valiter ty [17])
  refine wpAny_bind (wpAny_fieldsOf a1 a3 ?_); simp only [own0,Bool.false_eq_true,if_false];show wpAny _ _ (if (Value.ref d == Value.none)=true then _ else _) _ _ s; rw [if_neg (show ¬ ((Value.ref d == Value.none)=true) from Bool.false_ne_true)];refine wpAny_bind (wpAny_pure (wpAny_bind (wpAny_dictEntries e1 e3 ?_))); rw [if_neg [16]];refine wpAny_bind (wpAny_pure (wpAny_bind (wpAny_dictEpoch e1 e3 ?_))); rw [if_neg [16]];refine wpAny_pure ?_;simp only [show ¬ ((i:Int) < 0) from by omega,if_false,Int.toNat_natCast,Array.getElem?_eq_getElem lt];refine wpAny_bind ?_
  first | refine wpAny_bind (wpAny_typeNameOfWhole_valiter ty [17]) | refine wpAny_bind (wpAny_typeNameOf_valiter ty [17])
  refine wpAny_bind (wpAny_isOneOf_valiter ty (show wpAny _ _ (setField (.ref it) 1 (rawInt ((i:Int) + 1)) >>= _) _ _ s from wpAny_bind (wpAny_setField a1 a3 [16] ?_)));have hi':(s.heap.update it (Obj.mapFields (·.setIfInBounds 1 (rawInt ((i:Int) + 1))))).IsValIter it d (i + 1) es.size ep:=⟨_,Heap.get?_update_self _ a1 (Obj.isFreed_of_fields (Obj.data_mapFields a3 _)),(Obj.cls_mapFields ..).trans a2,by rw [Obj.data_mapFields a3]; simp [rawInt]⟩;refine wpAny_bind (wpAny_holding (wpAny_bind (wpAny_isOneOf_valiter (s:={ s with heap:=s.heap.update it (Obj.mapFields (·.setIfInBounds 1 (rawInt ((i:Int) + 1)))) }) hi'.typeIs (wpAny_bind (wpAny_isOneOf_valiter (s:={ s with heap:=s.heap.update it (Obj.mapFields (·.setIfInBounds 1 (rawInt ((i:Int) + 1)))) }) hi'.typeIs ?_)))));show wpAny _ _ (pure es[i].val) _ _ _;exact wpAny_pure (wpAny_pure ⟨_,rfl,wpAny_pure (q _ hi' (Heap.SameBut.update ..))⟩)
theorem tn3 {Q:Option Value->Shared->Prop} (hh:A.handled=none) (hi:s.heap.IsValIter it d i es.size ep) (x:DG s.heap d es ep) (ge:es.size<=i)
    (q:∀ h',Heap.ExtBut it s.heap h'->Q none [36]):wpAny [11] A (pyNext (.ref it)) Q E s:=by
 obtain ⟨o,a1,a2,a3⟩:=id hi;obtain ⟨od,e1,e2,e3⟩:=x;have ty:=hi.typeIs;have own0:Builtin.Dict_items.ownsTuple "dict_valueiterator" = false:=by decide
 unfold pyNext;refine wpAny_bind (wpAny_attempt (wpAny_callSpecial?_slot (name:=Str.ofString "__next__") ty F.slot_dict_valueiterator_next (wpAny_call_entry F.slot_dict_valueiterator_next ty F.entry_dict_valueiterator_next ?a (F.args_dict_valueiterator_next_1 _))))
 case a =>
  refine wpAny_bind (wpAny_pure (wpAny_bind (wpAny_bind ?_)))
  first | refine wpAny_bind (wpAny_typeNameOfWhole_valiter ty [17]) | refine wpAny_bind (wpAny_typeNameOf_valiter ty [17])
  refine wpAny_bind (wpAny_fieldsOf a1 a3 ?_); simp only [own0,Bool.false_eq_true,if_false];show wpAny _ _ (if (Value.ref d == Value.none)=true then _ else _) _ _ s; rw [if_neg (show ¬ ((Value.ref d == Value.none)=true) from Bool.false_ne_true)];refine wpAny_bind (wpAny_pure (wpAny_bind (wpAny_dictEntries e1 e3 ?_))); rw [if_neg [16]];refine wpAny_bind (wpAny_pure (wpAny_bind (wpAny_dictEpoch e1 e3 ?_))); rw [if_neg [16]];refine wpAny_pure ?_;simp only [show ¬ ((i:Int) < 0) from by omega,if_false,Int.toNat_natCast,Array.getElem?_eq_none ge];refine wpAny_bind ?_
  first | refine wpAny_bind (wpAny_typeNameOfWhole_valiter ty [17]) | refine wpAny_bind (wpAny_typeNameOf_valiter ty [17])
  show wpAny _ _ (setField (.ref it) 0 .none >>= _) _ _ s; refine wpAny_bind (wpAny_setField a1 a3 [16] ?_);show wpAny _ _ (newExc (.type "StopIteration") [] >>= _) _ _ _; refine wpAny_bind ?_; simp only [newExc,newTuple];refine wpAny_bind [27];simp only [raiseNew]; refine wpAny_bind (wpAny_handled ?_); rw [show A.in1.handled=none from hh];refine wpAny_bind (wpAny_pure (wpAny_throw ?_)); refine wpAny_bind (wpAny_isInstance (T := "StopIteration") (b:=true) ⟨_,Heap.get?_push_size _ rfl,rfl⟩ isSubtype_stop ?_);exact wpAny_pure (q _ (((Heap.SameBut.update ..).extBut.push _).push _))
end
def Itv (a:Addr) (n:Nat):It :=
 ⟨λ i H=>∃ kvs,H a=some (.dT kvs) /\ kvs.length=n /\ i < n,λ i H x H'=>H'=H /\ ∃ kvs k v,H a=some (.dT kvs) /\ kvs[i]?=some (k,v) /\ x=v,
  λ i H=>∃ kvs,H a=some (.dT kvs) /\ kvs.length=n /\ n<=i⟩
theorem sw2 {H:Hp}:∀ {kvs:[31]} {xs:List (List Key × Addr × Value)},KT H kvs xs->∀ (i:Nat) x,xs[i]?=some x->∃ k v,kvs[i]?=some (k,v) /\ RelV v x.2.2
 | _,_,.nil,i,x,e=>by simp at e
 | _,_,.cons (a:=p) (b:=q) h r,0,x,e=>by
  simp at e; subst e;exact ⟨p.1,p.2,by rw [List.getElem?_cons_zero],h.2.2⟩
 | _,_,.cons h r,i + 1,x,e=>by
  rw [getElem?_cons_succ] at e ⊢;exact sw2 r i x e
theorem sj2 {P:Program} {w:World} {K:PySem.W.Frag} {tg:Expr} (a it:Addr) (n:Nat):Turn P w K tg (Itv a n) [it] it (λ i h=>h.IsValIter it a i n n) where
 mem:=by simp
 obj:=λ i h st b hb=>by
  have e:b=it:=by simpa using hb
  subst e;obtain ⟨o,e,c,d⟩:=st;exact ⟨o,e,λ v z=>by rw [d] at z; cases z⟩
 keep:=λ i h h' st k=>by
  obtain ⟨o,e,c,d⟩:=st;exact ⟨o,k it [16] o e,c,d⟩
 item:=by
  intro X hP hw hK hc i pins s σ H E I hf st hg;subst hP hw hK;obtain ⟨f0,f1,f2,f3,f4,f5⟩:=hf it [16];obtain ⟨kvs,e,el,hi⟩:=hg;obtain ⟨z,hd,xs,rel,o,es,ho,hc1,hd1,he,_⟩:=ss0 I.hok (.inl e);have l1:xs.length=n:=by rw [<- Paired.length rel]; exact el
  have l2:es.size=n:=by rw [<- length_toList,he,length_map,l1]
  rw [el] at hd1;have st':s.heap.IsValIter it a i es.size n:=by rw [l2]; exact st
  refine zz2 st' ⟨o,ho,hc1,hd1⟩ [2] λ h' hst hk=>?_;rw [l2] at hst;have hx:xs[i]?=some (xs[i]'(by omega)):=getElem?_eq_getElem _
  have ek:(es[i]'(by omega)).val=(xs[i]'(by omega)).2.2:=by
   have q:es.toList[i]?=some (entryOfKey (tupleKind (we0 X.prog X.w)) (xs[i]'(by omega))):=by rw [he,getElem?_map,hx]; rfl
   rw [getElem?_toList,Array.getElem?_eq_getElem [2]] at q;cases q':es[i]'(by omega) with
   | mk a1 a2 a3=>rw [q'] at q; cases q; rfl
  obtain ⟨k,v,kg,kh⟩:=sw2 rel i _ hx;have I1:Inv X pins σ H [36]:=I.turned (t':=s.toks) (λ b o hb e=>hk.extBut b o hb e) f0 f1 f3 f4 f5;obtain ⟨o1,e1,c1,d1⟩:=id hst;refine ⟨_,rfl,sg1 (s:=[36]) e1 c1 d1 [7] ⟨v,H,I1,by rw [ek]; exact kh,⟨rfl,kvs,k,v,e,kg,rfl⟩,hst,λ b hb=>(hf b hb).1⟩⟩
 done:=by
  intro X hP hw hK hc i pins s σ H E I hf st hg;subst hP hw hK;obtain ⟨f0,f1,f2,f3,f4,f5⟩:=hf it [16];obtain ⟨kvs,e,el,hi⟩:=hg;obtain ⟨z,hd,xs,rel,o,es,ho,hc1,hd1,he,_⟩:=ss0 I.hok (.inl e);have l1:xs.length=n:=by rw [<- Paired.length rel]; exact el
  have l2:es.size=n:=by rw [<- length_toList,he,length_map,l1]
  rw [el] at hd1;have st':s.heap.IsValIter it a i es.size n:=by rw [l2]; exact st
  exact tn3 (I.ok.hd hc) st' ⟨o,ho,hc1,hd1⟩ [2] λ h' hk=>⟨rfl,I.turned (t':=s.toks) (λ b o hb e=>hk b o hb e) f0 f1 f3 f4 f5⟩
 self:=λ A i s Q E st h=>wpAny_pyIter_valiter st h
section
variable {X:Cx} {tg:Expr}
def iVal (tl:TE):TI:=λ σ H R=>tl σ H λ x H1=>∃ a kvs,x=.ref a /\ H1 a=some (.dT kvs) /\ R (Itv a kvs.length) H1
theorem sc4 {l:Expr} {tl:TE} {apos cpos:Pos} (hl:PE X l tl) (hbase:attributeBase l "values" X.env (eval l X.env)=eval l X.env:=by rfl) (hline:(apos.endLine == cpos.line)=true:=by rfl):PI X tg (.Call (.Attribute l "values" apos) [] [] cpos) (iVal tl):=by
 intro pins s σ H R I h;refine wpAny_Call_method0_late hbase hline (thn (hl pins s σ H _ I h) λ v s1 ⟨x,H1,I1,r1,q1⟩=>?_);obtain ⟨a,kvs,rfl,e,q⟩:=q1;cases r1;obtain ⟨z,hd,xs,rel,o,es,ho,hc1,hd1,he,_⟩:=ss0 I1.hok (.inl e);have l2:es.size=kvs.length:=by rw [<- length_toList,he,length_map]; exact (Paired.length rel).symm
 have D1:DG s1.heap a es kvs.length:=⟨o,ho,hc1,hd1⟩;refine ⟨"dict", "dict.values",plainAttrs_dict,PySem.F.slot_dict_values,PySem.F.type_dict_values,D1.ty,λ b hb=>?_,Calls.callWith_builtin rfl (PySem.evalArgs_none (yz2 hd D1 ?_))⟩
 ·cases hb;exact ⟨o,ho,hc1.2.1⟩
 have I2:Inv X pins σ H1 { s1 with heap:=s1.heap.push { cls:=.type "dict_values",data:=.fields #[.ref a] } }:=I1.kept (t':=s1.toks) λ b o e=>Heap.get?_push_of_some _ e;have D2:DG (s1.heap.push { cls:=.type "dict_values",data:=.fields #[.ref a] }) a es kvs.length:=D1.keep λ o e=>Heap.get?_push_of_some _ e;have V2:(s1.heap.push { cls:=.type "dict_values",data:=.fields #[.ref a] }).IsValuesView s1.heap.objs.size a:=[30];generalize s1.heap.push { cls:=.type "dict_values",data:=.fields #[.ref a] }=h2 at I2 D2 V2
 have fp:∀ b ∈ [h2.objs.size],FpOk X pins H1 b:=λ b hb=>by
  have e:b=h2.objs.size:=by simpa using hb
  subst e;exact I2.fpOk [14] (I2.hok.fresh [14])
 refine wz2 (s:={ s1 with heap:=h2 }) V2 D2 ?_;rw [l2];exact ⟨h2.objs.size,[h2.objs.size],_,_,H1,rfl,I2.kept (t':=s1.toks) λ b o e=>Heap.get?_push_of_some _ e,sj2 a _ _,[30],fp,q⟩
theorem RelKl.getV {K:Fg} {H:Hp} {l:List (List Int × D)} {vs:[31]} (r:RelKl K H l vs):∀ (i:Nat) k v,vs[i]?=some (k,v)->∃ t d,l[i]?=some (t,d) /\ RelD K H d v:=by
 induction r with
 | nil=>intro i k v e; simp at e
 | cons h _ ih =>
  intro i k v e;cases i with
  | zero=>simp at e; exact ⟨_,_,rfl,e.2 ▸ h⟩
  | succ i=>rw [getElem?_cons_succ] at e ⊢; exact ih i k v e
theorem xp2 {K:Fg} {H0:Hp} {a:Addr} {l:List (List Int × D)}:ItOk K (Itv a l.length) (l.map λ kv=>kv.2) (λ μ=>μ a=some (.dcl l)) H0:=λ i H μ k m s=>by
 obtain ⟨vs,h,r⟩:=m.dcl a l s;have hl:=r.len;refine ⟨λ d e=>?_,λ hl'=>⟨vs,h,hl.symm,by simpa using hl'⟩⟩;rw [getElem?_map] at e
 have hi:i < l.length:=by
  rcases Nat.lt_or_ge i l.length with c | c
  ·exact c
  ·rw [getElem?_eq_none c] at e; cases e
 refine ⟨⟨vs,h,hl.symm,hi⟩,λ x H2 y=>?_⟩;obtain ⟨rfl,kvs,kk,v,e1,e2,rfl⟩:=y;rw [h] at e1;cases e1;obtain ⟨t,dd,e4,rd⟩:=r.getV i kk _ e2;rw [e4] at e;cases e;exact ⟨Kp.refl _,m,rd⟩
def isv3 (t:TE3):TI3:=λ ρ μ R=>t ρ μ λ d μ1=>match d with
 | .ref p=>match μ1 p with
  | some (.dcl l)=>R (l.map λ kv=>kv.2) (λ μ=>μ p=some (.dcl l)) μ1
  | _=>False
 | _=>False
theorem zx3 {a:Expr} {ta:TE3} {apos cpos:Pos} (ha:RE X a ta) (hbase:attributeBase a "values" X.env (eval a X.env)=eval a X.env:=by rfl) (hline:(apos.endLine == cpos.line)=true:=by rfl):RI X tg (.Call (.Attribute a "values" apos) [] [] cpos) (isv3 ta):=by
 obtain ⟨va,pa,ra⟩:=ha;refine ⟨_,sc4 pa hbase hline,λ σ H R ρ μ R3 s m h k=>ra σ H _ ρ μ _ s m h λ d μ1 v H1 h1 k1 r1 m1=>?_⟩;split at h1
 ·next p =>
  split at h1
  ·next l e =>
   cases r1;obtain ⟨vs,hv,rv⟩:=m1.dcl p l e;refine ⟨p,vs,rfl,hv,?_⟩;rw [<- rv.len];exact k _ _ _ _ _ h1 k1 m1 xp2
  ·exact h1.elim
 ·exact h1.elim
end
end Pv
namespace Pv
open PySem
abbrev Rise (xs:Array Nat):Prop:=xs.toList.Pairwise (· < ·)
theorem vn0 {xs:Array Nat} (h:Rise xs) {i j a b:Nat} (hi:xs[i]?=some a) (hj:xs[j]?=some b) (l:i < j):a < b:=by
 have h':=List.pairwise_iff_getElem.mp h;rw [<- getElem?_toList] at hi hj;obtain ⟨hi1,hi2⟩:=List.getElem?_eq_some_iff.mp hi;obtain ⟨hj1,hj2⟩:=List.getElem?_eq_some_iff.mp hj;rw [<- hi2,<- hj2];exact h' i j hi1 hj1 l
theorem vq0 (xs:Array Nat) (j:Nat) (h:Rise xs):∀ (fuel lo hi:Nat),hi - lo<=fuel->lo<=hi->hi<=xs.size->(∀ i a,i < lo->xs[i]?=some a->a < j)->(∀ i a,hi<=i->xs[i]?=some a->j<=a) ->
    (∀ i a,xs[i]?=some a->(i < SetTable.below.go xs j fuel lo hi ↔ a < j)) /\ SetTable.below.go xs j fuel lo hi<=xs.size
 | 0,lo,hi,f,l1,l2,a1,a2=>by
  have e:lo=hi:=by omega
  subst e;unfold SetTable.below.go;refine ⟨λ i a q=>⟨λ c=>a1 i a c q,λ c=>?_⟩,l2⟩;by_cases z:i < lo
  ·exact z
  ·have:=a2 i a [2] q; omega
 | fuel + 1,lo,hi,f,l1,l2,a1,a2=>by
  unfold SetTable.below.go;split
  ·next c =>
   have m1:(lo + hi) / 2 < hi:=by omega
   have m2:lo<=(lo + hi) / 2:=by omega
   have hm:xs[(lo + hi) / 2]?=some (xs.getD ((lo + hi) / 2) j):=by
    have:(lo + hi) / 2 < xs.size:=by omega
    simp [Array.getD,this]
   dsimp only;split
   ·next c2 =>
    refine vq0 xs j h fuel _ _ [2] [2] l2 (λ i a z q=>?_) a2;by_cases y:i=(lo + hi) / 2
    ·subst y; rw [hm] at q; cases q; exact c2
    ·exact Nat.lt_trans (vn0 h q hm [2]) c2
   ·next c2 =>
    refine vq0 xs j h fuel _ _ [2] [2] [2] a1 (λ i a z q=>?_);by_cases y:i=(lo + hi) / 2
    ·subst y; rw [hm] at q; cases q; omega
    ·have:=vn0 h hm q [2]; omega
  ·next c =>
   have e:lo=hi:=by omega
   subst e;refine ⟨λ i a q=>⟨λ c=>a1 i a c q,λ c=>?_⟩,l2⟩;by_cases z:i < lo
   ·exact z
   ·have:=a2 i a [2] q; omega
theorem vk0 {xs:Array Nat} (h:Rise xs) (j:Nat) {i a:Nat} (q:xs[i]?=some a):i < SetTable.below xs j ↔ a < j :=
 (vq0 xs j h xs.size 0 xs.size [2] [2] [14] (λ _ _ z=>absurd z (Nat.not_lt_zero _)) (λ i a z q=>by rw [Array.getElem?_eq_none z] at q; cases q)).1 i a q
theorem tm0 {xs:Array Nat} (h:Rise xs) (j:Nat):SetTable.below xs j<=xs.size :=
 (vq0 xs j h xs.size 0 xs.size [2] [2] [14] (λ _ _ z=>absurd z (Nat.not_lt_zero _)) (λ i a z q=>by rw [Array.getElem?_eq_none z] at q; cases q)).2
theorem sm0 {xs:Array Nat} (h:Rise xs) {i j:Nat} (q:xs[i]?=some j):SetTable.below xs j=i:=by
 have h1:=vk0 h j q;have h2:=tm0 h j;by_cases c:SetTable.below xs j < i
 ·have hi:=(Array.getElem?_eq_some_iff.mp q).1;obtain ⟨a,ha⟩:∃ a,xs[SetTable.below xs j]?=some a:=⟨_,Array.getElem?_eq_getElem [2]⟩;have h3:=vk0 h j ha;have h4:=vn0 h ha q c;omega
 ·omega
theorem zc1 {xs:Array Nat} {j:Nat} (h:j ∈ xs.toList):∃ i:Nat,xs[i]?=some j:=by
 obtain ⟨i,hi⟩:=List.mem_iff_getElem?.mp h;exact ⟨i,by rw [<- getElem?_toList]; exact hi⟩
theorem tv0 {xs:Array Nat} {i j:Nat} (h:xs[i]?=some j):j ∈ xs.toList:=List.mem_iff_getElem?.mpr ⟨i,by rw [getElem?_toList]; exact h⟩
theorem tl0 {xs:Array Nat} (h:Rise xs) (j:Nat):SetTable.has xs j=true ↔ j ∈ xs.toList:=by
 unfold SetTable.has;constructor
 ·intro z; exact tv0 (eq_of_beq z)
 ·intro z;obtain ⟨i,hi⟩:=zc1 z;rw [sm0 h hi,hi];exact beq_self_eq_true _
theorem ua1 {t:SetTable} (h:Rise t.place) {i j:Nat}:t.slot j=.live i ↔ t.place[i]?=some j:=by
 unfold SetTable.slot;dsimp only;constructor
 ·intro z;split at z
  ·next c=>cases z; exact eq_of_beq c
  ·split at z <;> cases z
 ·intro z;rw [sm0 h z,z];simp
theorem zn0 {t:SetTable} (h:Rise t.place) (hd:Rise t.dummies) {j:Nat} (dj:j ∈ t.dummies.toList->j ∉ t.place.toList):t.slot j=.dummy ↔ j ∈ t.dummies.toList:=by
 unfold SetTable.slot;dsimp only;constructor
 ·intro z;split at z
  ·cases z
  ·split at z
   ·next c=>exact (tl0 hd j).mp c
   ·cases z
 ·intro z;rw [if_neg,if_pos ((tl0 hd j).mpr z)];intro c;exact dj z (tv0 (eq_of_beq c))
theorem yn0 {t:SetTable} (h:Rise t.place) (hd:Rise t.dummies) {j:Nat}:t.slot j=.empty ↔ j ∉ t.place.toList /\ j ∉ t.dummies.toList:=by
 unfold SetTable.slot;dsimp only;constructor
 ·intro z;split at z
  ·cases z
  ·next c =>
   split at z
   ·cases z
   ·next c2 =>
    refine ⟨λ m=>c ?_,λ m=>c2 ((tl0 hd j).mpr m)⟩;obtain ⟨i,hi⟩:=zc1 m;rw [sm0 h hi,hi];exact beq_self_eq_true _
 ·rintro ⟨z1,z2⟩;rw [if_neg (λ c=>z1 (tv0 (eq_of_beq c))),if_neg (λ c=>z2 ((tl0 hd j).mp c))]
def mkT (mask:Nat):SetTable:={ SetTable.fresh 0 0 false with mask:=mask }
def trS (mask:Nat) (h:Int):Nat->SetTable.Probe
 | 0=>(mkT mask).probeStart h
 | n + 1=>(mkT mask).advance (trS mask h n)
abbrev tr (mask:Nat) (h:Int) (n:Nat):Nat:=(trS mask h n).j
theorem va3 (t:SetTable) (h:Int):t.probeStart h=trS t.mask h 0:=rfl
theorem we1 (t:SetTable) (p:SetTable.Probe) (d:Option Nat):t.advance { p with dummy:=d }={ t.advance p with dummy:=d }:=by
 unfold SetTable.advance;dsimp only;split <;> rfl
def seg (mask i perturb:Nat):SetTable.Probe:={ j:=i,more:=SetTable.runEnd mask i - i,i:=i,perturb:=perturb,dummy:=none }
theorem run9 (mask i:Nat):SetTable.runEnd mask i - i<=9:=by unfold SetTable.runEnd; split <;> omega
theorem wu3 (mask i:Nat):i<=SetTable.runEnd mask i:=by unfold SetTable.runEnd; split <;> omega
theorem vu3 (mask i:Nat) (h:i<=mask):SetTable.runEnd mask i<=mask:=by unfold SetTable.runEnd; split <;> omega
theorem tw0 {mask:Nat} {h:Int} {n i p:Nat} (e:trS mask h n=seg mask i p):∀ k,k<=SetTable.runEnd mask i - i->trS mask h (n + k)={ seg mask i p with j:=i + k,more:=SetTable.runEnd mask i - i - k }
 | 0,_=>e
 | k + 1,hk=>by
  have ih:=tw0 e k [2];show (mkT mask).advance (trS mask h (n + k))=_;rw [ih];unfold SetTable.advance;dsimp only [seg];rw [if_pos [2]];congr 1
theorem tp0 {mask:Nat} {h:Int} {n i p:Nat} (e:trS mask h n=seg mask i p):trS mask h (n + (SetTable.runEnd mask i - i) + 1)=seg mask (SetTable.leap mask i p).1 (SetTable.leap mask i p).2:=by
 have ih:=tw0 e _ [14];show (mkT mask).advance (trS mask h (n + (SetTable.runEnd mask i - i)))=_;rw [ih];unfold SetTable.advance;dsimp only [seg];rw [if_neg [2]];rfl
def lp (mask:Nat):Nat->Nat × Nat->Nat × Nat
 | 0,x=>x
 | k + 1,x=>lp mask k (SetTable.leap mask x.1 x.2)
theorem uu2 {mask:Nat} {h:Int}:∀ (K:Nat) {n i p:Nat},trS mask h n=seg mask i p->∃ m,n<=m /\ m<=n + 10 * K /\ trS mask h m=seg mask (lp mask K (i,p)).1 (lp mask K (i,p)).2
 | 0,n,i,p,e=>⟨n,Nat.le_refl _,Nat.le_refl _,e⟩
 | K + 1,n,i,p,e=>by
  obtain ⟨m,h1,h2,h3⟩:=uu2 K (tp0 e);have:=run9 mask i;exact ⟨m,by omega,by omega,h3⟩
theorem vw2 (mask:Nat):∀ (a b:Nat) (x:Nat × Nat),lp mask (a + b) x=lp mask b (lp mask a x)
 | 0,b,x=>by rw [Nat.zero_add]; rfl
 | a + 1,b,x=>by rw [show a + 1 + b=(a + b) + 1 by omega]; exact vw2 mask a b _
theorem ww2 (mask:Nat):∀ (k:Nat) (x:Nat × Nat),x.2 < 32 ^ k->(lp mask k x).2=0
 | 0,x,h=>by simp at h; exact h
 | k + 1,x,h=>ww2 mask k _ (by show x.2 / 32 < 32 ^ k; rw [Nat.pow_succ] at h; omega)
def f0 (mask i:Nat):Nat:=(i * 5 + 1) % (mask + 1)
def fN (mask:Nat):Nat->Nat->Nat
 | 0,i=>i
 | k + 1,i=>fN mask k (f0 mask i)
theorem tb2 (mask:Nat):∀ (k i:Nat),lp mask k (i,0)=(fN mask k i,0)
 | 0,i=>rfl
 | k + 1,i=>by
  show lp mask k (SetTable.leap mask i 0)=_;have:SetTable.leap mask i 0=(f0 mask i,0):=by unfold SetTable.leap f0; simp
  rw [this,tb2 mask k];rfl
theorem wd1 (mask:Nat):∀ (a b i:Nat),fN mask (a + b) i=fN mask b (fN mask a i)
 | 0,b,i=>by rw [Nat.zero_add]; rfl
 | a + 1,b,i=>by rw [show a + 1 + b=(a + b) + 1 by omega]; exact wd1 mask a b _
def okM:List Nat:=[7,15,31,63,127,255,511,1023,2047,4095]
def gs:Nat->Nat
 | 0=>0
 | r + 1=>5 * gs r + 1
theorem ue2:∀ r,5 ^ r=4 * gs r + 1
 | 0=>rfl
 | r + 1=>by rw [Nat.pow_succ,ue2 r]; show _=4 * (5 * gs r + 1) + 1; omega
theorem te2:∀ a b,gs (a + b)=gs a * 5 ^ b + gs b
 | a,0=>by simp [gs]
 | a,b + 1=>by
  show 5 * gs (a + b) + 1=_;rw [te2 a b,Nat.pow_succ];show _=gs a * (5 ^ b * 5) + (5 * gs b + 1);rw [Nat.mul_add,<- Nat.mul_assoc,Nat.mul_comm 5 (gs a),Nat.mul_assoc (gs a) 5,Nat.mul_comm 5 (5 ^ b)];omega
theorem ve2:∀ k,∃ o,gs (2 ^ k)=2 ^ k * (2 * o + 1)
 | 0=>⟨0,rfl⟩
 | k + 1=>by
  obtain ⟨o,e⟩:=ve2 k;refine ⟨o + (2 * o + 1) * gs (2 ^ k),?_⟩
  have h:gs (2 ^ (k + 1))=gs (2 ^ k) * (4 * gs (2 ^ k) + 2):=by
   rw [show 2 ^ (k + 1)=2 ^ k + 2 ^ k by rw [Nat.pow_succ]; omega,te2,ue2]
   grind
  rw [h,Nat.pow_succ,e];generalize 2 ^ k=P
  grind
theorem zh3 {x e P:Nat} (hP:0 < P) (h:x % P=e % P):x % (P * 2)=e % (P * 2) \/ (x + P) % (P * 2)=e % (P * 2):=by
 rw [Nat.mod_mul,Nat.mod_mul,Nat.mod_mul,h,Nat.add_mod_right,h,Nat.add_div_right _ hP];rcases Nat.mod_two_eq_zero_or_one (x / P) with a | a <;> rcases Nat.mod_two_eq_zero_or_one (e / P) with b | b
 ·left; rw [a,b]
 ·right; rw [b,show (x / P + 1) % 2=1 by omega]
 ·right; rw [b,show (x / P + 1) % 2=0 by omega]
 ·left; rw [a,b]
theorem yo1:∀ k e,∃ r,r < 2 ^ k /\ gs r % 2 ^ k=e % 2 ^ k
 | 0,e=>⟨0,by decide,by simp [Nat.mod_one]⟩
 | k + 1,e=>by
  obtain ⟨r,hr,h⟩:=yo1 k e;have hP:0 < 2 ^ k:=Nat.two_pow_pos k;rw [Nat.pow_succ];rcases zh3 hP h with q | q
  ·exact ⟨r,by omega,q⟩
  ·refine ⟨2 ^ k + r,by omega,?_⟩;obtain ⟨o,eo⟩:=ve2 k;rw [te2,ue2,eo,<- q];generalize 2 ^ k=P at *;have:P * (2 * o + 1) * (4 * gs r + 1) + gs r=(gs r + P) + P * 2 * (o + (2 * o + 1) * (2 * gs r)):=by grind
   rw [this,Nat.add_mul_mod_self_left]
theorem wj3 (mask:Nat):∀ r,fN mask r 0=gs r % (mask + 1)
 | 0=>by show 0=0 % (mask + 1); rw [Nat.zero_mod]
 | r + 1=>by
  rw [wd1 mask r 1 0,wj3 mask r];show f0 mask (gs r % (mask + 1))=(5 * gs r + 1) % (mask + 1);unfold f0;rw [Nat.add_mod (gs r % (mask + 1) * 5),Nat.mul_mod,Nat.mod_mod,<- Nat.mul_mod,<- Nat.add_mod,Nat.mul_comm]
theorem sg3:∀ m ∈ okM,∃ k,m + 1=2 ^ k:=by
 intro m hm;simp only [okM,mem_cons,not_mem_nil,or_false] at hm;rcases hm with rfl | rfl | rfl | rfl | rfl | rfl | rfl | rfl | rfl | rfl
 ·exact ⟨3,rfl⟩
 ·exact ⟨4,rfl⟩
 ·exact ⟨5,rfl⟩
 ·exact ⟨6,rfl⟩
 ·exact ⟨7,rfl⟩
 ·exact ⟨8,rfl⟩
 ·exact ⟨9,rfl⟩
 ·exact ⟨10,rfl⟩
 ·exact ⟨11,rfl⟩
 ·exact ⟨12,rfl⟩
theorem zk4 {mask:Nat} (hm:mask ∈ okM) {i e:Nat} (hi:i<=mask) (he:e<=mask):∃ r,r<=mask /\ fN mask r i=e:=by
 obtain ⟨k,hk⟩:=sg3 mask hm
 have h2:fN mask (mask + 1) 0=0:=by
  obtain ⟨o,eo⟩:=ve2 k;rw [wj3,hk,eo,Nat.mul_mod_right]
 have g:∀ x,x<=mask->∃ r,r<=mask /\ fN mask r 0=x:=λ x hx=>by
  obtain ⟨r,hr,h⟩:=yo1 k x;refine ⟨r,by omega,?_⟩;rw [wj3,hk,h,Nat.mod_eq_of_lt [2]]
 obtain ⟨a,ha,ea⟩:=g i hi;obtain ⟨b,hb,eb⟩:=g e he;by_cases c:a<=b
 ·refine ⟨b - a,by omega,?_⟩;have:=wd1 mask a (b - a) 0;rw [show a + (b - a)=b by omega,eb,ea] at this;exact this.symm
 ·refine ⟨mask + 1 - a + b,by omega,?_⟩;have h3:=wd1 mask a (mask + 1 - a) 0;rw [show a + (mask + 1 - a)=mask + 1 by omega,h2,ea] at h3;rw [wd1,<- h3,eb]
theorem xg4 {mask:Nat}:∀ (k:Nat) (x:Nat × Nat),x.1<=mask->(lp mask k x).1<=mask
 | 0,x,h=>h
 | k + 1,x,_=>xg4 k _ (by show (x.1 * 5 + 1 + x.2 / 32) % (mask + 1)<=mask; have:=Nat.mod_lt (x.1 * 5 + 1 + x.2 / 32) (show mask + 1 > 0 by omega); omega)
theorem tm1 {mask:Nat} (hm:mask ∈ okM) {i p e:Nat} (hi:i<=mask) (hp:p < 2 ^ 64) (he:e<=mask):∃ K,K<=13 + mask /\ (lp mask K (i,p)).1=e:=by
 have h1:=ww2 mask 13 (i,p) (Nat.lt_of_lt_of_le hp [7]);have h2:=xg4 13 (i,p) hi;obtain ⟨r,hr,er⟩:=zk4 hm h2 he;refine ⟨13 + r,by omega,?_⟩;rw [vw2,show lp mask 13 (i,p)=((lp mask 13 (i,p)).1,0) from Prod.ext rfl h1,tb2,er]
theorem vi2 (h:Int):SetTable.bits h < 2 ^ 64:=by
 unfold SetTable.bits;have:=Int.emod_lt_of_pos h (show (0:Int) < 2 ^ 64 by decide);have:=Int.emod_nonneg h (show (2 ^ 64:Int) ≠ 0 by decide);omega
theorem ya1 (mask:Nat) (h:Int):trS mask h 0=seg mask (SetTable.bits h % (mask + 1)) (SetTable.bits h):=rfl
theorem wo3 {mask:Nat} (h:Int) (n:Nat):∃ n0 i p k,n=n0 + k /\ trS mask h n0=seg mask i p /\ i<=mask /\ p < 2 ^ 64 /\ k<=SetTable.runEnd mask i - i:=by
 induction n with
 | zero=>exact ⟨0,_,_,0,rfl,ya1 mask h,by have:=Nat.mod_lt (SetTable.bits h) (show mask + 1 > 0 by omega); omega,vi2 h,Nat.zero_le _⟩
 | succ n ih =>
  obtain ⟨n0,i,p,k,e1,e2,e3,e4,e5⟩:=ih;by_cases c:k + 1<=SetTable.runEnd mask i - i
  ·exact ⟨n0,i,p,k + 1,by omega,e2,e3,e4,c⟩
  ·refine ⟨n0 + (SetTable.runEnd mask i - i) + 1,_,_,0,by omega,tp0 e2,?_,?_,Nat.zero_le _⟩
   ·show (i * 5 + 1 + p / 32) % (mask + 1)<=mask; have:=Nat.mod_lt (i * 5 + 1 + p / 32) (show mask + 1 > 0 by omega); omega
   ·show p / 32 < 2 ^ 64; omega
theorem tz2 {mask:Nat} (h:Int) (n:Nat):tr mask h n<=mask:=by
 obtain ⟨n0,i,p,k,e1,e2,e3,e4,e5⟩:=wo3 (mask:=mask) h n;subst e1;show (trS mask h (n0 + k)).j<=mask;rw [tw0 e2 k e5];show i + k<=mask;have:=vu3 mask i e3;omega
theorem ti1 {mask:Nat} (hm:mask ∈ okM) (h:Int) (n:Nat) {e:Nat} (he:e<=mask):∃ m,n<=m /\ m < n + 10 * SetTable.turns mask /\ tr mask h m=e:=by
 obtain ⟨n0,i,p,k,e1,e2,e3,e4,e5⟩:=wo3 (mask:=mask) h n;have e6:=tp0 e2;have l1:(SetTable.leap mask i p).1<=mask:=by show (i * 5 + 1 + p / 32) % (mask + 1)<=mask; have:=Nat.mod_lt (i * 5 + 1 + p / 32) (show mask + 1 > 0 by omega); omega
 obtain ⟨K,hK,eK⟩:=tm1 hm l1 (show (SetTable.leap mask i p).2 < 2 ^ 64 by show p / 32 < 2 ^ 64; omega) he;obtain ⟨m,h1,h2,h3⟩:=uu2 K e6;have:=run9 mask i;refine ⟨m,by omega,by unfold SetTable.turns; omega,?_⟩;show (trS mask h m).j=e;rw [h3];exact eK
def Occ (t:SetTable) (j:Nat):Prop:=j ∈ t.place.toList \/ j ∈ t.dummies.toList
structure TOk (t:SetTable) (hs:List Int):Prop where
 ris:Rise t.place
 rid:Rise t.dummies
 dj:∀ j,j ∈ t.dummies.toList->j ∉ t.place.toList
 inP:∀ j,j ∈ t.place.toList->j<=t.mask
 inD:∀ j,j ∈ t.dummies.toList->j<=t.mask
 msk:t.mask ∈ okM
 sz:t.place.size=hs.length
 reach:∀ (i j:Nat) (h:Int),t.place[i]?=some j->hs[i]?=some h->∃ m,tr t.mask h m=j /\ ∀ l,l < m->Occ t (tr t.mask h l)
theorem TOk.occ {t:SetTable} {hs:List Int} (k:TOk t hs) (j:Nat):Occ t j ↔ t.slot j ≠ .empty:=by
 rw [Ne,yn0 k.ris k.rid];unfold Occ;constructor
 ·rintro (z | z) ⟨a,b⟩
  ·exact a z
  ·exact b z
 ·intro z;by_cases c:j ∈ t.place.toList
  ·exact .inl c
  ·by_cases d:j ∈ t.dummies.toList
   ·exact .inr d
   ·exact absurd ⟨c,d⟩ z
theorem uv2:∀ (M:Nat) (L:List Nat),(∀ e,e < M->e ∈ L)->M<=L.length
 | 0,_,_=>Nat.zero_le _
 | M + 1,L,h=>by
  have h1:=h M (Nat.lt_succ_self _);have h2:=uv2 M (L.erase M) λ e he=>(List.mem_erase_of_ne (Nat.ne_of_lt he)).mpr (h e (Nat.lt_succ_of_lt he));rw [List.length_erase_of_mem h1] at h2;have:=List.length_pos_of_mem h1;omega
theorem TOk.hole {t:SetTable} {hs:List Int} (k:TOk t hs) (r:t.fill<=t.mask):∃ e,e<=t.mask /\ t.slot e=.empty:=by
 refine Classical.byContradiction λ c=>?_
 have:=uv2 (t.mask + 1) (t.place.toList ++ t.dummies.toList) λ e he=>by
  have h1:Occ t e:=(k.occ e).mpr λ z=>c ⟨e,by omega,z⟩;exact List.mem_append.mpr h1
 rw [length_append] at this;simp only [length_toList] at this;unfold SetTable.fill at r;omega
def Sk (t:SetTable) (hashAt:Nat->Int) (h:Int) (n m:Nat):Prop:=∀ l,n<=l->l < m->t.slot (tr t.mask h l) ≠ .empty /\ ∀ i,t.slot (tr t.mask h l)=.live i->hashAt i ≠ h
def DumOk (t:SetTable) (h:Int) (d:Option Nat) (n:Nat):Prop:=∀ x,d=some x->∃ l,l < n /\ tr t.mask h l=x /\ t.slot x=.dummy
theorem DumOk.up {t:SetTable} {h:Int} {d:Option Nat} {n m:Nat} (k:DumOk t h d n) (l:n<=m):DumOk t h d m:=λ x e=>by
 obtain ⟨a,b,c⟩:=k x e;exact ⟨a,by omega,c⟩
theorem Sk.cons {t:SetTable} {hashAt:Nat->Int} {h:Int} {n m:Nat} (a:t.slot (tr t.mask h n) ≠ .empty) (b:∀ i,t.slot (tr t.mask h n)=.live i->hashAt i ≠ h) (k:Sk t hashAt h (n + 1) m):Sk t hashAt h n m:=λ l h1 h2=>by
 by_cases c:l=n
 ·subst c; exact ⟨a,b⟩
 ·exact k l [2] h2
theorem tg1 (t:SetTable) (hashAt:Nat->Int) (h:Int):∀ (fuel n:Nat) (d:Option Nat),DumOk t h d n->(∃ m,n<=m /\ m < n + fuel /\ t.slot (tr t.mask h m)=.empty) ->
    (∃ m d',SetTable.probe.go t hashAt h fuel { trS t.mask h n with dummy:=d }=some (.empty (tr t.mask h m) d') /\ n<=m /\ t.slot (tr t.mask h m)=.empty /\ Sk t hashAt h n m /\ DumOk t h d' m) ∨
    (∃ m i d',SetTable.probe.go t hashAt h fuel { trS t.mask h n with dummy:=d }=some (.candidate (tr t.mask h m) i { trS t.mask h (m + 1) with dummy:=d' }) /\ n<=m /\ t.slot (tr t.mask h m)=.live i /\ hashAt i=h /\ Sk t hashAt h n m /\ DumOk t h d' m)
 | 0,n,d,k,c=>by obtain ⟨m,a,b,_⟩:=c; omega
 | fuel + 1,n,d,k,c=>by
  have nx:t.slot (tr t.mask h n) ≠ .empty->∃ m,n + 1<=m /\ m < n + 1 + fuel /\ t.slot (tr t.mask h m)=.empty:=λ z=>by
   obtain ⟨m,a,b,e⟩:=c;refine ⟨m,?_,by omega,e⟩;by_cases y:m=n
   ·subst y; exact absurd e z
   ·omega
  unfold SetTable.probe.go;dsimp only;cases hs:t.slot (tr t.mask h n) with
  | empty=>exact .inl ⟨n,d,rfl,Nat.le_refl _,hs,λ l a b=>by omega,k⟩
  | dummy =>
   dsimp only;have e1:t.advance { trS t.mask h n with dummy:=some (tr t.mask h n) }={ trS t.mask h (n + 1) with dummy:=some (tr t.mask h n) }:=we1 t (trS t.mask h n) _;rw [e1];have k':DumOk t h (some (tr t.mask h n)) (n + 1):=λ x e=>by cases e; exact ⟨n,Nat.lt_succ_self _,rfl,hs⟩
   have e2:t.slot (tr t.mask h n) ≠ .empty:=by rw [hs]; intro z; cases z
   have e3:∀ i,t.slot (tr t.mask h n)=.live i->hashAt i ≠ h:=λ i z=>by rw [hs] at z; cases z
   rcases tg1 t hashAt h fuel (n + 1) _ k' (nx e2) with ⟨m,d',a1,a2,a3,a4,a5⟩ | ⟨m,i,d',a1,a2,a3,a4,a5,a6⟩
   ·exact .inl ⟨m,d',a1,by omega,a3,a4.cons e2 e3,a5⟩
   ·exact .inr ⟨m,i,d',a1,by omega,a3,a4,a5.cons e2 e3,a6⟩
  | live i =>
   dsimp only;have e1:t.advance { trS t.mask h n with dummy:=d }={ trS t.mask h (n + 1) with dummy:=d }:=we1 t (trS t.mask h n) _;rw [e1];have e2:t.slot (tr t.mask h n) ≠ .empty:=by rw [hs]; intro z; cases z
   by_cases c2:hashAt i=h
   ·rw [if_pos (by simpa using c2)];exact .inr ⟨n,i,d,rfl,Nat.le_refl _,hs,c2,λ l a b=>by omega,k⟩
   ·rw [if_neg (by simpa using c2)];have e3:∀ i,t.slot (tr t.mask h n)=.live i->hashAt i ≠ h:=λ i' z=>by rw [hs] at z; cases z; exact c2
    rcases tg1 t hashAt h fuel (n + 1) _ (k.up (Nat.le_succ _)) (nx e2) with ⟨m,d',a1,a2,a3,a4,a5⟩ | ⟨m,i,d',a1,a2,a3,a4,a5,a6⟩
    ·exact .inl ⟨m,d',a1,by omega,a3,a4.cons e2 e3,a5⟩
    ·exact .inr ⟨m,i,d',a1,by omega,a3,a4,a5.cons e2 e3,a6⟩
theorem TOk.probe {t:SetTable} {hs:List Int} (k:TOk t hs) (r:t.fill<=t.mask) (hashAt:Nat->Int) (h:Int) (n:Nat) (d:Option Nat) (kd:DumOk t h d n) :
    (∃ m d',t.probe hashAt h { trS t.mask h n with dummy:=d }=some (.empty (tr t.mask h m) d') /\ n<=m /\ t.slot (tr t.mask h m)=.empty /\ Sk t hashAt h n m /\ DumOk t h d' m) ∨
    (∃ m i d',t.probe hashAt h { trS t.mask h n with dummy:=d }=some (.candidate (tr t.mask h m) i { trS t.mask h (m + 1) with dummy:=d' }) /\ n<=m /\ t.slot (tr t.mask h m)=.live i /\ hashAt i=h /\ Sk t hashAt h n m /\ DumOk t h d' m):=by
 obtain ⟨e,he,ee⟩:=k.hole r;obtain ⟨m,h1,h2,h3⟩:=ti1 k.msk h n he;exact tg1 t hashAt h _ n d kd ⟨m,h1,h2,by rw [h3]; exact ee⟩
theorem wv0 {α:Type} {xs:List α} {p:Nat} {x:α} {i:Nat} (hp:p<=xs.length) (h:i < p):(xs.take p ++ x :: xs.drop p)[i]?=xs[i]?:=by
 rw [getElem?_append_left (by rw [length_take]; omega),List.getElem?_take_of_lt h]
theorem uv0 {α:Type} {xs:List α} {p:Nat} {x:α} (hp:p<=xs.length):(xs.take p ++ x :: xs.drop p)[p]?=some x:=by
 rw [List.getElem?_append_right (by rw [length_take]; omega),length_take,show p - min p xs.length=0 by omega];rfl
theorem vv0 {α:Type} {xs:List α} {p:Nat} {x:α} {i:Nat} (hp:p<=xs.length) (h:p<=i):(xs.take p ++ x :: xs.drop p)[i + 1]?=xs[i]?:=by
 rw [List.getElem?_append_right (by rw [length_take]; omega),length_take,show i + 1 - min p xs.length=(i - p) + 1 by omega,getElem?_cons_succ,getElem?_drop];congr 1;omega
def insL {α:Type} (xs:List α) (p:Nat) (x:α):List α:=xs.take p ++ x :: xs.drop p
theorem zq0 {α:Type} (xs:List α) (p:Nat) (x y:α):y ∈ insL xs p x ↔ y=x \/ y ∈ xs:=by
 have e:xs=xs.take p ++ xs.drop p:=(take_append_drop p xs).symm;unfold insL;rw [mem_append,mem_cons];constructor
 ·rintro (z | z | z)
  ·exact .inr (List.mem_of_mem_take z)
  ·exact .inl z
  ·exact .inr (List.mem_of_mem_drop z)
 ·rintro (z | z)
  ·exact .inr (.inl z)
  ·rw [e] at z;rcases List.mem_append.mp z with z | z
   ·exact .inl z
   ·exact .inr (.inr z)
theorem yf0 {α:Type} (xs:List α) (p:Nat) (x:α):(insL xs p x).length=xs.length + 1:=by
 unfold insL;rw [length_append,length_cons,length_take,length_drop];omega
theorem wq0 {α β:Type} (f:α->β) (xs:List α) (p:Nat) (x:α):(insL xs p x).map f=insL (xs.map f) p (f x):=by
 unfold insL;rw [map_append,map_cons,List.map_take,List.map_drop]
theorem xm2 {xs:Array Nat} (h:Rise xs) {j:Nat} (hn:j ∉ xs.toList):(insL xs.toList (SetTable.below xs j) j).Pairwise (· < ·):=by
 have b:∀ {i a:Nat},xs[i]?=some a->(i < SetTable.below xs j ↔ a < j):=λ q=>vk0 h j q;have hb:=tm0 h j;have e:xs.toList=xs.toList.take (SetTable.below xs j) ++ xs.toList.drop (SetTable.below xs j):=(take_append_drop _ _).symm;have h':=h;unfold Rise at h';rw [e] at h';obtain ⟨h1,h2,h3⟩:=List.pairwise_append.mp h';unfold insL;refine List.pairwise_append.mpr ⟨h1,List.pairwise_cons.mpr ⟨λ x hx=>?_,h2⟩,λ x hx y hy=>?_⟩
 ·obtain ⟨i,hi⟩:=List.mem_iff_getElem?.mp hx;rw [getElem?_drop,getElem?_toList] at hi;have:=b hi;have ne:x ≠ j:=λ z=>hn (by subst z; exact tv0 hi);omega
 ·have hxl:x < j:=by
    obtain ⟨i,hi⟩:=List.mem_iff_getElem?.mp hx
    have hlt:i < SetTable.below xs j:=by
     have:=(List.getElem?_eq_some_iff.mp hi).1;rw [length_take] at this;omega
    rw [List.getElem?_take_of_lt hlt,getElem?_toList] at hi;exact (b hi).mp hlt
  rcases List.mem_cons.mp hy with rfl | hy
  ·exact hxl
  ·exact h3 x hx y hy
theorem vj3 {xs:Array Nat} (h:Rise xs) {p j:Nat} (hp:xs[p]?=some j) (x:Nat):x ∈ (SetTable.eraseAt xs p).toList ↔ x ∈ xs.toList /\ x ≠ j:=by
 have hpl:=(Array.getElem?_eq_some_iff.mp hp).1
 have e:(SetTable.eraseAt xs p).toList=xs.toList.take p ++ xs.toList.drop (p + 1):=by
  simp [SetTable.eraseAt,List.extract_eq_take_drop,take_of_length_le]
 rw [e,mem_append];constructor
 ·rintro (z | z)
  ·obtain ⟨i,hi⟩:=List.mem_iff_getElem?.mp z
   have hlt:i < p:=by
    have:=(List.getElem?_eq_some_iff.mp hi).1;rw [length_take] at this;omega
   rw [List.getElem?_take_of_lt hlt,getElem?_toList] at hi;exact ⟨tv0 hi,Nat.ne_of_lt (vn0 h hi hp hlt)⟩
  ·obtain ⟨i,hi⟩:=List.mem_iff_getElem?.mp z;rw [getElem?_drop,getElem?_toList] at hi;exact ⟨tv0 hi,Nat.ne_of_gt (vn0 h hp hi [2])⟩
 ·rintro ⟨z,ne⟩;obtain ⟨i,hi⟩:=zc1 z;have hil:=(Array.getElem?_eq_some_iff.mp hi).1;by_cases c:i < p
  ·exact .inl (List.mem_iff_getElem?.mpr ⟨i,by rw [List.getElem?_take_of_lt c,getElem?_toList]; exact hi⟩)
  ·have:i ≠ p:=λ y=>by subst y; rw [hp] at hi; cases hi; exact ne rfl
   exact .inr (List.mem_iff_getElem?.mpr ⟨i - (p + 1),by rw [getElem?_drop,show p + 1 + (i - (p + 1))=i by omega,getElem?_toList]; exact hi⟩)
theorem zy0 (xs:Array Nat) (p:Nat):(SetTable.eraseAt xs p).toList=xs.toList.take p ++ xs.toList.drop (p + 1):=by
 simp [SetTable.eraseAt,List.extract_eq_take_drop,take_of_length_le]
theorem ym2 {xs:Array Nat} (h:Rise xs) (p:Nat):Rise (SetTable.eraseAt xs p):=by
 unfold Rise;rw [zy0];have e:xs.toList=xs.toList.take p ++ xs.toList.drop p:=(take_append_drop p xs.toList).symm;refine List.Pairwise.sublist ?_ h
 conv=>rhs; rw [e]
 refine List.Sublist.append (List.Sublist.refl _) ?_;rw [<- List.drop_drop];exact List.drop_sublist _ _
theorem vi0 {t:SetTable} (k:Rise t.dummies) (j x:Nat):x ∈ (t.put j).1.dummies.toList ↔ x ∈ t.dummies.toList /\ x ≠ j:=by
 show x ∈ (if SetTable.has t.dummies j then SetTable.eraseAt t.dummies (SetTable.below t.dummies j) else t.dummies).toList ↔ _;by_cases c:SetTable.has t.dummies j=true
 ·rw [if_pos c];obtain ⟨i,hi⟩:=zc1 ((tl0 k j).mp c);rw [sm0 k hi];exact vj3 k hi x
 ·rw [if_neg c];exact ⟨λ z=>⟨z,λ y=>by subst y; exact c ((tl0 k x).mpr z)⟩,λ z=>z.1⟩
theorem zg0 (t:SetTable) (j:Nat):(t.put j).1.place.toList=insL t.place.toList (SetTable.below t.place j) j:=SetTable.toList_insertAt _ _ _
theorem TOk.put {t:SetTable} {hs:List Int} (k:TOk t hs) {x:Nat} {h:Int} (hx:x ∉ t.place.toList) (hr:∃ m,tr t.mask h m=x /\ ∀ l,l < m->Occ t (tr t.mask h l)) :
    TOk (t.put x).1 (insL hs (SetTable.below t.place x) h):=by
 have hb:=tm0 k.ris x;have sz:=k.sz
 have oc:∀ j,Occ t j->Occ (t.put x).1 j:=λ j o=>by
  unfold Occ;rw [zg0,zq0,vi0 k.rid];by_cases c:j=x
  ·exact .inl (.inl c)
  ·exact o.elim (λ z=>.inl (.inr z)) λ z=>.inr ⟨z,c⟩
 have hxm:x<=t.mask:=by obtain ⟨m,e,_⟩:=hr; rw [<- e]; exact tz2 h m
 refine ⟨?_,?_,λ j a b=>?_,λ j a=>?_,λ j a=>?_,k.msk,?_,λ i j h' a b=>?_⟩
 ·unfold Rise; rw [zg0]; exact xm2 k.ris hx
 ·show Rise (if SetTable.has t.dummies x then SetTable.eraseAt t.dummies (SetTable.below t.dummies x) else t.dummies);split
  ·exact ym2 k.rid _
  ·exact k.rid
 ·rw [vi0 k.rid] at a;rw [zg0,zq0] at b;rcases b with rfl | b
  ·exact a.2 rfl
  ·exact k.dj j a.1 b
 ·rw [zg0,zq0] at a;rcases a with rfl | a
  ·exact hxm
  ·exact k.inP j a
 ·rw [vi0 k.rid] at a;exact k.inD j a.1
 ·rw [<- length_toList,zg0,yf0,yf0,length_toList,sz]
 ·have lp:SetTable.below t.place x<=t.place.toList.length:=by rw [length_toList]; exact hb
  have lh:SetTable.below t.place x<=hs.length:=by rw [<- sz]; exact hb
  rw [<- getElem?_toList,zg0] at a;show ∃ m,tr t.mask h' m=j /\ ∀ l,l < m->Occ (t.put x).1 (tr t.mask h' l);unfold insL at a b;by_cases c:i < SetTable.below t.place x
  ·rw [wv0 lp c,getElem?_toList] at a;rw [wv0 lh c] at b;obtain ⟨m,e,o⟩:=k.reach i j h' a b;exact ⟨m,e,λ l hl=>oc _ (o l hl)⟩
  ·by_cases c2:i=SetTable.below t.place x
   ·subst c2;rw [uv0 lp] at a;rw [uv0 lh] at b;cases a;cases b;obtain ⟨m,e,o⟩:=hr;exact ⟨m,e,λ l hl=>oc _ (o l hl)⟩
   ·obtain ⟨i',rfl⟩:∃ i',i=i' + 1:=⟨i - 1,by omega⟩;rw [vv0 lp [2],getElem?_toList] at a;rw [vv0 lh [2]] at b;obtain ⟨m,e,o⟩:=k.reach i' j h' a b;exact ⟨m,e,λ l hl=>oc _ (o l hl)⟩
theorem xm1 {t:SetTable} {hs:List Int} (k:TOk t hs) {x:Nat}:(t.put x).1.fill<=t.fill + 1:=by
 unfold SetTable.fill;have h1:(t.put x).1.place.size=t.place.size + 1:=by rw [<- length_toList,zg0,yf0,length_toList]
 have h2:(t.put x).1.dummies.size<=t.dummies.size:=by
  show (if SetTable.has t.dummies x then SetTable.eraseAt t.dummies (SetTable.below t.dummies x) else t.dummies).size<=_;split
  ·rw [<- length_toList,zy0,length_append,length_take,length_drop,length_toList]; omega
  ·exact Nat.le_refl _
 omega
theorem wr1 {t:SetTable} {hs:List Int} (k:TOk t hs) {x:Nat} (hd:t.slot x=.dummy):(t.put x).1.fill<=t.fill:=by
 unfold SetTable.fill;have h1:(t.put x).1.place.size=t.place.size + 1:=by rw [<- length_toList,zg0,yf0,length_toList]
 have m:=(zn0 k.ris k.rid (k.dj x)).mp hd;obtain ⟨i,hi⟩:=zc1 m;have hil:=(Array.getElem?_eq_some_iff.mp hi).1
 have h2:(t.put x).1.dummies.size + 1<=t.dummies.size:=by
  show (if SetTable.has t.dummies x then SetTable.eraseAt t.dummies (SetTable.below t.dummies x) else t.dummies).size + 1<=_;rw [if_pos ((tl0 k.rid x).mpr m),sm0 k.rid hi,<- length_toList,zy0,length_append,length_take,length_drop,length_toList];omega
 omega
theorem xd1 (mask:Nat) (h:Int) (owner:Array (Option Nat)):∀ (fuel n i p:Nat),trS mask h n=seg mask i p->(∃ K,K < fuel /\ owner.getD (lp mask K (i,p)).1 (some 0)=none) ->
    ∃ m,SetTable.layClean.free mask owner fuel i p=some (tr mask h m) /\ n<=m /\ owner.getD (tr mask h m) (some 0)=none /\ ∀ l,n<=l->l < m->owner.getD (tr mask h l) (some 0) ≠ none
 | 0,n,i,p,e,c=>by obtain ⟨K,a,_⟩:=c; omega
 | fuel + 1,n,i,p,e,c=>by
  have trk:∀ k,k<=SetTable.runEnd mask i - i->tr mask h (n + k)=i + k:=λ k hk=>by
   show (trS mask h (n + k)).j=_;rw [tw0 e k hk]
  have rl:=wu3 mask i;unfold SetTable.layClean.free;cases hf:(List.range (SetTable.runEnd mask i + 1 - i)).find? (λ k=>(owner.getD (i + k) (some 0)).isNone) with
  | some k =>
   dsimp only;obtain ⟨h1,h2,h3⟩:=List.find?_range_eq_some.mp hf;have h2':k < SetTable.runEnd mask i + 1 - i:=List.mem_range.mp h2;refine ⟨n + k,by rw [trk k [2]],by omega,by rw [trk k [2]]; simpa using h1,λ l a b=>?_⟩;obtain ⟨l',rfl⟩:∃ l',l=n + l':=⟨l - n,by omega⟩;rw [trk l' [2]];have:=h3 l' [2];intro z;rw [z] at this;simp at this
  | none =>
   dsimp only;have h1:=List.find?_range_eq_none.mp hf
   have h1':∀ k,k<=SetTable.runEnd mask i - i->owner.getD (i + k) (some 0) ≠ none:=λ k hk z=>by
    have:=h1 k [2];rw [z] at this;simp at this
   have c':∃ K,K < fuel /\ owner.getD (lp mask K (SetTable.leap mask i p)).1 (some 0)=none:=by
    obtain ⟨K,a,b⟩:=c;cases K with
    | zero=>exact absurd b (h1' 0 (Nat.zero_le _))
    | succ K=>exact ⟨K,by omega,b⟩
   obtain ⟨m,a1,a2,a3,a4⟩:=xd1 mask h owner fuel _ _ _ (tp0 e) c';refine ⟨m,a1,by omega,a3,λ l b1 b2=>?_⟩;by_cases z:l<=n + (SetTable.runEnd mask i - i)
   ·obtain ⟨l',rfl⟩:∃ l',l=n + l':=⟨l - n,by omega⟩;rw [trk l' [2]];exact h1' l' [2]
   ·exact a4 l [2] b2
theorem ux2 {α β:Type} {f:α->Option β}:∀ {L:List α},(∀ j ∈ L,f j ≠ none)->(L.filterMap f).length=L.length
 | [],_=>rfl
 | j :: L,h=>by
  have h1:=h j (mem_cons_self ..);obtain ⟨b,hb⟩:∃ b,f j=some b:=by cases hq:f j with | none=>exact absurd hq h1 | some b=>exact ⟨b,rfl⟩
  rw [List.filterMap_cons_some hb,length_cons,length_cons,ux2 λ x hx=>h x (mem_cons_of_mem _ hx)]
theorem xy0 {α β:Type} {f g:α->Option β}:∀ {L:List α},(∀ j ∈ L,f j=g j)->L.filterMap f=L.filterMap g
 | [],_=>rfl
 | j :: L,h=>by
  rw [filterMap_cons,filterMap_cons,h j (mem_cons_self ..),xy0 λ x hx=>h x (mem_cons_of_mem _ hx)]
theorem vx2 {f g:Nat->Option Nat} {x k:Nat} (e1:f x=none) (e2:g x=some k) (e3:∀ y,y ≠ x->g y=f y):∀ {L:List Nat},L.Nodup->x ∈ L->(L.filterMap g).Perm (k :: L.filterMap f)
 | [],_,h=>by cases h
 | y :: L,nd,h=>by
  obtain ⟨n1,n2⟩:=List.nodup_cons.mp nd;by_cases c:y=x
  ·subst c;rw [List.filterMap_cons_some e2,List.filterMap_cons_none e1];refine List.Perm.cons _ (List.Perm.of_eq ?_);exact xy0 λ j hj=>e3 j λ z=>n1 (z ▸ hj)
  ·have ih:=vx2 e1 e2 e3 n2 (by rcases List.mem_cons.mp h with rfl | h; exact absurd rfl c; exact h);have e:=e3 y c;cases hf:f y with
   | none=>rw [List.filterMap_cons_none (by rw [e,hf]),List.filterMap_cons_none hf]; exact ih
   | some b =>
    rw [List.filterMap_cons_some (by rw [e,hf]),List.filterMap_cons_some hf];exact (List.Perm.cons _ ih).trans (List.Perm.swap _ _ _)
structure OwnOk (mask:Nat) (hs:List Int) (owner:Array (Option Nat)):Prop where
 sz:owner.size=mask + 1
 perm:((List.range (mask + 1)).filterMap λ j=>owner.getD j none).Perm (List.range hs.length)
 reach:∀ j k,owner.getD j none=some k->∃ h,hs[k]?=some h /\ ∃ m,tr mask h m=j /\ ∀ l,l < m->owner.getD (tr mask h l) none ≠ none
theorem sx0 {owner:Array (Option Nat)} {j:Nat} (h:j < owner.size) (a b:Option Nat):owner.getD j a=owner.getD j b:=by simp [Array.getD,h]
theorem OwnOk.step {mask:Nat} (hm:mask ∈ okM) {hs:List Int} {owner:Array (Option Nat)} (k:OwnOk mask hs owner) (hl:hs.length<=mask) (h:Int) :
    ∃ x,SetTable.layClean.free mask owner (SetTable.turns mask) (SetTable.bits h % (mask + 1)) (SetTable.bits h)=some x /\ OwnOk mask (hs ++ [h]) (owner.setIfInBounds x (some hs.length)):=by
 have sz:=k.sz
 obtain ⟨e,he,ee⟩:∃ e,e<=mask /\ owner.getD e none=none:=by
  refine Classical.byContradiction λ c=>?_;have h1:=ux2 (f:=λ j=>owner.getD j none) (L:=List.range (mask + 1)) λ j hj z=>c ⟨j,by have:=List.mem_range.mp hj; omega,z⟩;rw [k.perm.length_eq,length_range,length_range] at h1;omega
 have hi:SetTable.bits h % (mask + 1)<=mask:=by have:=Nat.mod_lt (SetTable.bits h) (show mask + 1 > 0 by omega); omega
 obtain ⟨K,hK,eK⟩:=tm1 hm hi (vi2 h) he;obtain ⟨m,a1,a2,a3,a4⟩:=xd1 mask h owner (SetTable.turns mask) 0 _ _ (ya1 mask h) ⟨K,by unfold SetTable.turns; omega,by rw [eK,sx0 [2] _ none]; exact ee⟩;have ml:∀ l,tr mask h l < owner.size:=λ l=>by have:=tz2 (mask:=mask) h l; omega
 have a3':owner.getD (tr mask h m) none=none:=by rw [sx0 (ml m) _ (some 0)]; exact a3
 have gx:(owner.setIfInBounds (tr mask h m) (some hs.length)).getD (tr mask h m) none=some hs.length:=by
  have:=ml m;simp [Array.getD,this]
 have gy:∀ y,y ≠ tr mask h m->(owner.setIfInBounds (tr mask h m) (some hs.length)).getD y none=owner.getD y none:=λ y hy=>by
  by_cases c:y < owner.size
  ·simp [Array.getD,c,Array.getElem_setIfInBounds,Ne.symm hy]
  ·simp [Array.getD,c]
 have mono:∀ y,owner.getD y none ≠ none->(owner.setIfInBounds (tr mask h m) (some hs.length)).getD y none ≠ none:=λ y hy=>by
  by_cases c:y=tr mask h m
  ·subst c; rw [gx]; intro z; cases z
  ·rw [gy y c]; exact hy
 refine ⟨tr mask h m,a1,by rw [Array.size_setIfInBounds]; exact sz,?_,λ j q e=>?_⟩
 ·refine (vx2 a3' gx gy List.nodup_range (List.mem_range.mpr (by have:=ml m; omega))).trans ?_;rw [length_append,length_singleton];exact ((List.Perm.cons _ k.perm).trans (List.perm_append_singleton _ _).symm).trans (List.Perm.of_eq List.range_succ.symm)
 ·by_cases c:j=tr mask h m
  ·subst c;rw [gx] at e;cases e;refine ⟨h,by simp,m,rfl,λ l hl=>mono _ ?_⟩;have:=a4 l (Nat.zero_le _) hl;rw [sx0 (ml l) _ none] at this;exact this
  ·rw [gy j c] at e;obtain ⟨h',b1,m',b2,b3⟩:=k.reach j q e;refine ⟨h',?_,m',b2,λ l hl=>mono _ (b3 l hl)⟩;rw [getElem?_append_left (List.getElem?_eq_some_iff.mp b1).1];exact b1
theorem se2 {mask:Nat} (hm:mask ∈ okM):∀ (rest done:List Int) (owner:Array (Option Nat)),OwnOk mask done owner->done.length + rest.length<=mask + 1 ->
    ∃ owner',List.foldl (λ acc h=>do
     let (owner,k) <- acc
     let j <- SetTable.layClean.free mask owner (SetTable.turns mask) (SetTable.bits h % (mask + 1)) (SetTable.bits h)
     pure (owner.setIfInBounds j (some k),k + 1)) (some (owner,done.length)) rest=some (owner',done.length + rest.length) /\ OwnOk mask (done ++ rest) owner'
 | [],done,owner,k,_=>⟨owner,rfl,by rw [append_nil]; exact k⟩
 | h :: rest,done,owner,k,hl=>by
  rw [length_cons] at hl;obtain ⟨x,e,k'⟩:=k.step hm [2] h;obtain ⟨o',e',k''⟩:=se2 hm rest (done ++ [h]) _ k' (by rw [length_append,length_singleton]; omega);refine ⟨o',?_,by rw [append_assoc] at k''; exact k''⟩;rw [length_append,length_singleton] at e';rw [List.foldl_cons,length_cons,show done.length + (rest.length + 1)=done.length + 1 + rest.length by omega,<- e'];simp only [bind,Option.bind,e,pure]
theorem own0 (mask:Nat):OwnOk mask [] (Array.replicate (mask + 1) none):=by
 have g:∀ j,(Array.replicate (mask + 1) (none:Option Nat)).getD j none=none:=λ j=>by
  by_cases c:j < mask + 1 <;> simp [Array.getD,c]
 refine ⟨by simp,?_,λ j k e=>by rw [g] at e; cases e⟩;rw [List.filterMap_eq_nil_iff.mpr λ j _=>g j];exact List.Perm.refl _
theorem vg1 {mask:Nat} (hm:mask ∈ okM) (hs:Array Int) (hl:hs.size<=mask + 1):∃ owner,SetTable.layClean mask hs=some owner /\ OwnOk mask hs.toList owner:=by
 obtain ⟨o,e,k⟩:=se2 hm hs.toList [] _ (own0 mask) (by simpa using hl);refine ⟨o,?_,by simpa using k⟩;unfold SetTable.layClean;rw [<- Array.foldl_toList];rw [length_nil] at e;rw [e];rfl
theorem sh3 {mask:Nat} (hm:mask ∈ okM) (hs:Array Int) (hl:hs.size<=mask + 1) (fi mo:Nat) (le pl:Bool) :
    ∃ t' order,SetTable.laid mask fi mo le pl hs=some (t',order) /\ t'.mask=mask /\ t'.dummies = #[] /\ t'.led=le /\ t'.plain=pl /\ t'.finger=fi /\ t'.moves=mo /\ order.toList.Perm (List.range hs.size) /\ TOk t' (order.toList.map λ k=>hs.getD k 0):=by
 obtain ⟨o,e,k⟩:=vg1 hm hs hl;unfold SetTable.laid;rw [e];refine ⟨_,_,rfl,rfl,rfl,rfl,rfl,rfl,rfl,?_,?_⟩
 ·have:(((List.range (mask + 1)).filterMap λ j=>(o.getD j none).map (j,·)).map (·.2))=(List.range (mask + 1)).filterMap λ j=>o.getD j none:=by
    rw [List.map_filterMap];refine xy0 λ j _=>?_;cases o.getD j none <;> rfl
  simp only [List.toList_toArray];rw [this];simpa using k.perm
 ·generalize hlv:((List.range (mask + 1)).filterMap λ j=>(o.getD j none).map (j,·))=live
  have lget:∀ x,x ∈ live->x.1<=mask /\ o.getD x.1 none=some x.2:=λ x hx=>by
   rw [<- hlv] at hx;obtain ⟨j,hj,ej⟩:=List.mem_filterMap.mp hx;cases hq:o.getD j none with
   | none=>rw [hq] at ej; cases ej
   | some b=>rw [hq] at ej; cases ej; exact ⟨by have:=List.mem_range.mp hj; show j<=mask; omega,hq⟩
  have lin:∀ j q,j<=mask->o.getD j none=some q->j ∈ live.map (·.1):=λ j q hj eq=>by
   rw [<- hlv];exact List.mem_map.mpr ⟨(j,q),List.mem_filterMap.mpr ⟨j,List.mem_range.mpr [2],by rw [eq]; rfl⟩,rfl⟩
  have pw:(live.map (·.1)).Pairwise (· < ·):=by
   rw [<- hlv,List.map_filterMap,List.pairwise_filterMap];refine List.pairwise_lt_range.imp_of_mem ?_
   ·intro a b ha hb hab x hx y hy;cases hq:o.getD a none with
    | none=>rw [hq] at hx; cases hx
    | some u =>
     cases hq2:o.getD b none with
     | none=>rw [hq2] at hy; cases hy
     | some v=>rw [hq] at hx; rw [hq2] at hy; cases hx; cases hy; exact hab
  refine ⟨by simpa [Rise] using pw,List.Pairwise.nil,λ j z=>by simp at z,λ j z=>?_,λ j z=>by simp at z,hm,by simp,λ i j h a b=>?_⟩
  ·have z':j ∈ live.map (·.1):=by simpa using z
   obtain ⟨x,hx,rfl⟩:=List.mem_map.mp z';exact (lget x hx).1
  ·have a':(live.map (·.1))[i]?=some j:=by simpa using a
   have b':((live.map (·.2)).map λ k=>hs.getD k 0)[i]?=some h:=by simpa using b
   rw [getElem?_map] at a' b';rw [getElem?_map] at b';cases hx:live[i]? with
   | none=>rw [hx] at a'; cases a'
   | some x =>
    rw [hx] at a' b';have a2:x.1=j:=by simpa using a'
    have b2:hs.getD x.2 0=h:=by simpa using b'
    obtain ⟨g1,g2⟩:=lget x (mem_of_getElem? hx);obtain ⟨h',c1,m,c2,c3⟩:=k.reach _ _ g2
    have hh:h'=h:=by
     rw [<- b2];rw [getElem?_toList] at c1;obtain ⟨hl1,hl2⟩:=Array.getElem?_eq_some_iff.mp c1;simp [Array.getD,hl1,hl2]
    subst hh;refine ⟨m,by rw [c2,a2],λ l hl=>.inl ?_⟩;have c4:=c3 l hl;cases hq:o.getD (tr mask h' l) none with
    | none=>exact absurd hq c4
    | some q=>simpa using lin _ q (tz2 h' l) hq
theorem vo0:∀ n,n < 512->SetTable.sizeAbove (n * 4) - 1 ∈ okM /\ n * 5 < (SetTable.sizeAbove (n * 4) - 1) * 3 /\ SetTable.sizeAbove (n * 4)<=2048:=by
 have:((List.range 512).all λ n=>decide (SetTable.sizeAbove (n * 4) - 1 ∈ okM /\ n * 5 < (SetTable.sizeAbove (n * 4) - 1) * 3 /\ SetTable.sizeAbove (n * 4)<=2048))=true:=by decide +kernel
 intro n hn;exact of_decide_eq_true (List.all_eq_true.mp this n (List.mem_range.mpr hn))
end Pv
namespace Pv
open PySem PySem.Spec PySem.W PyProof.Rows L2
class TKy (α:Type) where
 kI:α->List Int
 inj:∀ {a b:α},kI a=kI b->a=b
 dd:α
instance tky3:TKy T3 where
 kI:=λ t=>[t.1,t.2.1,t.2.2]
 inj:=λ {a b} h=>by
  injection h with h1 h2
  injection h2 with h2 h3
  injection h3 with h3
  exact Prod.ext h1 (Prod.ext h2 h3)
 dd:=(0,0,0)
section
variable {α:Type} [TKy α] {prog:Program} {w:World} {A:Around} {E:[4]} {s:Shared}
abbrev TK (prog:Program) (w:World) (h:Heap) (t:α) (a:Addr):Prop:=IsTupleKey (intKind prog w) h (TKy.kI t) a
def hT (prog:Program) (w:World) (t:α):Int:=tupleKeyHash (intKind prog w) (TKy.kI t)
theorem ui3 {k:α} {b:Addr} {Q:Int->Shared->Prop} (hu:A.units < cLine) (i:TK prog w s.heap k b) (h:∀ tk,Q (hT prog w k) { s with toks:=tk }):wpAny [11] A (pyHash (.ref b)) Q E s:=wpAny_pyHash_tuple hu i (h _)
theorem IsT3.key {h:Heap} {a:Addr} {t:T3} (i:IsT3 h (.ref a) t):TK prog w h t a:=by
 obtain ⟨a',o,t1,t2,t3,n,e1,e2,e3,e4⟩:=i;cases e1;exact ⟨o,_,n,e2,e3,e4,.cons (intKind_is ..) (.cons (intKind_is ..) (.cons (intKind_is ..) .nil))⟩
theorem tn1 {k:Int} {v:Value} (z:(intKind prog w).is k v=true):∃ tk,v=.int k tk:=by
 cases v <;> simp [intKind,Value.isInt] at z;exact ⟨_,by rw [z]⟩
theorem TK.t3 {h:Heap} {a:Addr} {t:T3} (i:TK prog w h t a):IsT3 h (.ref a) t:=by
 obtain ⟨o,items,n,e1,e2,e3,e4⟩:=i;obtain ⟨it⟩:=items;cases e4 with
 | cons a1 e4 =>
  cases e4 with
  | cons a2 e4 =>
   cases e4 with
   | cons a3 e4 =>
    cases e4;obtain ⟨t1,rfl⟩:=tn1 a1;obtain ⟨t2,rfl⟩:=tn1 a2;obtain ⟨t3,rfl⟩:=tn1 a3;exact ⟨a,o,t1,t2,t3,n,rfl,e1,e2,e3⟩
theorem TK.kept {h h':Heap} {a:Addr} {t:α} (k:∀ o,h.get? a=some o->o.cls=.type "tuple" -> h'.get? a=some o) (i:TK prog w h t a):TK prog w h' t a:=by
 obtain ⟨o,items,n,e1,e2,e3⟩:=i;exact ⟨o,items,n,k o e1 e2,e2,e3⟩
theorem sp0 {a:Addr} {Q:Bool->Shared->Prop} (h:Q true s):wpAny [11] A (isSame (.ref a) (.ref a)) Q E s:=by
 unfold isSame;dsimp only;rw [if_pos (beq_self_eq_true a)];exact wpAny_pure h
theorem TK.items {h:Heap} {a:Addr} {t:α} (i:TK prog w h t a):∃ o its n,h.get? a=some o /\ o.cls=.type "tuple" /\ o.data=.seq its n /\ ∀ v ∈ its.toList,∃ i t,v=Value.int i t:=by
 obtain ⟨o,items,n,e1,e2,e3,e4⟩:=i;refine ⟨o,items,n,e1,e2,e3,?_⟩;generalize items.toList=l at e4;generalize TKy.kI t=ks at e4
 induction e4 with
 | nil=>exact λ v h=>nomatch h
 | cons a _ ih =>
  intro v hv;rcases List.mem_cons.mp hv with e | hv
  ·subst e; obtain ⟨tk,e⟩:=tn1 a; exact ⟨_,tk,e⟩
  ·exact ih v hv
theorem yy2 {t:α} {a:Addr} {Q:Bool->Shared->Prop} (i:TK prog w s.heap t a) (h:Q false s):wpAny [11] A (ofAClassStatement 8 (.ref a)) Q E s:=by
 have ty:=i.typeIs;obtain ⟨o,its,n,e1,e2,e3,e4⟩:=i.items;unfold ofAClassStatement;refine wpAny_bind (wpAny_typeOf ty ?_);dsimp only;rw [if_pos [7]];refine wpAny_bind [17];rw [if_neg [7]];refine wpAny_bind (wpAny_seqItems e1 e3 ?_);dsimp only;refine wpAny_bind ?_;rw [<- Array.forIn_toList];refine wpAny_forIn_list _ (λ rest r s'=>r.1=none /\ s'=s /\ ∀ v ∈ rest,carriedByValue v=true) _ ?_ ?_ _ _ ⟨rfl,rfl,λ v hv=>by obtain ⟨i,t,rfl⟩:=e4 v hv; rfl⟩
 ·rintro v rest r s' ⟨hr,rfl,hall⟩;have hv:=hall v mem_cons_self
  have hq:ofAClassStatement 7 v=pure false:=by
   cases v with
   | ref a=>simp [carriedByValue] at hv
   | _=>first | rfl | simp [ofAClassStatement] | (unfold ofAClassStatement; rfl)
  rw [hq];refine wpAny_bind [17];simp only [Bool.false_eq_true,if_false];exact wpAny_pure ⟨rfl,rfl,λ u hu'=>hall u (mem_cons_of_mem _ hu')⟩
 ·rintro ⟨r1,r2⟩ s' ⟨hr,rfl,_⟩;simp only at hr;subst hr;exact wpAny_pure h
theorem tb3 {k:α} {b:Addr} {stored:[24]} {Q:Bool->Shared->Prop} (i:TK prog w s.heap k b) (hs:∀ v ∈ stored,∃ (t:α) (a:Addr),v=.ref a /\ TK prog w s.heap t a) (h:Q false s) :
    wpAny [11] A (searchCouldBeSeen (.ref b) stored) Q E s:=by
 unfold searchCouldBeSeen;refine wpAny_bind ?_;refine wpAny_forIn_list _ (λ rest r s'=>r.1=none /\ s'=s /\ ∀ v ∈ rest,∃ (t:α) (a:Addr),v=.ref a /\ TK prog w s.heap t a) _ ?_ ?_ _ _ ⟨rfl,rfl,hs⟩
 ·rintro v rest r s' ⟨hr,rfl,hall⟩;obtain ⟨t,a,rfl,hv⟩:=hall v mem_cons_self;have tl:=λ u hu'=>hall u (mem_cons_of_mem _ hu');dsimp only;split
  ·exact wpAny_pure ⟨rfl,rfl,tl⟩
  ·refine wpAny_bind (wpAny_eqIsQuiet_tuple i ?_);simp only [Bool.not_true,Bool.false_eq_true,if_false];refine wpAny_bind (wpAny_eqIsQuiet_tuple hv ?_);simp only [Bool.not_true,Bool.false_eq_true,if_false];refine wpAny_bind (yy2 i ?_);simp only [Bool.false_eq_true,if_false];refine wpAny_bind (yy2 hv ?_);simp only [Bool.false_eq_true,if_false];exact wpAny_pure ⟨rfl,rfl,tl⟩
 ·rintro ⟨r1,r2⟩ s' ⟨hr,rfl,_⟩;simp only at hr;subst hr;exact wpAny_pure h
theorem ys2 {t:α} {a:Addr} {Q:Bool->Shared->Prop} (i:TK prog w s.heap t a) (h:Q true s):wpAny [11] A (hashByValue 8 (.ref a)) Q E s:=by
 have ty:=i.typeIs;obtain ⟨o,its,n,e1,e2,e3,e4⟩:=i.items;unfold hashByValue;refine wpAny_bind (wpAny_specialOf ty F.slot_tuple_hash.lookup ?_);show wpAny _ _ (seqItems? (.ref a) >>= _) _ _ s;refine wpAny_bind (wpAny_seqItems e1 e3 ?_);refine wpAny_bind ?_;show wpAny _ _ (forIn its _ _) _ _ s;rw [<- Array.forIn_toList];refine wpAny_forIn_list _ (λ rest r s'=>r.1=none /\ s'=s /\ ∀ v ∈ rest,∃ i t,v=Value.int i t) _ ?_ ?_ _ _ ⟨rfl,rfl,e4⟩
 ·rintro v rest r s' ⟨hr,rfl,hall⟩;obtain ⟨j,tk,rfl⟩:=hall v mem_cons_self;have hq:hashByValue 7 (.int j tk)=pure true:=by unfold hashByValue; rfl
  rw [hq];refine wpAny_bind [17];simp only [Bool.not_true,Bool.false_eq_true,if_false];exact wpAny_pure ⟨rfl,rfl,λ u hu'=>hall u (mem_cons_of_mem _ hu')⟩
 ·rintro ⟨r1,r2⟩ s' ⟨hr,rfl,_⟩;simp only at hr;subst hr;exact wpAny_pure h
end
def bT (prog:Program) (w:World):Bool:=[11].w.params.followText "set-order"
abbrev ent {α:Type} (hf:α->Int) (x:α × Addr):Int × Value:=(hf x.1,.ref x.2)
structure SetIs {α:Type} [TKy α] (prog:Program) (w:World) (hf:α->Int) (h:Heap) (a:Addr) (o:Obj) (es:Array (Int × Value)) (ep:Nat) (t:SetTable) (xs:List (α × Addr)):Prop where
 ho:h.get? a=some o
 ex:o.ExactSet
 hd:o.data=.set es ep t
 el:es.toList=xs.map (ent hf)
 ks:∀ x ∈ xs,TK prog w h x.1 x.2
 nd:(xs.map (·.1)).Nodup
 ok:TOk t (xs.map λ x=>hf x.1)
 rm:t.fill<=t.mask
 pl:t.plain=true
 le:t.led = !bT prog w
section
variable {α:Type} [TKy α] {prog:Program} {w:World} {A:Around} {E:[4]} {s:Shared} {a:Addr} {o:Obj} {es:Array (Int × Value)} {ep:Nat} {t:SetTable} {xs:List (α × Addr)} {hf:α->Int}
theorem SetIs.at {h:Heap} (S:SetIs prog w hf h a o es ep t xs) (i:Nat):es[i]?=(xs[i]?).map (ent hf):=by rw [<- getElem?_toList,S.el,getElem?_map]
theorem SetIs.size {h:Heap} (S:SetIs prog w hf h a o es ep t xs):es.size=xs.length:=by rw [<- length_toList,S.el,length_map]
theorem SetIs.fits {h:Heap} (S:SetIs prog w hf h a o es ep t xs):t.fits es.size=true:=by
 have h1:=S.ok.sz;have h2:=S.size;have h3:=S.rm;rw [length_map] at h1;simp [SetTable.fits,h1,h2,h3]
theorem SetIs.odd {h:Heap} (S:SetIs prog w hf h a o es ep t xs):t.gaveWay=false:=by
 have:∀ m ∈ okM,(m % 2 == 0)=false:=by decide
 exact this _ S.ok.msk
theorem ub1 {f:Nat->Int} {h:Int} {n:Nat} {d:Option Nat} {hs:List Int} {r:Option SetTable.Met} (k:TOk t hs) (rm:t.fill<=t.mask) (kd:DumOk t h d n) (e:t.probe f h { trS t.mask h n with dummy:=d }=r) :
    (∃ m d',r=some (.empty (tr t.mask h m) d') /\ n<=m /\ t.slot (tr t.mask h m)=.empty /\ Sk t f h n m /\ DumOk t h d' m) ∨
    (∃ m i d',r=some (.candidate (tr t.mask h m) i { trS t.mask h (m + 1) with dummy:=d' }) /\ n<=m /\ t.slot (tr t.mask h m)=.live i /\ f i=h /\ Sk t f h n m /\ DumOk t h d' m):=by
 subst e;exact k.probe rm f h n d kd
def Hist (hf:α->Int) (t:SetTable) (xs:List (α × Addr)) (k:α) (n:Nat):Prop:=∀ l,l < n->t.slot (tr t.mask (hf k) l) ≠ .empty /\ ∀ i,t.slot (tr t.mask (hf k) l)=.live i->∀ x,xs[i]?=some x->x.1 ≠ k
theorem wf1 {k:α} {b:Addr} {adding:Bool} {Q:SetFound->Shared->Prop} (hu:A.units < cLine) (S:SetIs prog w hf s.heap a o es ep t xs) (hk:TK prog w s.heap k b)
    (found:∀ i b',xs[i]?=some (k,b')->Q (.there (if adding then none else some i)) s)
    (free:[33])
    {fuel n:Nat} {d:Option Nat} {stand:Option SetTable.Probe} (kd:DumOk t (hf k) d n) (hist:Hist hf t xs k n) (st:stand.getD (t.probeStart (hf k))={ trS t.mask (hf k) n with dummy:=d })
    (ih:∀ (n':Nat) (d':Option Nat) (stand':Option SetTable.Probe),n < n'->DumOk t (hf k) d' n'->Hist hf t xs k n'->stand'.getD (t.probeStart (hf k))={ trS t.mask (hf k) n' with dummy:=d' } ->
     wpAny [11] A (setSearchFrom a (.ref b) (hf k) adding fuel stand') Q E s) :
    wpAny [11] A (setSearchFrom a (.ref b) (hf k) adding (fuel + 1) stand) Q E s:=by
 have hist':∀ {f:Nat->Int} {m:Nat},(∀ i,f i=((es[i]?).map (·.1)).getD 0)->Sk t f (hf k) n m->∀ l,l < m->t.slot (tr t.mask (hf k) l) ≠ .empty /\ ∀ i,t.slot (tr t.mask (hf k) l)=.live i->∀ x,xs[i]?=some x->x.1 ≠ k:=λ {f m} hf sk l hl=>by
  by_cases c:l < n
  ·exact hist l c
  ·obtain ⟨b1,b2⟩:=sk l [2] hl;refine ⟨b1,λ i e x hx z=>b2 i e ?_⟩;rw [hf,S.at,hx,Option.map_some,Option.map_some,Option.getD_some,<- z]
 unfold setSearchFrom;refine wpAny_bind [39];dsimp only;rw [S.odd,st];simp only [Bool.false_eq_true,if_false];split
 ·next met heq =>
  rcases ub1 S.ok S.rm kd heq with ⟨m,d',e,a1,a2,a3,a4⟩ | ⟨m,i,d',e,a1,a2,a3,a4,a5⟩
  ·cases e;have H:=hist' (λ _=>rfl) a3
   have nk:k ∉ xs.map (·.1):=λ z=>by
    obtain ⟨x,hx,ek⟩:=List.mem_map.mp z;obtain ⟨i,hi⟩:=List.mem_iff_getElem?.mp hx;have hlt:i < t.place.size:=by rw [S.ok.sz,length_map]; exact (List.getElem?_eq_some_iff.mp hi).1
    have hp:t.place[i]?=some t.place[i]:=Array.getElem?_eq_getElem hlt;obtain ⟨m',q1,q2⟩:=S.ok.reach i _ (hf k) hp (by rw [getElem?_map,hi]; show some (hf x.1)=_; rw [ek]);have hl:=(ua1 S.ok.ris).mpr hp;rw [<- q1] at hl;by_cases c:m' < m
    ·exact (H m' c).2 i hl x hi ek
    ·by_cases c2:m=m'
     ·subst c2; rw [a2] at hl; cases hl
     ·exact (S.ok.occ _).mp (q2 m [2]) a2
   have oc:∀ l,l < m->Occ t (tr t.mask (hf k) l):=λ l hl=>(S.ok.occ _).mpr (H l hl).1;cases d' with
   | none=>exact wpAny_pure (free _ false nk ((yn0 S.ok.ris S.ok.rid).mp a2).1 ⟨m,rfl,oc⟩ (λ z=>by cases z))
   | some x =>
    obtain ⟨l,b1,b2,b3⟩:=a4 x rfl;dsimp only;rw [b3];simp only [bne_self_eq_false,Bool.and_false,Bool.false_eq_true,if_false];refine wpAny_pure (free x true nk (S.ok.dj x ((zn0 S.ok.ris S.ok.rid (S.ok.dj x)).mp b3)) ⟨l,b2,λ l' hl=>oc l' [2]⟩ (λ _=>b3))
  ·cases e;have H:=hist' (λ _=>rfl) a4;have hp:=(ua1 S.ok.ris).mp a2;have hlt:i < xs.length:=by have:=(Array.getElem?_eq_some_iff.mp hp).1; rw [S.ok.sz,length_map] at this; exact this
   obtain ⟨x,hx⟩:∃ x,xs[i]?=some x:=⟨_,getElem?_eq_getElem hlt⟩;have he:es[i]?=some (ent hf x):=by rw [S.at,hx]; rfl
   have hkx:=S.ks x (mem_of_getElem? hx);have sm:t.sameMemory t.moves t.mask=some true:=by unfold SetTable.sameMemory; simp
   have sto:∀ v ∈ List.map (λ x=>x.snd) (Array.filter (λ x=>x.fst == hf k) es).toList,∃ (t:α) (a:Addr),v=.ref a /\ TK prog w s.heap t a:=λ v hv=>by
    obtain ⟨y,hy,rfl⟩:=List.mem_map.mp hv
    have hy':y ∈ es.toList:=by
     rw [Array.toList_filter] at hy;exact (List.mem_filter.mp hy).1
    rw [S.el] at hy';obtain ⟨z,hz,rfl⟩:=List.mem_map.mp hy';exact ⟨z.1,z.2,rfl,S.ks z hz⟩
   dsimp only;split
   ·refine wpAny_bind (tb3 hk sto ?_);simp only [Bool.false_eq_true,if_false];rw [he];dsimp only;refine wpAny_bind (wpAny_holding (wpAny_eqBool_tuple hu hkx hk ?_));refine wpAny_bind [39];dsimp only;by_cases c:x.1=k
    ·rw [decide_eq_true (congrArg TKy.kI c)];have fd:=found i x.2 (by rw [hx,<- c]);cases adding
     ·rw [sm];simp only [Bool.false_and,Bool.false_eq_true,if_false,if_true];rw [a2];dsimp only;rw [he];dsimp only;refine wpAny_bind (sp0 (wpAny_bind [17]));exact wpAny_pure fd
     ·exact wpAny_pure fd
    ·rw [decide_eq_false (λ z=>c (TKy.inj z)),sm];simp only [Bool.and_false,Bool.false_eq_true,if_false,if_true];rw [a2];dsimp only;rw [he];dsimp only;refine wpAny_bind (sp0 (wpAny_bind [17]));refine ih (m + 1) d' _ [2] (a5.up (Nat.le_succ _)) (λ l hl=>?_) rfl;by_cases c2:l < m
     ·exact H l c2
     ·have:l=m:=by omega
      subst this;refine ⟨(by rw [a2]; intro z; cases z),λ i' z y hy=>?_⟩;rw [a2] at z;cases z;rw [hx] at hy;cases hy;exact c
   ·rw [he];dsimp only;refine wpAny_bind (wpAny_holding (wpAny_eqBool_tuple hu hkx hk ?_));refine wpAny_bind [39];dsimp only;by_cases c:x.1=k
    ·rw [decide_eq_true (congrArg TKy.kI c)];have fd:=found i x.2 (by rw [hx,<- c]);cases adding
     ·rw [sm];simp only [Bool.false_and,Bool.false_eq_true,if_false,if_true];rw [a2];dsimp only;rw [he];dsimp only;refine wpAny_bind (sp0 (wpAny_bind [17]));exact wpAny_pure fd
     ·exact wpAny_pure fd
    ·rw [decide_eq_false (λ z=>c (TKy.inj z)),sm];simp only [Bool.and_false,Bool.false_eq_true,if_false,if_true];rw [a2];dsimp only;rw [he];dsimp only;refine wpAny_bind (sp0 (wpAny_bind [17]));refine ih (m + 1) d' _ [2] (a5.up (Nat.le_succ _)) (λ l hl=>?_) rfl;by_cases c2:l < m
     ·exact H l c2
     ·have:l=m:=by omega
      subst this;refine ⟨(by rw [a2]; intro z; cases z),λ i' z y hy=>?_⟩;rw [a2] at z;cases z;rw [hx] at hy;cases hy;exact c
 ·next hne =>
  rcases ub1 S.ok S.rm kd rfl with ⟨m,d',e,a1,a2,a3,a4⟩ | ⟨m,i,d',e,a1,a2,a3,a4,a5⟩
  ·exact (hne _ e).elim
  ·exact (hne _ e).elim
theorem vw1 {k:α} {b:Addr} {adding:Bool} {Q:SetFound->Shared->Prop} (hu:A.units < cLine) (S:SetIs prog w hf s.heap a o es ep t xs) (hk:TK prog w s.heap k b)
    (found:∀ i b',xs[i]?=some (k,b')->Q (.there (if adding then none else some i)) s)
    (free:[33])
    (N:Nat) (hN:t.slot (tr t.mask (hf k) N)=.empty) (r:Nat):∀ (fuel n:Nat) (d:Option Nat) (stand:Option SetTable.Probe),N < n + r->r<=fuel->DumOk t (hf k) d n->Hist hf t xs k n ->
    stand.getD (t.probeStart (hf k))={ trS t.mask (hf k) n with dummy:=d } ->
    wpAny [11] A (setSearchFrom a (.ref b) (hf k) adding fuel stand) Q E s:=by
 induction r with
 | zero =>
  intro fuel n d stand h1 h2 kd hist st;exact absurd hN (hist N [2]).1
 | succ r ih =>
  intro fuel n d stand h1 h2 kd hist st;cases fuel with
  | zero=>omega
  | succ fuel=>exact wf1 hu S hk found free kd hist st λ n' d' stand' a1 a2 a3 a4=>ih fuel n' d' stand' [2] [2] a2 a3 a4
end
section
variable {α:Type} [TKy α] {prog:Program} {w:World} {A:Around} {E:[4]} {s:Shared} {a:Addr} {o:Obj} {es:Array (Int × Value)} {ep:Nat} {t:SetTable} {xs:List (α × Addr)} {hf:α->Int}
theorem un0:∀ m ∈ okM,7<=m /\ m<=4095:=by decide
theorem sa1 {k:α} {b:Addr} {adding:Bool} {Q:SetFound->Shared->Prop} (hu:A.units < cLine) (S:SetIs prog w hf s.heap a o es ep t xs) (hk:TK prog w s.heap k b)
    (found:∀ i b',xs[i]?=some (k,b')->Q (.there (if adding then none else some i)) s)
    (free:[33]) :
    wpAny [11] A (setSearch a (.ref b) (hf k) adding) Q E s:=by
 obtain ⟨e,he,ee⟩:=S.ok.hole S.rm;obtain ⟨N,_,h2,h3⟩:=ti1 S.ok.msk (hf k) 0 he;have hm:=un0 _ S.ok.msk;unfold SetTable.turns at h2;unfold setSearch;refine vw1 hu S hk found free N (by rw [h3]; exact ee) (N + 1) _ 0 none none [2] [2] (λ x z=>by cases z) (λ l hl=>absurd hl (Nat.not_lt_zero _)) ?_;rfl
theorem sb3 (b:Addr) (es:Array (Int × Value)):byScan (.ref b) es=false:=by simp [byScan,Value.scannable]
theorem SetIs.store {h:Heap} (S:SetIs prog w hf h a o es ep t xs) {xs':List (α × Addr)} {es':Array (Int × Value)} {t':SetTable} (el:es'.toList=xs'.map (ent hf)) (ks:∀ x ∈ xs',TK prog w h x.1 x.2) (nd:(xs'.map (·.1)).Nodup)
    (ok:TOk t' (xs'.map λ x=>hf x.1)) (rm:t'.fill<=t'.mask) (pl:t'.plain=true) (le:t'.led = !bT prog w) :
    SetIs prog w hf (h.update a (Obj.putSet es' t')) a { o with data:=.set es' (ep + 1) t' } es' (ep + 1) t' xs':=by
 have hg:(h.update a (Obj.putSet es' t')).get? a=some { o with data:=.set es' (ep + 1) t' }:=by
  have:=Heap.get?_update_self (Obj.putSet es' t') S.ho (by rw [putSet_of es' t' S.hd]; rfl);rw [putSet_of es' t' S.hd] at this; exact this
 refine ⟨hg,S.ex,rfl,el,λ x hx=>(ks x hx).kept λ o' e1 e2=>?_,nd,ok,rm,pl,le⟩;rw [Heap.get?_update_ne _ _ _ _ (λ z=>?_)]
 ·exact e1
 ·rw [z,S.ho] at e1;cases e1;rw [S.ex.1] at e2;injection e2 with e
  exact absurd e [7]
theorem tl4 {α β:Type} {m m':Sem α} {g:α->Sem β} {Q:β->Shared->Prop} (e:m=m') (h:wpAny [11] A (m' >>= g) Q E s):wpAny [11] A (m >>= g) Q E s:=by rw [e]; exact h
theorem tw2 {α:Type} {fe:α->Int × Value} {xs:List α} {es:Array (Int × Value)} (d:α) {mk fi mo:Nat} {le pl:Bool} (m1:mk ∈ okM) (hl:xs.length<=mk + 1) (eel:es.toList=xs.map (fe)) :
    ∃ t' order,∃ xs':List α,SetTable.laid mk fi mo le pl (es.map (·.1))=some (t',order) /\ (order.filterMap λ k=>es[k]?).toList=xs'.map (fe) /\ xs'.Perm xs /\ (order.filterMap λ k=>es[k]?).size=es.size /\ TOk t' (xs'.map λ x=>(fe x).1) /\ t'.mask=mk /\ t'.dummies = #[] /\ t'.led=le /\ t'.plain=pl /\ order.toList.Perm (List.range xs.length):=by
 have sz:es.size=xs.length:=by rw [<- length_toList,eel,length_map]
 have hat:∀ i:Nat,es[i]?=(xs[i]?).map (fe):=λ i=>by rw [<- getElem?_toList,eel,getElem?_map]
 obtain ⟨t',order,e1,e2,e3,e4,e5,e6,e7,e8,e9⟩:=sh3 m1 (es.map (·.1)) (by rw [size_map,sz]; omega) fi mo le pl;rw [size_map,sz] at e8;have olt:∀ k ∈ order.toList,k < xs.length:=λ k hk=>List.mem_range.mp (e8.mem_iff.mp hk)
 have fm:∀ (l:List Nat),(∀ k ∈ l,k < xs.length)->l.filterMap (λ k=>es[k]?)=(l.map λ k=>xs.getD k d).map (fe):=λ l=>by
  induction l with
  | nil=>intro _; rfl
  | cons k l ih =>
   intro hl;have hk:=hl k (mem_cons_self ..);rw [List.filterMap_cons_some (b:=fe (xs.getD k d)),ih λ j hj=>hl j (mem_cons_of_mem _ hj),map_cons,map_cons];rw [hat,getD_eq_getElem?_getD,getElem?_eq_getElem hk];simp only [Option.map_some,Option.getD_some]
 have fm':(order.filterMap λ k=>es[k]?).toList=(order.toList.map λ k=>xs.getD k d).map (fe):=by rw [Array.toList_filterMap]; exact fm _ olt
 have pm:(order.toList.map λ k=>xs.getD k d).Perm xs:=by
  refine (e8.map _).trans (List.Perm.of_eq ?_);apply ext_getElem
  ·simp
  ·intro i h1 h2;simp [getD_eq_getElem?_getD,getElem?_eq_getElem h2]
 have hz:(order.filterMap λ k=>es[k]?).size=es.size:=by rw [<- length_toList,fm',length_map,pm.length_eq,sz]
 have hok:TOk t' ((order.toList.map λ k=>xs.getD k d).map λ x=>(fe x).1):=by
  have:(order.toList.map λ k=>(es.map (·.1)).getD k 0)=(order.toList.map λ k=>xs.getD k d).map λ x=>(fe x).1:=by
   rw [map_map];refine map_congr_left λ k hk=>?_;have hl:=olt k hk;have hl2:k < es.size:=by omega
   have q:es[k]?=some (fe (xs.getD k d)):=by
    rw [hat,getD_eq_getElem?_getD,getElem?_eq_getElem hl];simp only [Option.map_some,Option.getD_some]
   rw [Array.getElem?_eq_getElem hl2] at q;injection q with q
   simp only [Array.getD,size_map,hl2,dite_true,Array.getInternal_eq_getElem,Array.getElem_map,q,Function.comp]
  rw [<- this];exact e9
 exact ⟨t',order,_,e1,fm',pm,hz,hok,e2,e3,e4,e5,e8⟩
theorem tx1 {Q:Unit->Shared->Prop} {wd:Nat} (S:SetIs prog w hf s.heap a o es ep t xs) (m1:SetTable.sizeAbove wd - 1 ∈ okM) (m2:xs.length * 5 < (SetTable.sizeAbove wd - 1) * 3) (m3:SetTable.sizeAbove wd<=2048)
    (h:∀ h' o' es' ep' t' xs',Heap.SameBut a s.heap h'->SetIs prog w hf h' a o' es' ep' t' xs'->xs'.Perm xs->t'.fill * 5 < t'.mask * 3->t'.mask=SetTable.sizeAbove wd - 1->t'.dummies = #[]->Q () [36]) :
    wpAny [11] A (setRelay a wd) Q E s:=by
 have sz:=S.size;have mm:=un0 _ m1;have sl:SetTable.sizeAbove wd<=sizeLine:=by rw [sizeLine_eq]; omega
 obtain ⟨t',order,xs',e1,fm',pm,hz,hok,e2,e3,e4,e5,_⟩:=tw2 (fe:=ent hf) (TKy.dd,0) (fi:=t.finger) (mo:=t.movedTo (SetTable.sizeAbove wd - 1)) (le:=t.led) (pl:=t.plain) m1 [2] S.el;have el:t.relaid (es.map (·.1)) wd=some (t',order):=e1
 have rm:t'.fill * 5 < t'.mask * 3:=by
  have h1:=hok.sz;rw [length_map,pm.length_eq] at h1;unfold SetTable.fill;rw [h1,e3,e2];simpa using m2
 have hm:=un0 _ hok.msk;unfold setRelay;refine wpAny_bind [39];dsimp only;rw [if_neg [2],el];refine tl4 (m':=if ((order.filterMap λ k=>es[k]?).size != es.size)=true then (unsupported "internal:set-table-lost-an-element" >>= λ (_:PUnit)=>pure ((order.filterMap λ k=>es[k]?),t')) else pure ((order.filterMap λ k=>es[k]?),t')) rfl ?_;rw [hz];simp only [bne_self_eq_false,Bool.false_eq_true,if_false];refine wpAny_bind (wpAny_pure (wpAny_storeSet_of S.ho S.hd ?_ (by rw [hz,sz,sizeLine_eq]; omega)));exact h _ _ _ _ _ _ (Heap.SameBut.update _ a _) (S.store fm' (λ x hx=>S.ks x (pm.mem_iff.mp hx)) ((pm.map _).nodup_iff.mpr S.nd) hok (show t'.fill<=t'.mask by omega) (by rw [e5]; exact S.pl) (by rw [e4]; exact S.le)) pm rm e2 e3
theorem vm2 {Q:Unit->Shared->Prop} {n:Nat} (S:SetIs prog w hf s.heap a o es ep t xs) (hn:xs.length < 512) (en:n=xs.length)
    (h:∀ h' o' es' ep' t' xs',Heap.SameBut a s.heap h'->SetIs prog w hf h' a o' es' ep' t' xs'->xs'.Perm xs->t'.fill * 5 < t'.mask * 3->Q () [36]) :
    wpAny [11] A (setRelay a (n * 4)) Q E s:=by
 subst en;obtain ⟨m1,m2,m3⟩:=vo0 _ hn;exact tx1 S m1 m2 m3 λ h' o' es' ep' t' xs' q1 q2 q3 q4 _ _=>h h' o' es' ep' t' xs' q1 q2 q3 q4
def SetG {α:Type} [TKy α] (prog:Program) (w:World) (hf:α->Int) (h:Heap) (a:Addr) (xs:List (α × Addr)):Prop:=∃ o es ep t,SetIs prog w hf h a o es ep t xs /\ t.fill * 5 < t.mask * 3
theorem ul4 {k:α} {b:Addr} {Q:Bool->Shared->Prop} (hu:A.units < cLine) (S:SetG prog w hf s.heap a xs) (hk:TK prog w s.heap k b) (hn:xs.length + 1 < 512)
    (old:k ∈ xs.map (·.1)->Q false s)
    (new:k ∉ xs.map (·.1)->∀ h' xs',Heap.SameBut a s.heap h'->SetG prog w hf h' a xs'->xs'.Perm ((k,b) :: xs)->Q true [36]):wpAny [11] A (setAddHashed a (.ref b) (hf k)) Q E s:=by
 obtain ⟨o,es,ep,t,S,rm5⟩:=S;have hm:=un0 _ S.ok.msk;have sz:=S.size;unfold setAddHashed setAddHashedIn;refine wpAny_holding (wpAny_bind [39]);dsimp only;rw [sb3];simp only [Bool.false_eq_true,if_false];refine wpAny_bind (sa1 hu S hk (λ i b' e=>?_) λ sl wd nk ns rc wdd=>?_)
 ·exact wpAny_pure (old (List.mem_map.mpr ⟨_,mem_of_getElem? e,rfl⟩))
 ·dsimp only;refine wpAny_bind [39];dsimp only;have ok':=S.ok.put ns rc;have f1:=xm1 S.ok (x:=sl);have pl':(t.put sl).1.plain=true:=S.pl;have mk':(t.put sl).1.mask=t.mask:=rfl;rw [pl'];simp only [if_true];refine wpAny_bind (ys2 hk ?_);simp only [if_true]
  have el':(SetTable.insertAt es (t.put sl).2 (hf k,Value.ref b)).toList=(insL xs (SetTable.below t.place sl) (k,b)).map (ent hf):=by
   rw [SetTable.toList_insertAt,wq0,S.el];rfl
  have pm:(insL xs (SetTable.below t.place sl) (k,b)).Perm ((k,b) :: xs):=by
   unfold insL;exact List.perm_middle.trans (List.Perm.cons _ (List.Perm.of_eq (take_append_drop _ _)))
  have sz':(SetTable.insertAt es (t.put sl).2 (hf k,Value.ref b)).size=xs.length + 1:=by rw [<- length_toList,el',length_map,yf0]
  have S':=S.store el' (λ x hx=>by
   rcases (zq0 _ _ _ _).mp hx with rfl | hx
   ·exact hk
   ·exact S.ks x hx) ((pm.map _).nodup_iff.mpr (List.nodup_cons.mpr ⟨nk,S.nd⟩)) (by rw [wq0]; exact ok') (by rw [mk']; omega) pl' S.le
  refine wpAny_bind (wpAny_storeSet_of S.ho S.hd ?_ (by rw [sz',sizeLine_eq]; omega));have sb:=Heap.SameBut.update s.heap a (Obj.putSet (SetTable.insertAt es (t.put sl).2 (hf k,Value.ref b)) (t.put sl).1);split
  ·next c =>
   have gr:SetTable.grown (es.size + 1)=(xs.length + 1) * 4:=by unfold SetTable.grown; rw [if_neg [2],sz]
   rw [gr];refine wpAny_bind (vm2 S' (by rw [yf0]; omega) (by rw [yf0]) λ h' o' es' ep' t' xs' q1 q2 q3 q4=>wpAny_pure ?_);exact new nk h' xs' (sb.trans q1) ⟨_,_,_,_,q2,q4⟩ (q3.trans pm)
  ·next c =>
   refine wpAny_pure (new nk _ _ sb ⟨_,_,_,_,S',?_⟩ pm);cases wd with
   | true =>
    have f2:=wr1 S.ok (wdd rfl);rw [mk'];omega
   | false =>
    simp only [Bool.not_false,Bool.true_and,SetTable.tooFull,decide_eq_true_eq] at c;omega
end
def Got {α:Type} (P:Nat->Value->Prop) (ks:Nat->α) (i:Nat) (xs:List (α × Addr)):Prop:=(∀ x ∈ xs,∃ j,j < i /\ P j (.ref x.2) /\ ks j=x.1) /\ ∀ j,j < i->ks j ∈ xs.map (·.1)
def KpH (h h':Heap):Prop:=∀ b o,h.get? b=some o->h'.get? b=some o
section
variable {α:Type} [TKy α] {prog:Program} {w:World} {A:Around} {E:[4]} {R:Result->Shared->Prop} {s:Shared} {hf:α->Int}
theorem SetG.nd {h:Heap} {a:Addr} {xs:List (α × Addr)} (S:SetG prog w hf h a xs):(xs.map (·.1)).Nodup:=by
 obtain ⟨o,es,ep,t,S,_⟩:=S;exact S.nd
theorem SetG.keep {h h':Heap} {a:Addr} {xs:List (α × Addr)} (S:SetG prog w hf h a xs) (k1:∀ o,h.get? a=some o->h'.get? a=some o) (k2:∀ x ∈ xs,TK prog w h' x.1 x.2):SetG prog w hf h' a xs:=by
 obtain ⟨o,es,ep,t,S,q⟩:=S;exact ⟨o,es,ep,t,⟨k1 o S.ho,S.ex,S.hd,S.el,k2,S.nd,S.ok,S.rm,S.pl,S.le⟩,q⟩
theorem Got.len {P:Nat->Value->Prop} {ks:Nat->α} {i n N:Nat} {xs:List (α × Addr)} (g:Got P ks i xs) (hi:i<=n) (nd:(xs.map (·.1)).Nodup) (B:∀ l:List α,l.Nodup->(∀ x ∈ l,∃ j,j < n /\ ks j=x)->l.length < N):xs.length < N:=by
 have:=B _ nd λ x hx=>by
  obtain ⟨y,hy,rfl⟩:=List.mem_map.mp hx;obtain ⟨j,h1,_,h2⟩:=g.1 y hy;exact ⟨j,by omega,h2⟩
 rwa [length_map] at this
theorem xm4 {I S:Addr} {fp wr:List Addr} {n:Nat} {P:Nat->Value->Prop} {St:Nat->Heap->Prop} {h0:Heap} {J:Nat->Heap->Prop} (W:Walks prog w A.in1 I fp wr n P St) (hS:S ∉ fp)
    (low:∀ b ∈ S :: wr,h0.objs.size<=b) (kj:∀ i h h',i<=n->J i h->KpH h0 h'->(∀ o,h.get? S=some o->h'.get? S=some o)->J i h')
    (ad:∀ i v (s:Shared) (Q:Bool->Shared->Prop) (E:[4]),i < n->P i v->KpH h0 s.heap->J i s.heap->(∀ b h' tk,Heap.SameBut S s.heap h'->J (i + 1) h'->Q b { s with heap:=h',toks:=tk })->wpAny [11] A.in1 (setAdd S v) Q E s) :
    ∀ (k i:Nat) (s:Shared),n - i=k->i<=n->St i s.heap->KpH h0 s.heap->J i s.heap->(∀ h' tk,KpH h0 h'->J n h'->R (.ok (.ret .none)) { s with heap:=h',toks:=tk }) ->
     codeAny [11] A (.builtin "set.update.loop" ⟨[.ref S,.ref I],[]⟩) R s:=by
 have nw:S ∉ wr:=λ h=>hS (W.sub _ h)
 have nl:∀ {b:Addr} {o:Obj},h0.get? b=some o->b ∉ wr /\ b ≠ S:=λ {b o} e =>
  ⟨λ z=>absurd (Heap.lt_size e) (Nat.not_lt.mpr (low b (mem_cons_of_mem _ z))),λ z=>absurd (Heap.lt_size e) (Nat.not_lt.mpr (low b (by rw [z]; exact mem_cons_self ..)))⟩
 intro k
 induction k with
 | zero =>
  intro i s hk hi st kp sg q;have:i=n:=by omega
  subst this;refine codeAny_builtin F.entry_set_update_loop ?_;rw [Around.under_plainId F.plain_set_update_loop _];show wpAny _ A.in1 (pyNext (.ref I) >>= _) _ _ s;refine wpAny_bind (W.done s _ _ st λ h1 tk km=>?_);show wpAny _ A.in1 (ret Value.none) _ _ _;have kp1:KpH h0 h1:=λ b o e=>km b o (nl e).1 (kp b o e);exact wpAny_pure (q h1 tk kp1 (kj _ _ _ hi sg kp1 λ o e=>km S o nw e))
 | succ k ih =>
  intro i s hk hi st kp sg q;have lt:i < n:=by omega
  refine codeAny_builtin F.entry_set_update_loop ?_;rw [Around.under_plainId F.plain_set_update_loop _];show wpAny _ A.in1 (pyNext (.ref I) >>= _) _ _ s;refine wpAny_bind (W.item i s _ _ lt st λ v h1 tk hP st1 km=>?_);have kp1:KpH h0 h1:=λ b o e=>km b o (nl e).1 (kp b o e);show wpAny _ A.in1 (holding [v] (setAdd S v) >>= _) _ _ _;refine wpAny_bind (wpAny_holding (ad i v { s with heap:=h1,toks:=tk } _ _ lt hP kp1 (kj _ _ _ hi sg kp1 λ o e=>km S o nw e) λ b h2 tk2 sb sg2=>?_));have kp2:KpH h0 h2:=λ b o e=>by rw [sb.2 b (nl e).2]; exact kp1 b o e
  refine wpAny_pure ⟨plainId_quiet F.plain_set_update_loop _,ih (i + 1) { s with heap:=h2,toks:=tk2 } [2] lt (W.frame _ h1 _ st1 λ b hb o e=>?_) kp2 sg2 λ h' tk' a b=>q h' tk' a b⟩;rw [sb.2 b (λ z=>hS (by rw [<- z]; exact hb))]; exact e
def nset (b:Bool):Obj:={ cls:=.type "set",dict:=none,data:=.set #[] 0 (.fresh 0 0 b) }
theorem ub3 (v:Value) {Q1:[4]} (h:Q1 (.ref s.heap.objs.size) { s with heap:=s.heap.push (nset (!bT prog w)) }):codeAny [11] A (.call (.builtin "set.__new__") ⟨[.type "set",v],[]⟩) (wants Q1 E) s:=by
 refine codeAny_of_tree ?_;show wpAny _ A.in1 (do checkBuiltinCall "set.__new__" ⟨[.type "set",v],[]⟩; again (.builtin "set.__new__" ⟨[.type "set",v],[]⟩)) _ _ s;refine wpAny_bind (wpAny_of_eq (F.newCall_set_1 v) (wpAny_pure ⟨plainId_quiet F.plain_set_new _,codeAny_builtin F.entry_set_new ?_⟩));rw [Around.under_plainId F.plain_set_new _]; unfold Builtin.«set.__new__» Builtin.Frozenset.newClass;have ss:=sub_set_self;obtain ⟨hp,g,d,tk,os⟩:=s;dsimp only; wp_walk;refine wpAny_askSetting [17]; dsimp only; simp only [newObj];refine wpAny_bind (wpAny_alloc [17]); exact wpAny_pure h
theorem set0 {h:Heap} {a:Addr} (e:h.get? a=some (nset (!bT prog w))):SetG prog w hf h a []:=by
 refine ⟨_,#[],0,.fresh 0 0 (!bT prog w),⟨e,?_,rfl,rfl,(λ x hx=>nomatch hx),nodup_nil,?_,(show 0<=7 by decide),rfl,rfl⟩,(show 0 * 5 < 7 * 3 by decide)⟩
 ·exact ⟨rfl,rfl,rfl⟩
 ·refine ⟨by simp [Rise,SetTable.fresh],by simp [Rise,SetTable.fresh],(λ j h=>by simp [SetTable.fresh] at h),(λ j h=>by simp [SetTable.fresh] at h),(λ j h=>by simp [SetTable.fresh] at h),(show 7 ∈ okM by decide),rfl,(λ i j h z=>by simp [SetTable.fresh] at z)⟩
theorem ts3 {l:Addr} {items:Array Value} {J:Nat->Heap->Prop} {Q:[4]} (hh:A.handled=none) (hl:s.heap.IsList l items)
    (kj:∀ i h h',i<=items.size->J i h->KpH s.heap h'->(∀ o,h.get? s.heap.objs.size=some o->h'.get? s.heap.objs.size=some o)->J i h')
    (ad:∀ i v (s':Shared) (Q:Bool->Shared->Prop) (E:[4]),i < items.size->items[i]?=some v->KpH s.heap s'.heap->J i s'.heap->(∀ b h' tk,Heap.SameBut s.heap.objs.size s'.heap h'->J (i + 1) h'->Q b { s' with heap:=h',toks:=tk })->wpAny [11] A.in1.in1.in1 (setAdd s.heap.objs.size v) Q E s')
    (j0:∀ h:Heap,h.get? s.heap.objs.size=some (nset (!bT prog w))->J 0 h)
    (h:∀ (h':Heap) (tk:Nat),KpH s.heap h'->J items.size h'->Q (.ref s.heap.objs.size) { s with heap:=h',toks:=tk }) :
    wpAny [11] A (call (.type "set") [.ref l]) Q E s:=by
 obtain ⟨c,tl,emro⟩:=F.called_set.mro;have e0:=F.called_set.made;have e1:=F.called_set.sub;refine wpAny_call (codeAny_of_tree ?_); show wpAny _ _ (callAny (.type "set") _) _ _ _;refine wpAny_pure ⟨Code.quiet_builtin _ (by decide +kernel),codeAny_builtin F.entry_type_call ?_⟩; rw [Around.under_plain (weight_type_call_type "set" [.ref l] []) rfl];have e2:=F.called_set.notType;have e3:=F.called_set.canCreate;have e4:=F.typeCall_set_1 (.ref l)
 repeat (any_goals (first | assumption | wp_step))
 refine codeAny_mono (ub3 (.ref l) (E:=E) (Q1:=λ obj s1=>obj=.ref s.heap.objs.size /\ s1={ s with heap:=s.heap.push (nset (!bT prog w)) }) ⟨rfl,rfl⟩) λ r s1 hr=>?_;cases r with
 | error e=>exact hr
 | ok fl =>
  cases fl with
  | ret obj =>
   obtain ⟨rfl,rfl⟩:=hr;have gS:(s.heap.push (nset (!bT prog w))).get? s.heap.objs.size=some (nset (!bT prog w)):=Heap.get?_push_size _ rfl;have tS:Shared.TypeIs { s with heap:=s.heap.push (nset (!bT prog w)) } (.ref s.heap.objs.size) "set" := ⟨_,gS,rfl⟩;have e5:=F.called_set.init.lookup;have e6:=F.called_set.init.bind (.ref s.heap.objs.size)
   repeat (any_goals (first | assumption | wp_step))
   refine codeAny_mono (codeAny_call_builtin (R:=wants (λ r s2=>r=.none /\ ∃ h' tk,s2={ s with heap:=h',toks:=tk } /\ KpH s.heap h' /\ J items.size h') E) F.called_set.init.plain F.entry_set_init (check_set_init_1 tS ?_)) λ r2 s2 hr2=>?_
   ·obtain ⟨ol,gl,cl,nl,dl⟩:=hl;obtain ⟨ocls,odict,odata,oslots⟩:=ol;simp only at cl dl;subst cl; subst dl;have gl':(s.heap.push (nset (!bT prog w))).get? l=some { cls:=.type "list",dict:=odict,data:=.seq items nl,slots:=oslots }:=Heap.get?_push_of_some _ gl;have f1:=F.sub_list_set;have f2:=F.sub_list_frozenset;have f3:(Value.type "list" == Value.type "dict")=false:=by decide
    have il:(s.heap.push (nset (!bT prog w))).IsList l items:=⟨_,gl',rfl,nl,rfl⟩;unfold Builtin.«set.__init__» noKeywords Builtin.Frozenset.updateFrom;generalize hPI:pyIter=PI
    wp_walk
    subst hPI; refine wpAny_pyIter_list il ?_; refine wpAny_bind (wpAny_runValue ?_);have ls:l < s.heap.objs.size:=Heap.lt_size gl;have z1:(s.heap.push (nset (!bT prog w))).objs.size=s.heap.objs.size + 1:=Heap.size_push ..;have ni:l ≠ (s.heap.push (nset (!bT prog w))).objs.size:=by rw [z1]; exact Nat.ne_of_lt (Nat.lt_succ_of_lt ls)
    refine xm4 (A:=A.in1.in1) (h0:=s.heap) (J:=J) (Walks.list (show A.in1.in1.in1.handled=none by simp [hh]) _ l ni items) (S:=s.heap.objs.size) ?_ ?_ kj (λ i v s' Q E lt e=>ad i v s' Q E lt e) (items.size - 0) 0 _ [2] (Nat.zero_le _) ?_ ?_ ?_ ?_
    ·rw [z1];intro z;rcases List.mem_cons.mp z with z | z
     ·exact Nat.ne_of_lt (Nat.lt_succ_self _) z
     ·rcases List.mem_cons.mp z with z | z
      ·exact Nat.ne_of_gt ls z
      ·cases z
    ·intro b hb;rcases List.mem_cons.mp hb with rfl | hb
     ·exact Nat.le_refl _
     ·rcases List.mem_cons.mp hb with rfl | hb
      ·rw [z1]; exact Nat.le_succ _
      ·cases hb
    ·exact ⟨[30],il.push _⟩
    ·exact λ b o e=>Heap.get?_push_of_some _ (Heap.get?_push_of_some _ e)
    ·exact j0 _ (Heap.get?_push_of_some _ gS)
    ·intro h' tk kp sg;show wpAny _ _ _ _ _ _;refine wpAny_pure ?_;show wpAny _ _ (ret Value.none) _ _ _;exact wpAny_pure ⟨rfl,h',tk,rfl,kp,sg⟩
   ·cases r2 with
    | error e=>exact hr2
    | ok fl2 =>
     cases fl2 with
     | ret r =>
      obtain ⟨rfl,h',tk,rfl,kp,sg⟩:=hr2
      repeat (any_goals (first | assumption | wp_step))
      exact h _ _ kp sg
     | _=>exact hr2.elim
  | _=>exact hr.elim
theorem uw0 {l:Addr} {items:Array Value} {ks:Nat->α} {Q:[4]} (hh:A.handled=none) (hu:A.units + 16 < cLine) (hl:s.heap.IsList l items)
    (hi:∀ i v,i < items.size->items[i]?=some v->∃ b,v=.ref b /\ TK prog w s.heap (ks i) b) (B:∀ l:List α,l.Nodup->(∀ x ∈ l,∃ j,j < items.size /\ ks j=x)->l.length < 511)
    (h:∀ (h':Heap) (tk:Nat) xs,KpH s.heap h'->SetG prog w (hT prog w) h' s.heap.objs.size xs->Got (λ i v=>items[i]?=some v) ks items.size xs->Q (.ref s.heap.objs.size) { s with heap:=h',toks:=tk }) :
    wpAny [11] A (call (.type "set") [.ref l]) Q E s:=by
 have tkk:∀ {i:Nat} {xs:List (α × Addr)} {h:Heap},i<=items.size->Got (λ i v=>items[i]?=some v) ks i xs->KpH s.heap h->∀ x ∈ xs,TK prog w h x.1 x.2:=λ {i xs h} hn g k x hx=>by
  obtain ⟨j,a1,a2,a3⟩:=g.1 x hx;obtain ⟨b,e,t⟩:=hi j _ [2] a2;cases e;rw [<- a3];exact t.kept λ o e _=>k _ o e
 refine ts3 (J:=λ i h=>∃ xs,SetG prog w (hT prog w) h s.heap.objs.size xs /\ Got (λ i v=>items[i]?=some v) ks i xs) hh hl (λ i h h' hn ⟨xs,sg,g⟩ kp ks'=>⟨xs,sg.keep ks' (tkk hn g kp),g⟩) (λ i v s' Q E lt hP kp ⟨xs,sg,g⟩ q=>?_) (λ h e=>⟨[],set0 e,(λ x hx=>nomatch hx),λ j hj=>absurd hj (Nat.not_lt_zero _)⟩) λ h' tk kp ⟨xs,sg,g⟩=>h h' tk xs kp sg g;obtain ⟨b,rfl,tb0⟩:=hi i v lt hP;have tb:TK prog w s'.heap (ks i) b:=tb0.kept λ o e _=>kp b o e;have ln:=g.len (Nat.le_of_lt lt) sg.nd B;have ua:A.in1.in1.in1.units < cLine:=by show A.units + 1 + 1 + 1 < cLine; omega
 unfold setAdd;refine wpAny_holding (wpAny_bind (ui3 ua tb λ tk2=>?_));refine ul4 (hf:=hT prog w) (s:={ s' with toks:=tk2 }) ua sg tb [2] (λ old=>?_) (λ new h2 xs2 sb sg2 pm=>?_)
 ·refine q _ s'.heap tk2 (Heap.SameBut.refl _ _) ⟨xs,sg,λ x hx=>?_,λ j hj=>?_⟩
  ·obtain ⟨j,a1,a2⟩:=g.1 x hx;exact ⟨j,by omega,a2⟩
  ·by_cases c:j < i
   ·exact g.2 j c
   ·rw [show j=i by omega]; exact old
 ·refine q _ h2 tk2 sb ⟨xs2,sg2,λ x hx=>?_,λ j hj=>?_⟩
  ·rcases List.mem_cons.mp (pm.mem_iff.mp hx) with rfl | hx
   ·exact ⟨i,by omega,hP,rfl⟩
   ·obtain ⟨j,a1,a2⟩:=g.1 x hx;exact ⟨j,by omega,a2⟩
  ·refine (pm.map (·.1)).mem_iff.mpr ?_;by_cases c:j < i
   ·exact mem_cons_of_mem _ (g.2 j c)
   ·rw [show j=i by omega]; exact mem_cons_self ..
end
theorem vn2 {α β:Type} {f:α->β} {l m:List β} (p:l.Perm m):∀ xs:List α,m=xs.map f->∃ ys:List α,ys.Perm xs /\ l=ys.map f:=by
 induction p with
 | nil=>intro xs e; cases xs with
  | nil=>exact ⟨[],.nil,rfl⟩
  | cons _ _=>cases e
 | cons a _ ih =>
  intro xs e;cases xs with
  | nil=>cases e
  | cons x xs =>
   rw [map_cons] at e;injection e with e1 e2
   obtain ⟨ys,p,q⟩:=ih xs e2;exact ⟨x :: ys,p.cons x,by rw [map_cons,e1,q]⟩
 | swap a b l =>
  intro xs e
  match xs,e with
  | x :: y :: xs,e =>
   simp only [map_cons,List.cons.injEq] at e;obtain ⟨e1,e2,e3⟩:=e;exact ⟨y :: x :: xs,.swap x y xs,by rw [map_cons,map_cons,e1,e2,e3]⟩
 | trans _ _ i1 i2 =>
  intro xs e;obtain ⟨ys,p,q⟩:=i2 xs e;obtain ⟨zs,p',q'⟩:=i1 ys q;exact ⟨zs,p'.trans p,q'⟩
theorem wo1 {α:Type}:∀ {l:List α} {i:Nat} (h:i < l.length),(l[i] :: l.eraseIdx i).Perm l
 | x :: l,0,_=>List.Perm.refl _
 | x :: l,i + 1,h=>(List.Perm.swap _ _ _).trans ((wo1 (l:=l) (i:=i) (by simpa using h)).cons x)
theorem uz1 {α:Type} (next:Nat->Nat):∀ (fuel k:Nat) (left:List α) (out:Array α),left.length<=fuel->(pickOrder.go next fuel k left out).toList.Perm (out.toList ++ left)
 | 0,k,left,out,h=>by
  have:left=[]:=List.length_eq_zero_iff.mp [2];subst this;unfold pickOrder.go;rw [append_nil]
 | fuel + 1,k,left,out,h=>by
  unfold pickOrder.go;by_cases c:left=[]
  ·subst c;simp
  ·have lt:next k % left.length < left.length:=Nat.mod_lt _ (List.length_pos_iff.mpr c)
   rw [getElem?_eq_getElem lt];dsimp only;refine (uz1 next fuel (k + 1) _ _ (by rw [List.length_eraseIdx_of_lt lt]; omega)).trans ?_;rw [Array.toList_push,append_assoc];refine List.Perm.append_left _ ?_;exact wo1 lt
theorem vz1 {α:Type} (next:Nat->Nat) (xs:Array α):(pickOrder next xs).toList.Perm xs.toList:=by
 have:=uz1 next xs.size 0 xs.toList #[] [16]
 simpa [pickOrder] using this
theorem zl4 {xs:Array Nat} (h:Rise xs):SetTable.below xs 0=0:=by
 by_cases c:SetTable.below xs 0=0
 ·exact c
 ·have hl:=tm0 h 0;have hz:0 < xs.size:=by omega
  have q:xs[0]?=some xs[0]:=Array.getElem?_eq_getElem hz;have:=(vk0 h 0 q).mp [2];omega
theorem yl4 {xs:Array Nat} (h:Rise xs) {i j:Nat} (q:xs[i]?=some j):SetTable.below xs (j + 1)=i + 1:=by
 have h1:=(vk0 h (j + 1) q).mpr [2];have hl:=tm0 h (j + 1);by_cases c:i + 1 < SetTable.below xs (j + 1)
 ·have hz:i + 1 < xs.size:=by omega
  have q2:xs[i + 1]?=some xs[i + 1]:=Array.getElem?_eq_getElem hz;have a:=(vk0 h (j + 1) q2).mp c;have b:=vn0 h q q2 [2];omega
 ·omega
theorem wa2:Manifest.owners.lookup (String.ofList "set_iterator".toList.reverse.reverse)=some Manifest.sig_set_iterator:=by kernel_rfl
theorem slot_sit:Slot "set_iterator" "__next__" "set_iterator.__next__" := by
 refine .of (owner := "set_iterator") (n := "__next__") ?_ ?_ ?_ ?_ ?_ ?_
 ·rw [typeLookup_type,builtinLookup_eq_fast]; kernel_rfl
 ·decide +kernel
 ·decide +kernel
 ·decide +kernel
 ·first | exact .inl (by decide +kernel) | exact .inr (by decide +kernel)
 ·rw [isSubtype_type]; kernel_rfl
theorem uk1:Slot "set_iterator" "__iter__" "set_iterator.__iter__" := by
 refine .of (owner := "set_iterator") (n := "__iter__") ?_ ?_ ?_ ?_ ?_ ?_
 ·rw [typeLookup_type,builtinLookup_eq_fast]; kernel_rfl
 ·decide +kernel
 ·decide +kernel
 ·decide +kernel
 ·first | exact .inl (by decide +kernel) | exact .inr (by decide +kernel)
 ·rw [isSubtype_type]; kernel_rfl
theorem vd1:entryFor table "set_iterator.__next__" = some Builtin.«set_iterator.__next__» := by exact entryFor_of_tree (by kernel_rfl)
theorem wf2:entryFor table "set_iterator.__iter__" = some Builtin.«dict_keyiterator.__iter__» := by refine entryFor_alias (id' := "dict_keyiterator.__iter__") (by kernel_rfl) ?_ (by decide +kernel) (by kernel_rfl); first | rfl | decide +kernel | (unfold String.splitOn; simp +decide [String.splitOnAux])
theorem uo1 (a:Value):argsOk "set_iterator.__next__" ⟨[a],[]⟩:=by
 unfold argsOk;rw [signature?_of (id := "set_iterator.__next__") (n := "__next__".toList.reverse) (o := "set_iterator".toList.reverse) (by kernel_rfl) wa2]
 kernel_rfl
theorem vs2 (a:Value):argsOk "set_iterator.__iter__" ⟨[a],[]⟩:=by
 unfold argsOk;rw [signature?_of (id := "set_iterator.__iter__") (n := "__iter__".toList.reverse) (o := "set_iterator".toList.reverse) (by kernel_rfl) wa2]
 kernel_rfl
theorem ss1:entryFor table "set.__iter__" = some Builtin.«frozenset.__iter__» := by exact entryFor_alias (id' := "frozenset.__iter__") (by kernel_rfl) rfl (by decide +kernel) (by kernel_rfl)
def SIt (h:Heap) (it a:Addr) (sl i n ep:Nat):Prop:=∃ o,h.get? it=some o /\ o.cls=.type "set_iterator" /\ o.data=.fields #[rawInt sl,rawInt i,.ref a,rawInt n,rawInt ep]
theorem SIt.keep {h h':Heap} {it a:Addr} {sl i n ep:Nat} (x:SIt h it a sl i n ep) (k:∀ o,h.get? it=some o->h'.get? it=some o):SIt h' it a sl i n ep:=by
 obtain ⟨o,e1,e2⟩:=x;exact ⟨o,k o e1,e2⟩
theorem SIt.ty {s:Shared} {it a:Addr} {sl i n ep:Nat} (x:SIt s.heap it a sl i n ep):s.TypeIs (.ref it) "set_iterator" := by
 obtain ⟨o,e1,e2,_⟩:=x;exact ⟨o,e1,e2⟩
theorem yf2 {h:Heap} {it:Addr} {o:Obj} {vs:Array Value} {c:Value} (e1:h.get? it=some o) (e2:o.cls=c) (e3:o.data=.fields vs) (j:Nat) (x:Value) :
    ∃ o',(h.update it (Obj.mapFields (·.setIfInBounds j x))).get? it=some o' /\ o'.cls=c /\ o'.data=.fields (vs.setIfInBounds j x) :=
 ⟨_,Heap.get?_update_self _ e1 (Obj.isFreed_of_fields (Obj.data_mapFields e3 _)),(Obj.cls_mapFields ..).trans e2,Obj.data_mapFields e3 _⟩
structure SObj (prog:Program) (w:World) (h:Heap) (a:Addr) (o:Obj) (es:Array (Int × Value)) (ep:Nat) (t:SetTable):Prop where
 ho:h.get? a=some o
 ex:o.ExactSet
 hd:o.data=.set es ep t
 fits:t.fits es.size=true
 ris:Rise t.place
 sz:t.place.size=es.size
 pl:t.plain=true
 le:t.led = !bT prog w
theorem SObj.keep {prog:Program} {w:World} {h h':Heap} {a:Addr} {o:Obj} {es:Array (Int × Value)} {ep:Nat} {t:SetTable} (S:SObj prog w h a o es ep t) (k:∀ o,h.get? a=some o->h'.get? a=some o):SObj prog w h' a o es ep t :=
 ⟨k o S.ho,S.ex,S.hd,S.fits,S.ris,S.sz,S.pl,S.le⟩
theorem SetIs.obj {prog:Program} {w:World} {hf:T3->Int} {h:Heap} {a:Addr} {o:Obj} {es:Array (Int × Value)} {ep:Nat} {t:SetTable} {xs:List (T3 × Addr)} (S:SetIs prog w hf h a o es ep t xs):SObj prog w h a o es ep t :=
 ⟨S.ho,S.ex,S.hd,S.fits,S.ok.ris,by have h1:=S.ok.sz; have h2:=S.size; rw [length_map] at h1; omega,S.pl,S.le⟩
section
variable {prog:Program} {w:World} {A:Around} {E:[4]} {s:Shared} {a it:Addr} {o:Obj} {es:Array (Int × Value)} {ep:Nat} {t:SetTable}
theorem zl2 {Q:[4]} (S:SObj prog w s.heap a o es ep t)
    (q:Q (.ref s.heap.objs.size) { s with heap:=s.heap.push { cls:=.type "set_iterator",data:=.fields #[rawInt (0:Nat),rawInt (0:Nat),.ref a,rawInt es.size,rawInt ep] } }):wpAny [11] A (pyIter (.ref a)) Q E s:=by
 have ty:s.TypeIs (.ref a) "set" := ⟨o,S.ho,S.ex.1⟩;refine wpAny_pyIter_slot ty F.slot_set_iter (wpAny_call_entry F.slot_set_iter ty ss1 ?_ (F.args_set_iter_1 _));unfold Builtin.«frozenset.__iter__» Builtin.Frozenset.slot0 slotArgs;simp only [List.isEmpty_nil,Bool.not_true,Bool.false_eq_true,↓reduceIte,bind_assoc,length_nil,bne_self_eq_false];unfold Builtin.Frozenset.addrOf Builtin.Frozenset.sizeOf;refine wpAny_bind [17]
 try dsimp only
 refine wpAny_bind [17];refine wpAny_bind (wpAny_bind (wpAny_setEntries_of S.ho S.hd S.fits [17]))
 have dr:wpAny [11] A.in1 (setDrawn a) (λ b s'=>b=false /\ s'=s) E s:=by
  unfold setDrawn setsByText;refine wpAny_bind [39];dsimp only;refine wpAny_bind (wpAny_bind (wpAny_askSetting (wpAny_pure (wpAny_pure ⟨?_,rfl⟩))));show (!_ && (!t.plain && _))=false;rw [S.pl];simp
 refine wpAny_bind (wpAny_mono dr (λ b s' h=>?_) λ _ _ h=>h);obtain ⟨rfl,rfl⟩:=h;simp only [Bool.false_eq_true,if_false];refine wpAny_bind [17];refine wpAny_bind (wpAny_setEpoch_of S.ho S.hd S.fits ?_);refine wpAny_bind (wpAny_newObj_type (wpAny_pure ⟨_,rfl, "set_iterator",_,⟨_,Heap.get?_push_size _ rfl,rfl⟩,slot_sit.lookup,q⟩))
def ordS (prog:Program) (w:World) (a:Addr) (ep:Nat) (es:Array (Int × Value)):Array (Int × Value):=if bT prog w=true then pickOrder ([11].w.params.setOrder a ep) es else es
theorem zm1:(ordS prog w a ep es).toList.Perm es.toList:=by
 unfold ordS;split
 ·exact vz1 _ _
 ·exact List.Perm.refl _
theorem vx0:(ordS prog w a ep es).size=es.size:=by
 have:=(zm1 (prog:=prog) (w:=w) (a:=a) (ep:=ep) (es:=es)).length_eq;simpa using this
theorem su0 {Q:Option (Value × Nat)->Shared->Prop} (S:SObj prog w s.heap a o es ep t) {sl i:Nat} (hb:bT prog w=false->SetTable.below t.place sl=i)
    (some':∀ e nx,(ordS prog w a ep es)[i]?=some e->(bT prog w=false->SetTable.below t.place nx=i + 1)->Q (some (e.2,nx)) s) (none':(ordS prog w a ep es)[i]?=none->Q none s) :
    wpAny [11] A (setNext a sl i ep) Q E s:=by
 unfold setNext setsByText;refine wpAny_bind [39];dsimp only;refine wpAny_bind (wpAny_bind (wpAny_askSetting [17]));unfold ordS at some' none';by_cases c:bT prog w=true
 ·rw [if_pos (show [11].w.params.followText "set-order" = true from c)];rw [if_pos c] at some' none';rw [if_neg [16]];refine wpAny_bind ?_;unfold setWalk setsByText;refine wpAny_bind [39];dsimp only;refine wpAny_bind (wpAny_bind (wpAny_askSetting [17]));rw [if_pos (show [11].w.params.followText "set-order" = true from c)];refine wpAny_bind (wpAny_askSetting (wpAny_pure [17]));show Q (Option.map _ (pickOrder ([11].w.params.setOrder a ep) es)[i]?) s;cases e:(pickOrder ([11].w.params.setOrder a ep) es)[i]? with
  | none=>exact none' e
  | some v=>exact some' v sl e (λ z=>by rw [c] at z; cases z)
 ·have cf:bT prog w=false:=by simpa using c
  rw [if_neg (show ¬ [11].w.params.followText "set-order" = true from c)];rw [if_neg c] at some' none';split
  ·next dr =>
   have:(!t.plain && decide (es.size > 1))=true:=dr;rw [S.pl] at this;cases this
  ·refine wpAny_bind ?_;show wpAny _ _ (ite (_=true) _ (pure PUnit.unit)) _ _ _;rw [if_neg (by rw [S.le,cf]; simp)];refine wpAny_pure [17];rw [hb cf];cases e:es[i]? with
   | none=>exact none' e
   | some v =>
    have hlt:i < t.place.size:=by
     have h1:=S.sz;have:=(Array.getElem?_eq_some_iff.mp e).1;omega
    have q:t.place[i]?=some t.place[i]:=Array.getElem?_eq_getElem hlt;rw [q];exact some' v _ e (λ _=>yl4 S.ris q)
theorem yl2 {Q:Option Value->Shared->Prop} (S:SObj prog w s.heap a o es ep t) {sl i:Nat} (hi:SIt s.heap it a sl i es.size ep) (hb:bT prog w=false->SetTable.below t.place sl=i) (lt:i < es.size)
    (q:∀ h' e nx,(ordS prog w a ep es)[i]?=some e->SIt h' it a nx (i + 1) es.size ep->(bT prog w=false->SetTable.below t.place nx=i + 1)->Heap.SameBut it s.heap h'->Q (some e.2) [36]):wpAny [11] A (pyNext (.ref it)) Q E s:=by
 obtain ⟨oi,a1,a2,a3⟩:=id hi;have ty:=hi.ty;unfold pyNext;refine wpAny_bind (wpAny_attempt (wpAny_callSpecial?_slot (name:=Str.ofString "__next__") ty slot_sit (wpAny_call_entry slot_sit ty vd1 ?a (uo1 _))))
 case a =>
  unfold Builtin.«set_iterator.__next__»;refine wpAny_bind (m:=slotArgs "__next__" 0 _) [17];refine wpAny_bind (wpAny_fieldsOf a1 a3 ?_);show wpAny _ _ (setEntries a >>= _) _ _ s;refine wpAny_bind (wpAny_setEntries_of S.ho S.hd S.fits ?_);rw [if_neg [16]];show wpAny _ _ (setNext a sl i ep >>= _) _ _ s;refine wpAny_bind (su0 S hb (λ e nx e1 e2=>?_) λ e=>?_)
  ·show wpAny _ _ (setField (.ref it) 0 (rawInt nx) >>= _) _ _ s;refine wpAny_bind (wpAny_setField a1 a3 [16] ?_);obtain ⟨o1,b1,b2,b3⟩:=yf2 a1 a2 a3 0 (rawInt nx);show wpAny _ _ (setField (.ref it) 1 (rawInt ((i:Int) + 1)) >>= _) _ _ _;refine wpAny_bind (wpAny_setField b1 b3 [16] ?_);obtain ⟨o2,c1,c2,c3⟩:=yf2 b1 b2 b3 1 (rawInt ((i:Int) + 1));show wpAny _ _ (ret e.2) _ _ _;exact wpAny_pure ⟨_,rfl,wpAny_pure (q _ e nx e1 ⟨o2,c1,c2,c3⟩ e2 ((Heap.SameBut.update ..).trans (Heap.SameBut.update ..)))⟩
  ·rw [Array.getElem?_eq_getElem (by rw [vx0]; exact lt)] at e;cases e
theorem wb3 {Q:Option Value->Shared->Prop} (hh:A.handled=none) (S:SObj prog w s.heap a o es ep t) {sl:Nat} (hi:SIt s.heap it a sl es.size es.size ep) (hb:bT prog w=false->SetTable.below t.place sl=es.size)
    (q:∀ h',Heap.ExtBut it s.heap h'->Q none [36]):wpAny [11] A (pyNext (.ref it)) Q E s:=by
 obtain ⟨oi,a1,a2,a3⟩:=id hi;have ty:=hi.ty;unfold pyNext;refine wpAny_bind (wpAny_attempt (wpAny_callSpecial?_slot (name:=Str.ofString "__next__") ty slot_sit (wpAny_call_entry slot_sit ty vd1 ?a (uo1 _))))
 case a =>
  unfold Builtin.«set_iterator.__next__»;refine wpAny_bind (m:=slotArgs "__next__" 0 _) [17];refine wpAny_bind (wpAny_fieldsOf a1 a3 ?_);show wpAny _ _ (setEntries a >>= _) _ _ s;refine wpAny_bind (wpAny_setEntries_of S.ho S.hd S.fits ?_);rw [if_neg [16]];show wpAny _ _ (setNext a sl es.size ep >>= _) _ _ s;refine wpAny_bind (su0 S hb (λ e nx e1 e2=>?_) λ e=>?_)
  ·rw [Array.getElem?_eq_none (by rw [vx0]; exact Nat.le_refl _)] at e1;cases e1
  ·show wpAny _ _ (setField (.ref it) 2 .none >>= _) _ _ s; refine wpAny_bind (wpAny_setField a1 a3 [16] ?_);show wpAny _ _ (newExc (.type "StopIteration") [] >>= _) _ _ _; refine wpAny_bind ?_; simp only [newExc,newTuple];refine wpAny_bind [27];simp only [raiseNew]; refine wpAny_bind (wpAny_handled ?_); rw [show A.in1.handled=none from hh];refine wpAny_bind (wpAny_pure (wpAny_throw ?_)); refine wpAny_bind (wpAny_isInstance (T := "StopIteration") (b:=true) ⟨_,Heap.get?_push_size _ rfl,rfl⟩ isSubtype_stop ?_);exact wpAny_pure (q _ (((Heap.SameBut.update ..).extBut.push _).push _))
theorem xl2 {Q:[4]} {sl i n:Nat} (hi:SIt s.heap it a sl i n ep) (h:Q (.ref it) s):wpAny [11] A (pyIter (.ref it)) Q E s:=by
 have ty:=hi.ty;refine wpAny_pyIter_slot ty uk1 (wpAny_call_entry uk1 ty wf2 ?_ (vs2 _));show wpAny _ _ (ret (.ref it)) _ _ s;exact wpAny_pure ⟨_,rfl, "set_iterator",_,ty,slot_sit.lookup,h⟩
theorem zq2 {Q:Bool->Shared->Prop} (ty:s.TypeIs (.ref a) "set") (h:Q false s):wpAny [11] A (Builtin.List.listLengthHint (.ref a)) Q E s:=by
 unfold Builtin.List.listLengthHint;refine wpAny_bind (wpAny_specialOf ty PySem.F.slot_set_len.lookup ?_); generalize hid:("set.__len__" : String)=id0; wp_delta;rw [show splitId id0=some ("set", "__len__") from by subst hid; decide +kernel]; subst hid;refine wpAny_bind (wpAny_isInstance (T := "set") (b:=true) ty (by rw [isSubtype_type]; kernel_rfl) ?_);refine wpAny_ite_split (λ c=>absurd c [7]) (λ _=>?_); refine wpAny_ite_split (λ _=>?_) (λ c=>absurd (by decide +kernel) c);exact wpAny_bind (wpAny_typeOf ty (wpAny_pure h))
theorem zw1 (hh:A.handled=none) (I a:Addr) (ne:a ≠ I):Walks prog w A I [I,a] [I] es.size (λ i v=>∃ e,(ordS prog w a ep es)[i]?=some e /\ v=e.2)
    (λ i h=>∃ sl,SIt h I a sl i es.size ep /\ (bT prog w=false->SetTable.below t.place sl=i) /\ SObj prog w h a o es ep t) where
 sub:=λ b hb=>by simp at hb; simp [hb]
 frame:=λ _ _ _ z hk=>by
  obtain ⟨sl,z1,z2,z3⟩:=z;exact ⟨sl,z1.keep λ o e=>hk I [16] o e,z2,z3.keep λ o e=>hk a [16] o e⟩
 item:=λ i s Q E hi z q=>by
  obtain ⟨sl,z1,z2,z3⟩:=z;refine yl2 z3 z1 z2 hi λ h' e nx a1 a2 a3 a4=>?_;exact q _ h' s.toks ⟨e,a1,rfl⟩ ⟨nx,a2,a3,z3.keep λ o e=>a4.extBut a o ne e⟩ λ b o hb e=>a4.extBut b o (λ y=>hb (by simp [y])) e
 done:=λ s Q E z q=>by
  obtain ⟨sl,z1,z2,z3⟩:=z;exact wb3 hh z3 z1 z2 λ h' k=>q h' s.toks λ b o hb e=>k b o (λ y=>hb (by simp [y])) e
 self:=λ _ _ _ _ z q=>by
  obtain ⟨sl,z1,_⟩:=z;exact xl2 z1 q
theorem vb3:KdlSrc prog w "set" a a es.size (λ i v=>∃ e,(ordS prog w a ep es)[i]?=some e /\ v=e.2) (λ h=>SObj prog w h a o es ep t) where
 type:=λ _ x=>⟨o,x.ho,x.ex.1⟩
 there:=λ _ x=>⟨Heap.lt_size x.ho,Heap.lt_size x.ho⟩
 keep:=λ _ _ x k=>x.keep λ o e=>k a (.inl rfl) o e
 notList:=by decide
 notTuple:=by decide
 hint:=λ _ _ _ _ x q=>zq2 ⟨o,x.ho,x.ex.1⟩ q
 iter:=λ _ s hh x=>by
  have hl:=Heap.lt_size x.ho;exact ⟨_,_,(λ _ _ q=>zl2 x q),zw1 hh _ a (Nat.ne_of_lt hl),⟨0,[30],(λ _=>zl4 x.ris),x.keep λ o e=>Heap.get?_push_of_some _ e⟩⟩
theorem zd2 {acc:Array Value} (h:ItemsOf (λ i v=>∃ e,(ordS prog w a ep es)[i]?=some e /\ v=e.2) acc es.size):acc.toList=(ordS prog w a ep es).toList.map (·.2):=by
 obtain ⟨h1,h2⟩:=h;have h3:=vx0 (prog:=prog) (w:=w) (a:=a) (ep:=ep) (es:=es);apply List.ext_getElem?;intro i;rw [getElem?_map,getElem?_toList,getElem?_toList];by_cases c:i < es.size
 ·obtain ⟨e,e1,e2⟩:=h2 i (acc[i]'(by omega)) [16];rw [e1,Array.getElem?_eq_getElem [2],e2];rfl
 ·rw [Array.getElem?_eq_none [2],Array.getElem?_eq_none [2]];rfl
theorem vt2:∀ {h:Heap} {ys:List (T3 × Addr)},(∀ x ∈ ys,TK prog w h x.1 x.2)->T3s h (ys.map λ x=>Value.ref x.2) (ys.map (·.1))
 | _,[],_=>trivial
 | _,x :: ys,k=>⟨(k x (mem_cons_self ..)).t3,vt2 λ y hy=>k y (mem_cons_of_mem _ hy)⟩
theorem xp1 {xs:List (T3 × Addr)} {hf:T3->Int} {Q:[4]} (hh:A.handled=none) (S:SetG prog w hf s.heap a xs) (h64:xs.length < 64)
    (h:∀ (ys:List (T3 × Addr)) (p:Array Nat) (h1 h':Heap) (c tk:Nat),ys.Perm xs->p.Perm (List.toArray (List.range ys.length))->Ms.Up (ltI (ys.map (·.1))) p ys.length->(∀ b o,s.heap.get? b=some o->h1.get? b=some o)->(∀ b o,h1.get? b=some o->h'.get? b=some o) ->
     h'.get? h1.objs.size=some (seqObj "list" (outV (ys.map λ x=>Value.ref x.2) p).toArray c)->Q (.ref h1.objs.size) { s with heap:=h',toks:=tk }) :
    wpAny [11] A (call (.builtin "sorted") [.ref a]) Q E s:=by
 obtain ⟨o,es,ep,t,S,_⟩:=S;have zs:=S.size;have hz:es.size<=sizeLine:=by rw [sizeLine_eq]; omega
 obtain ⟨ys,py,ey⟩:=vn2 (f:=ent hf) (zm1 (prog:=prog) (w:=w) (a:=a) (ep:=ep) (es:=es)) xs S.el;refine Calls.call_function_entry kind_sorted plain_sorted entry_sorted (args_sorted1 _) ?_;unfold Builtin.«sorted»;refine wpAny_bind (m:=checkCount "sorted" 1 1 _) (wpAny_pure (wpAny_bind (kdu_collect (vb3 (o:=o) (t:=t)) hh S.obj hz λ h1 tk acc k1 ia=>?_)));rw [zd2 ia,ey,map_map,show ((λ x:Int × Value=>x.2) ∘ ent hf)=(λ x:T3 × Addr=>Value.ref x.2) from rfl];have l0:=py.length_eq;have l1:(ys.map λ x=>Value.ref x.2).length=ys.length:=length_map _;refine wpAny_bind (wpAny_newList ?_ (by rw [l1,l0,<- zs]; exact hz));have k2:∀ b o,s.heap.get? b=some o->(h1.push (seqObj "list" (ys.map λ x=>Value.ref x.2).toArray 0)).get? b=some o:=λ b o q=>Heap.get?_push_of_some _ (k1 b o q);have zo:(h1.push (seqObj "list" (ys.map λ x=>Value.ref x.2).toArray 0)).get? h1.objs.size=some (seqObj "list" (ys.map λ x=>Value.ref x.2).toArray 0):=Heap.get?_push_size _ rfl;have tt:=Lw.mono (λ _ _=>ti3.kept λ b o e _=>k2 b o e) (vt2 (prog:=prog) (w:=w) (h:=s.heap) (ys:=ys) λ x hx=>S.ks x (py.mem_iff.mp hx));show wpAny _ _ _ _ _ { s with heap:=h1.push (seqObj "list" (ys.map λ x=>Value.ref x.2).toArray 0),toks:=tk };refine wpAny_bind (wpAny_holding (wpAny_call_entry slot_list_sort ⟨_,zo,rfl⟩ entry_list_sort (yg1 (s:={ s with heap:=h1.push (seqObj "list" (ys.map λ x=>Value.ref x.2).toArray 0),toks:=tk }) (ti3.sk tt) [14] zo (λ h' g=>ti3.keep zo g tt) (by rw [l1,l0]; omega) λ p h' c a1 a2 a3 a4=>⟨_,rfl,?_⟩) (args_list_sort _)));rw [l1] at a1 a2;exact wpAny_pure ⟨_,rfl,h ys p h1 h' c tk py a1 a2 k1 (λ b o q=>a3 b o (Nat.ne_of_lt (Heap.lt_size q)) (Heap.get?_push_of_some _ q)) a4⟩
end
abbrev vT (t:T3):List V:=[.int t.1,.int t.2.1,.int t.2.2]
def SB (ts:[34]):Prop:=∀ l:List T3,l.Nodup->(∀ x ∈ l,x ∈ ts)->l.length < 63
abbrev TSt:=L2.St->Hp->(List (T3 × Addr)->Hp->Prop)->Prop
def SE (X:Cx) (pins:[5]) (σ:L2.St) (R:List (T3 × Addr)->Hp->Prop) (u:Value) (s':Shared):Prop :=
 ∃ a xs H',u=.ref a /\ Inv X pins σ H' s' /\ FpOk X pins H' a /\ SetG X.prog X.w (hT X.prog X.w) s'.heap a xs /\ (∀ x ∈ xs,H' x.2=some (.tup (vT x.1))) /\ xs.length < 63 /\ R xs H'
def PSt (X:Cx) (e:Expr) (t:TSt):Prop :=
 ∀ (pins:[5]) (s:Shared) (σ:L2.St) (H:Hp) (R:List (T3 × Addr)->Hp->Prop),Inv X pins σ H s->t σ H R->wpAny [9] X.A (eval e X.env) (SE X pins σ R) X.xe s
theorem tt2 {prog:Program} {w:World} {h:Heap}:∀ {us:[24]} {ts:[34]} {i:Nat} {v:Value},T3s h us ts->us[i]?=some v->i < ts.length /\ ∃ b,v=.ref b /\ TK prog w h (ts.getD i (0,0,0)) b
 | [],[],i,v,_,e=>by simp at e
 | [],_ :: _,_,_,z,_=>z.elim
 | _ :: _,[],_,_,z,_=>z.elim
 | u :: us,t :: ts,0,v,z,e=>by
  simp only [List.getElem?_cons_zero,Option.some.injEq] at e;subst e;obtain ⟨a,o,t1,t2,t3,n,rfl,e2⟩:=id z.1;exact ⟨by simp,a,rfl,(show TK prog w h t a from IsT3.key z.1)⟩
 | u :: us,t :: ts,i + 1,v,z,e=>by
  simp only [getElem?_cons_succ] at e;obtain ⟨h1,b,h2,h3⟩:=tt2 (prog:=prog) (w:=w) z.2 e;exact ⟨by simp only [length_cons]; omega,b,h2,h3⟩
theorem yt2 {K:Fg} {H:Hp}:∀ {vs:List V} {ts:[34]} {us:[24]} {i:Nat} {b:Addr},V3s K H vs ts->Vals vs us->us[i]?=some (.ref b)->H b=some (.tup (vT (ts.getD i (0,0,0))))
 | [],[],_,i,b,_,.nil,e=>by simp at e
 | [],_ :: _,_,_,_,z,_,_=>z.elim
 | _ :: _,[],_,_,_,z,_,_=>z.elim
 | v :: vs,t :: ts,_,0,b,z,.cons r rs,e=>by
  simp only [List.getElem?_cons_zero,Option.some.injEq] at e;subst e;obtain ⟨⟨a,rfl,hq⟩,_⟩:=z;cases r;exact hq
 | v :: vs,t :: ts,_,i + 1,b,z,.cons r rs,e=>by
  simp only [getElem?_cons_succ] at e;exact (show H b=some (.tup (vT (ts.getD i (0,0,0)))) from yt2 (K:=K) z.2 rs e)
section
variable {X:Cx} {e:Expr} {p p2 pos pos2:Pos}
def zm4 (K:Fg) (ta:TA):TSt:=λ σ H R=>ta σ H λ xs H1=>∃ p vs ts,xs=[.ref p] /\ SqL K H1 p vs /\ V3s K H1 vs ts /\ SB ts ∧
 ∀ ys:List (T3 × Addr),(ys.map (·.1)).Nodup->(∀ t,t ∈ ys.map (·.1) ↔ t ∈ ts)->(∀ y ∈ ys,H1 y.2=some (.tup (vT y.1)))->R ys H1
theorem si3 {items:[24]} {ts:[34]} {ys:List (T3 × Addr)} {Pr:Nat->Value->Prop} (hl:items.length=ts.length) (g:Got Pr (λ i=>ts.getD i (0,0,0)) items.length ys) (t:T3):t ∈ ys.map (·.1) ↔ t ∈ ts:=by
 constructor
 ·intro h;obtain ⟨y,hy,rfl⟩:=List.mem_map.mp h;obtain ⟨j,h1,_,h2⟩:=g.1 y hy;have h2:ts.getD j (0,0,0)=y.1:=h2;rw [<- h2,getD_eq_getElem?_getD,getElem?_eq_getElem [2]];exact getElem_mem _
 ·intro h;obtain ⟨j,hj,e⟩:=List.getElem_of_mem h;have:ts.getD j (0,0,0) ∈ _:=g.2 j [2]
  rwa [getD_eq_getElem?_getD,getElem?_eq_getElem hj,Option.getD_some,e] at this
theorem xz1 {ta:TA} (hc:X.calm=true) (hu:X.A.units + 64 < cLine) (hg:Gl X "set") (hm:X.mg "set" = none) (ha:PA X [e] ta) (hs:starEach [e] X.env=[[35]]:=by rfl) :
    PSt X (.Call (.Name "set" p) [e] [] pos) (zm4 X.K ta):=by
 intro pins s σ H R I h;refine Call_ (yl0 I hg hm vy2 (PyProof.Rows.callWith_type1 (thn (ha pos pins s σ H _ I h) λ us s1 ⟨vs,H1,I1,r1,q1⟩=>?_) hs rfl));obtain ⟨a,ws,ts,e1,hq,h3,hB,k⟩:=q1;subst e1;cases r1 with
 | cons r rr =>
  cases rr;cases r
  have key:∀ {its:[24]},Vals ws its->(∀ l:List T3,l.Nodup->(∀ x ∈ l,∃ j,j < its.toArray.size /\ ts.getD j (0,0,0)=x)->l.length < 511) ∧
      (∀ i v,i < its.toArray.size->its.toArray[i]?=some v->∃ b,v=.ref b /\ TK X.prog X.w s1.heap (ts.getD i (0,0,0)) b) ∧
      ∀ (h':Heap) (tk:Nat) xs,KpH s1.heap h'->SetG X.prog X.w (hT X.prog X.w) h' s1.heap.objs.size xs->Got (λ i v=>its.toArray[i]?=some v) (λ i=>ts.getD i (0,0,0)) its.toArray.size xs->SE X pins σ R (.ref s1.heap.objs.size) { s1 with heap:=h',toks:=tk }:=λ {its} rv=>by
   have l1:=h3.len;have l2:=rv.length;have l3:its.toArray.size=its.length:=size_toArray
   have B:∀ l:List T3,l.Nodup->(∀ x ∈ l,∃ j,j < its.toArray.size /\ ts.getD j (0,0,0)=x)->l.length < 63:=λ l nd hl=>hB l nd λ x hx=>by
    obtain ⟨j,h1,h2⟩:=hl x hx;rw [<- h2,getD_eq_getElem?_getD,getElem?_eq_getElem [2]];exact getElem_mem _
   refine ⟨λ l nd hl=>Nat.lt_trans (B l nd hl) [7],λ i v lt e=>(tt2 (yw0 I1 h3 rv) (by simpa using e)).2,λ h' tk xs kp sg g=>?_⟩;have sq:∀ x ∈ xs,H1 x.2=some (.tup (vT x.1)):=λ x hx=>?_
   ·exact ⟨_,xs,H1,rfl,I1.kept kp,I1.fpOk [14] (I1.hok.fresh [14]),sg,sq,g.len [14] sg.nd B,k xs sg.nd (si3 (items:=its) [2] (by rw [<- l3]; exact g)) sq⟩
   obtain ⟨j,_,h2,h3'⟩:=g.1 x hx;have h3':ts.getD j (0,0,0)=x.1:=h3';have:=yt2 h3 rv (i:=j) (b:=x.2) (by simpa using h2)
   rwa [h3'] at this
  obtain ⟨its,rv,pl,hz⟩:=I1.list hq;obtain ⟨k1,k2,k3⟩:=key rv;exact uw0 (I1.ok.hd hc) [2] pl.isList k2 k1 k3
def ym4 (K:Fg) (ts:TSt):TE:=λ σ H Q=>ts σ H λ xs H1=>∀ (ys:List (T3 × Addr)),ys.Perm xs->∀ q:Array Nat,q.Perm (List.toArray (List.range ys.length))->Ms.Up (ltI (ys.map (·.1))) q ys.length->V3s K H1 (ys.map λ x=>V.ref x.2) (ys.map (·.1)) ->
 ∀ r,H1 r=none->Q (.ref r) (upd H1 r (.lst (q.toList.map λ i=>(ys.map λ x=>V.ref x.2).getD i .non)))
theorem xt2 {K:Fg} {H:Hp}:∀ {ys:List (T3 × Addr)},(∀ x ∈ ys,H x.2=some (.tup (vT x.1)))->V3s K H (ys.map λ x=>V.ref x.2) (ys.map (·.1))
 | [],_=>trivial
 | y :: ys,h=>⟨⟨_,rfl,h y (mem_cons_self ..)⟩,xt2 (K:=K) λ x hx=>h x (mem_cons_of_mem _ hx)⟩
theorem vt1:∀ (ys:List (T3 × Addr)),Vals (ys.map λ x=>V.ref x.2) (ys.map λ x=>Value.ref x.2)
 | []=>.nil
 | y :: ys=>.cons rfl (vt1 ys)
theorem wf3 {ts:TSt} (hc:X.calm=true) (hg:Gl X "sorted") (hm:X.mg "sorted" = none) (hp:PSt X e ts) (hs:starEach [e] X.env=[[35]]:=by rfl):PE X (.Call (.Name "sorted" p) [e] [] pos) (ym4 X.K ts):=by
 intro pins s σ H Q I h;refine Call_ (yl0 I hg hm xk0 (PyProof.Rows.callWith_builtin1 ?_ hs rfl));rw [hs];show wpAny _ _ (spliced ([35] :: backTo pos (starEach [] X.env))) _ _ s;refine Calls.spliced_cons ?_;refine thn (hp pins s σ H _ I h) λ u s1 q=>?_;obtain ⟨a,xs,H1,rfl,I1,fp,sg,sq,ln,k⟩:=q;refine Calls.spliced_nil ?_;refine xp1 (I1.ok.hd hc) sg [2] λ ys q h1 h' c tk py a1 a2 a3 a4 a5=>?_;have I2:Inv X pins σ H1 { s1 with heap:=h1,toks:=tk }:=I1.kept a3;have sz:q.toList.length=ys.length:=by have:=a1.size_eq; simpa using this
 have l0:=py.length_eq
 have lt':∀ i ∈ q.toList,i < (ys.map λ x=>V.ref x.2).length:=λ i hi=>by
  have e:i ∈ List.toArray (List.range ys.length):=a1.mem_iff.mp (by simpa using hi);rw [length_map];simpa using e
 refine ⟨.ref _,_,I2.laid (t':=tk) a4 [14] (show ObjOk X.prog X.w _ h' _ (.lst (q.toList.map λ i=>(ys.map λ x=>V.ref x.2).getD i .non)) from ⟨by rw [length_map,sz,sizeLine_eq]; omega,_,c,xm0 (vt1 ys) _ lt',a5⟩),rfl,?_⟩;exact k ys py q a1 a2 (xt2 λ x hx=>sq x (py.mem_iff.mp hx)) _ (I2.hok.fresh [14])
end
abbrev TSt3:=St3->Mu->(List T3->Mu->Prop)->Prop
def RdSt (K:Fg) (tv:TSt) (t:TSt3):Prop:=∀ σ H R ρ μ R3,RSt K H ρ σ->RelM K μ H->t ρ μ R3->(∀ xs μ' H',R3 (xs.map (·.1)) μ'->(xs.map (·.1)).Nodup->(∀ x ∈ xs,H' x.2=some (.tup (vT x.1)))->Kp H H'->RelM K μ' H'->R xs H')->tv σ H R
def REs (X:Cx) (e:Expr) (t:TSt3):Prop:=∃ tv,PSt X e tv /\ RdSt X.K tv t
def ta3 (t:TA3):TSt3:=λ ρ μ R=>t ρ μ λ ds μ1=>∃ ts,(match ds with
 | [.ref p]=>μ1 p=some (.lst (ts.map encT))
 | _=>False) /\ SB ts /\ ∀ ks:List T3,ks.Nodup->(∀ x,x ∈ ks ↔ x ∈ ts)->R ks μ1
def sa3 (t:TSt3):TE3:=λ ρ μ Q=>t ρ μ λ ks μ1=>∀ us:List T3,us.Perm ks->us.Pairwise le3->∀ r,μ1 r=none->Q (.ref r) (updM μ1 r (.lst (us.map encT)))
section
variable {X:Cx} {e:Expr} {p p2 pos pos2:Pos} {t:TE3}
theorem tw1 (he:RE X e t) (hm:X.mg "set" = none) (hu:X.A.units + 64 < cLine) (hc:X.calm=true:=by rfl) (hg:Gl X "set" := by rfl) (hs:starEach [e] X.env=[[35]]:=by rfl):REs X (.Call (.Name "set" p) [e] [] pos) (ta3 (va0 t nil3)):=by
 obtain ⟨va,pa,ra⟩:=xa0 he ta0 hs;refine ⟨_,xz1 hc hu hg hm pa hs,λ σ H R ρ μ R3 s m h k=>ra σ H _ ρ μ _ s m h λ ds μ1 vs H1 h1 k1 r1 m1=>?_⟩;obtain ⟨ts,hd,hB,q⟩:=h1;cases r1 with
 | nil=>exact hd.elim
 | cons r1 r2 =>
  cases r2 with
  | cons _ _=>cases r1 <;> exact hd.elim
  | nil =>
   cases r1 with
   | ref a =>
    obtain ⟨us,hv,rv⟩:=m1 a _ hd;exact ⟨a,us,ts,rfl,SqL.of hv,tt1 rv,hB,λ ys nd al sq=>k ys μ1 H1 (q _ nd al) nd sq k1 m1⟩
   | _=>exact hd.elim
theorem sx1 {ts:TSt3} (he:REs X e ts) (hm:X.mg "sorted" = none) (hc:X.calm=true:=by rfl) (hg:Gl X "sorted" := by rfl) (hs:starEach [e] X.env=[[35]]:=by rfl):RE X (.Call (.Name "sorted" p) [e] [] pos) (sa3 ts):=by
 obtain ⟨va,pa,ra⟩:=he;refine ⟨_,wf3 hc hg hm pa hs,λ σ H Q ρ μ Q3 s m h k=>ra σ H _ ρ μ _ s m h λ xs μ1 H1 h1 nd1 sq1 k1 m1=>?_⟩;intro ys py q a1 a2 v3 r hr;have l1:(ys.map (·.1)).length=ys.length:=length_map _;rw [<- l1] at a1 a2
 have lt':∀ i ∈ q.toList,i < (ys.map λ x=>V.ref x.2).length:=λ i hi=>by
  have e:i ∈ List.toArray (List.range (ys.map (·.1)).length):=a1.mem_iff.mp (by simpa using hi);rw [length_map] at e ⊢;simpa using e
 exact k _ _ _ _ (h1 _ ((tq0 a1).trans (py.map _)) (zf1 a1 a2) r (m1.free hr)) (k1.trans (Kp.new hr)) (.ref r) (m1.newL hr (zk0 (zl1 v3) _ lt'))
end
section
variable {X:Cx}
theorem wg4 {prog:Program} {w:World} {A:Around} {E:[4]} {s:Shared} {d:Addr} {es:Array DictEntry} {ep:Nat} {Q:[4]} (lo:(d == sysModules)=false) (x:DG s.heap d es ep) (hz:(es.size:Int) < 2 ^ 63) (q:∀ t k,Q (.int es.size t) { s with toks:=k }):wpAny [11] A (call (.builtin "len") [.ref d]) Q E s:=by
 have ty:=x.ty;obtain ⟨o,e1,e2,e3⟩:=x;refine Calls.call_function_entry kind_len plain_len entry_len (args_len1 _) ?_;unfold Builtin.«len»;refine wpAny_bind (m:=oneArg "len" _) (wpAny_pure (wpAny_bind (m:=callSpecial? (.ref d) (Str.ofString "__len__")) (wpAny_callSpecial?_slot (name:=Str.ofString "__len__") ty F.slot_dict_len (wpAny_call_entry F.slot_dict_len ty F.entry_dict_len ?a (F.args_dict_len_1 _)))))
 case a =>
  show wpAny _ _ (dictSize d >>= _) _ _ s; unfold dictSize;refine wpAny_bind (wpAny_bind (wpAny_dictEntries e1 e3 [17])); show wpAny _ _ (Builtin.Dict.pendingCount d >>= _) _ _ s;refine wpAny_bind (wpAny_pendingCount_other lo (wpAny_bind (wpAny_mkInt (wpAny_pure ⟨_,rfl,?_⟩)))); rw [Nat.add_zero];refine wpAny_bind (wpAny_holding (wpAny_pure (wpAny_bind (wpAny_letGo ?_))));show wpAny _ _ (if (es.size:Int) < 0 then _ else _) _ _ _; rw [if_neg [2]];show wpAny _ _ (if (es.size:Int) ≥ 2 ^ 63 then _ else _) _ _ _; rw [if_neg [2]];exact wpAny_bind (wpAny_mkInt (wpAny_pure ⟨_,rfl,q _ _⟩))
theorem sh2:CallR X (.builtin "len") (λ xs H Q=>∃ a kvs,xs=[.ref a] /\ H a=some (.dT kvs) /\ Q (.int kvs.length) H):=by
 intro pins s σ H xs us Q I r h;obtain ⟨a,kvs,rfl,e,q⟩:=h;obtain ⟨u,rfl,rx⟩:=ue1 r;cases rx;obtain ⟨z,hd,xs,rel,o,es,ho,hc1,hd1,he,_⟩:=ss0 I.hok (.inl e);have l2:es.size=kvs.length:=by rw [<- length_toList,he,length_map]; exact (Paired.length rel).symm
 have hn:=zv0;refine wg4 hd ⟨o,ho,hc1,hd1⟩ [2] λ t k=>⟨.int kvs.length,H,I.tok _,⟨t,by rw [l2]⟩,q⟩
def zg1:C3:=λ ds μ Q=>match ds with
 | [.ref p]=>match μ p with
  | some (.dcl l)=>Q (.int l.length) μ
  | _=>False
 | _=>False
theorem wv2:RC X (.builtin "len") zg1:=by
 refine ⟨_,sh2,λ xs vs H Q μ Q3 m rx h k=>?_⟩;unfold zg1 at h;split at h
 ·next p =>
  split at h
  ·next l e =>
   cases rx with
   | cons r rr =>
   cases rr;cases r;obtain ⟨us,hq,rl⟩:=m.dcl p l e;refine ⟨p,us,rfl,hq,?_⟩;rw [<- rl.len];exact k _ _ _ _ h (Kp.refl _) (.int _) m
  ·exact h.elim
 ·exact h.elim
end
abbrev enI (x:Int × Tok):Int × Value:=(hashInt x.1,.int x.1 x.2)
structure SIs (prog:Program) (w:World) (h:Heap) (a:Addr) (o:Obj) (es:Array (Int × Value)) (ep:Nat) (t:SetTable) (xs:List (Int × Tok)):Prop where
 ho:h.get? a=some o
 ex:o.ExactSet
 hd:o.data=.set es ep t
 el:es.toList=xs.map enI
 nd:(xs.map (·.1)).Nodup
 ok:TOk t (xs.map λ x=>(enI x).1)
 rm:t.fill * 5 < t.mask * 3
 du:t.dummies = #[]
 pl:t.plain=true
 le:t.led = !bT prog w
def SIG (prog:Program) (w:World) (h:Heap) (a:Addr) (xs:List (Int × Tok)):Prop:=∃ o es ep t,SIs prog w h a o es ep t xs
section
variable {prog:Program} {w:World} {A:Around} {E:[4]} {s:Shared} {a:Addr} {o:Obj} {es:Array (Int × Value)} {ep:Nat} {t:SetTable} {xs:List (Int × Tok)} {h:Heap}
theorem SIs.size (S:SIs prog w h a o es ep t xs):es.size=xs.length:=by rw [<- length_toList,S.el,length_map]
theorem SIs.fits (S:SIs prog w h a o es ep t xs):t.fits es.size=true:=by
 have h1:=S.ok.sz;have h2:=S.size;have h3:=S.rm;rw [length_map] at h1;simp only [SetTable.fits,h1,h2,beq_self_eq_true,Bool.true_and,decide_eq_true_eq];omega
theorem SIs.els (S:SIs prog w h a o es ep t xs):ElemsOf (intKind prog w) es.toList:=λ e he=>by
 rw [S.el] at he;obtain ⟨x,_,rfl⟩:=List.mem_map.mp he;exact ⟨⟨x.1,by simp [intKind,Value.isInt],rfl⟩,rfl⟩
theorem SIs.store (S:SIs prog w h a o es ep t xs) {xs':List (Int × Tok)} {es':Array (Int × Value)} {t':SetTable} (el:es'.toList=xs'.map enI) (nd:(xs'.map (·.1)).Nodup) (ok:TOk t' (xs'.map λ x=>(enI x).1)) (rm:t'.fill * 5 < t'.mask * 3) (du:t'.dummies = #[]) (pl:t'.plain=true) (le:t'.led = !bT prog w) :
    SIG prog w (h.update a (Obj.putSet es' t')) a xs':=by
 have hg:(h.update a (Obj.putSet es' t')).get? a=some { o with data:=.set es' (ep + 1) t' }:=by
  have:=Heap.get?_update_self (Obj.putSet es' t') S.ho (by rw [putSet_of es' t' S.hd]; rfl);rw [putSet_of es' t' S.hd] at this; exact this
 exact ⟨_,_,_,_,hg,S.ex,rfl,el,nd,ok,rm,du,pl,le⟩
theorem SIG.keep {h':Heap} (S:SIG prog w h a xs) (k:∀ o,h.get? a=some o->h'.get? a=some o):SIG prog w h' a xs:=by
 obtain ⟨o,es,ep,t,S⟩:=S;exact ⟨o,es,ep,t,k o S.ho,S.ex,S.hd,S.el,S.nd,S.ok,S.rm,S.du,S.pl,S.le⟩
theorem sig0 (e:h.get? a=some (nset (!bT prog w))):SIG prog w h a []:=by
 refine ⟨_,#[],0,.fresh 0 0 (!bT prog w),e,⟨rfl,rfl,rfl⟩,rfl,rfl,nodup_nil,?_,(show 0 * 5 < 7 * 3 by decide),rfl,rfl,rfl⟩;exact ⟨by simp [Rise,SetTable.fresh],by simp [Rise,SetTable.fresh],(λ j h=>by simp [SetTable.fresh] at h),(λ j h=>by simp [SetTable.fresh] at h),(λ j h=>by simp [SetTable.fresh] at h),(show 7 ∈ okM by decide),rfl,(λ i j h z=>by simp [SetTable.fresh] at z)⟩
theorem ui4 (S:SIs prog w h a o es ep t xs) (k:Int):∃ sl,t.freeSlot k=some (sl,false) /\ sl ∉ t.place.toList /\ ∃ m,tr t.mask k m=sl /\ ∀ l,l < m->Occ t (tr t.mask k l):=by
 have rm:=S.rm;rcases S.ok.probe [2] (λ _=>k + 1) k 0 none (λ x e=>by cases e) with ⟨m,d',e,_,a2,a3,a4⟩ | ⟨m,i,d',e,_,_,a3,_⟩
 ·have d0:d'=none:=by
    cases d' with
    | none=>rfl
    | some x =>
     obtain ⟨l,_,_,e2⟩:=a4 x rfl;have:=(zn0 S.ok.ris S.ok.rid (S.ok.dj x)).mp e2;rw [S.du] at this;cases this
  subst d0;refine ⟨tr t.mask k m,?_,((yn0 S.ok.ris S.ok.rid).mp a2).1,m,rfl,λ l hl=>(S.ok.occ _).mpr (a3 l (Nat.zero_le _) hl).1⟩;unfold SetTable.freeSlot;rw [va3];have e:t.probe (λ _=>k + 1) k (trS t.mask k 0)=some (.empty (tr t.mask k m) none):=e;rw [e];rfl
 ·exact absurd a3 [2]
theorem uw4 {k:Int} {tk:Tok} {Q:Bool->Shared->Prop} (S:SIG prog w s.heap a xs) (hn:xs.length + 1 < 512) (old:k ∈ xs.map (·.1)->Q false s)
    (new:k ∉ xs.map (·.1)->∀ h' xs',Heap.SameBut a s.heap h'->SIG prog w h' a xs'->xs'.Perm ((k,tk) :: xs)->Q true [36]):wpAny [11] A (setAddHashed a (.int k tk) (hashInt k)) Q E s:=by
 obtain ⟨o,es,ep,t,S⟩:=S;have hm:=un0 _ S.ok.msk;have sz:=S.size
 have ik:∀ x:Int × Tok,(intKind prog w).is k (enI x).2=decide (x.1=k):=λ x=>by
  show Value.isInt k (.int x.1 x.2)=_;simp only [Value.isInt];rfl
 unfold setAddHashed setAddHashedIn;refine wpAny_holding (wpAny_bind [39]);dsimp only;rw [byScan_of (knd:=intKind prog w) rfl (by show es.size < 4096; omega) S.els];simp only [if_true];unfold setAddByScan;refine wpAny_bind (wpAny_bind (wpAny_rule (wpAny_bind (wpAny_setScan_of (knd:=intKind prog w) (k:=k) (by simp [intKind,Value.isInt]) S.ho S.hd S.fits S.els ?_))));cases hr:List.findIdx? (λ e=>(intKind prog w).is k e.2) es.toList with
 | some j =>
  dsimp only;obtain ⟨hj,hpj,_⟩:=List.findIdx?_eq_some_iff_getElem.mp hr;refine wpAny_pure (wpAny_pure (old ?_));have q:∀ y,y ∈ es.toList->y ∈ xs.map enI:=λ y hy=>by rw [S.el] at hy; exact hy
  obtain ⟨x,hx,e⟩:=List.mem_map.mp (q _ (getElem_mem hj));have hp:(intKind prog w).is k (enI x).2=true:=by rw [e]; exact hpj
  rw [ik] at hp;exact List.mem_map.mpr ⟨x,hx,of_decide_eq_true hp⟩
 | none =>
  dsimp only
  have nk:k ∉ xs.map (·.1):=λ z=>by
   obtain ⟨x,hx,e⟩:=List.mem_map.mp z;have:=List.findIdx?_eq_none_iff.mp hr (enI x) (by rw [S.el]; exact mem_map_of_mem hx);rw [ik,decide_eq_true e] at this;cases this
  obtain ⟨sl,fs,ns,rc⟩:=ui4 S (hashInt k);have ok':=S.ok.put ns rc;have f1:=xm1 S.ok (x:=sl);have mk':(t.put sl).1.mask=t.mask:=rfl;have pl':(t.put sl).1.plain=true:=S.pl
  have du':(t.put sl).1.dummies = #[]:=by
   have:∀ x,x ∉ (t.put sl).1.dummies.toList:=λ x hx=>by
    have:=((vi0 S.ok.rid sl x).mp hx).1;rw [S.du] at this;cases this
   exact Array.toList_eq_nil_iff.mp (List.eq_nil_iff_forall_not_mem.mpr this)
  have el':[10].toList=(insL xs (SetTable.below t.place sl) (k,tk)).map enI:=by
   rw [SetTable.toList_insertAt,wq0,S.el];rfl
  have pm:(insL xs (SetTable.below t.place sl) (k,tk)).Perm ((k,tk) :: xs):=by
   unfold insL;exact List.perm_middle.trans (List.Perm.cons _ (List.Perm.of_eq (take_append_drop _ _)))
  have nd':((insL xs (SetTable.below t.place sl) (k,tk)).map (·.1)).Nodup:=(pm.map _).nodup_iff.mpr (List.nodup_cons.mpr ⟨nk,S.nd⟩);have sz':[10].size=xs.length + 1:=by rw [<- length_toList,el',length_map,yf0]
  have ok2:TOk (t.put sl).1 ((insL xs (SetTable.below t.place sl) (k,tk)).map λ x=>(enI x).1):=by rw [wq0]; exact ok'
  have rm:=S.rm
  have fi':(t.put sl).1.fits [10].size=true:=by
   have h1:=ok2.sz;rw [length_map,yf0] at h1;simp only [SetTable.fits,h1,sz',beq_self_eq_true,Bool.true_and,decide_eq_true_eq,mk'];omega
  have ln:layNew t es (hashInt k) (Value.int k tk)=(SetTable.insertAt es (t.put sl).2 (hashInt k,Value.int k tk),(t.put sl).1,false,false):=by
   unfold layNew;rw [fs];dsimp only;unfold SetTable.orStandIn;rw [fi'];rfl
  rw [ln];dsimp only;refine wpAny_bind (m:=pure ()) [17];rw [pl'];simp only [if_true];refine wpAny_bind ?_;rw [hashByValue_scannable 8 (x:=.int k tk) rfl];refine wpAny_pure ?_;simp only [plainKind,if_true];refine wpAny_bind (wpAny_storeSet_of S.ho S.hd ?_ (by rw [sz',sizeLine_eq]; omega));have sb:=Heap.SameBut.update s.heap a (Obj.putSet [10] (t.put sl).1);by_cases c:(t.put sl).1.tooFull=true
  ·rw [if_pos (by rw [c]; rfl)];have gr:SetTable.grown [10].size=(xs.length + 1) * 4:=by unfold SetTable.grown; rw [sz',if_neg [2]]
   obtain ⟨m1,m2,m3⟩:=vo0 (xs.length + 1) hn;have mm:=un0 _ m1;obtain ⟨t',order,xs',e1,fm',pm',hz,hok,e2,e3,e4,e5,e8⟩:=tw2 (fe:=enI) (0,0) (xs:=insL xs (SetTable.below t.place sl) (k,tk)) (fi:=(t.put sl).1.finger) (mo:=(t.put sl).1.movedTo (SetTable.sizeAbove ((xs.length + 1) * 4) - 1)) (le:=(t.put sl).1.led) (pl:=(t.put sl).1.plain) m1 (by rw [yf0]; omega) el';have er:(t.put sl).1.relaid ([10].map (·.1)) ((xs.length + 1) * 4)=some (t',order):=e1;have h1:=hok.sz;rw [length_map,pm'.length_eq,yf0] at h1
   have rm2:t'.fill * 5 < t'.mask * 3:=by
    unfold SetTable.fill;rw [h1,e3,e2];simpa using m2
   have fi2:t'.fits (order.filterMap λ k'=>[10][k']?).size=true:=by
    simp only [SetTable.fits,h1,hz,sz',beq_self_eq_true,Bool.true_and,decide_eq_true_eq];omega
   have cv:coversAll order [10].size=true:=by
    unfold coversAll;rw [sz',List.isPerm_iff];rw [yf0] at e8;exact e8
   have ra:relayAll (t.put sl).1 [10] (SetTable.grown [10].size)=(order.filterMap λ k'=>[10][k']?,t',false):=by
    unfold relayAll;rw [gr,er];dsimp only;rw [cv,fi2];rfl
   rw [ra];dsimp only;refine wpAny_bind (m:=pure ()) [17]
   have hg:(s.heap.update a (Obj.putSet [10] (t.put sl).1)).get? a=some { o with data:=.set [10] (ep + 1) (t.put sl).1 }:=by
    have:=Heap.get?_update_self (Obj.putSet [10] (t.put sl).1) S.ho (by rw [putSet_of _ _ S.hd]; rfl);rw [putSet_of _ _ S.hd] at this; exact this
   refine wpAny_bind (wpAny_storeSet_of hg rfl ?_ (by rw [hz,sz',sizeLine_eq]; omega));refine wpAny_pure (wpAny_pure (new nk _ xs' (sb.trans (Heap.SameBut.update _ a _)) ⟨_,_,ep + 1 + 1,t',Heap.get?_update_self _ hg (by rw [putSet_of _ _ rfl]; rfl),?_,?_,fm',((pm'.trans pm).map _).nodup_iff.mpr (List.nodup_cons.mpr ⟨nk,S.nd⟩),hok,rm2,e3,by rw [e5]; exact pl',by rw [e4]; exact S.le⟩ (pm'.trans pm)))
   ·rw [putSet_of _ _ rfl]; exact S.ex
   ·rw [putSet_of _ _ rfl]
  ·rw [if_neg (by simpa using c)];refine wpAny_pure (wpAny_pure (new nk _ _ sb (S.store el' nd' ok2 ?_ du' pl' S.le) pm));unfold SetTable.tooFull at c;simpa using c
theorem ud2:∀ {vs:[24]} {ns:List Int},IntsAre vs ns->∀ (i:Nat) v,vs[i]?=some v->∃ tk,v=.int (ns.getD i 0) tk /\ ns[i]?=some (ns.getD i 0)
 | _,_,.nil,i,v,e=>by simp at e
 | _,_,.cons n t h,0,v,e=>by cases e; exact ⟨t,rfl,rfl⟩
 | _,_,.cons n t h,i + 1,v,e=>by
  obtain ⟨tk,a,b⟩:=ud2 h i v (by simpa using e);exact ⟨tk,by simpa using a,by simpa using b⟩
theorem zn1:∀ {vs:[24]} {ns:List Int},IntsAre vs ns->vs.length=ns.length
 | _,_,.nil=>rfl
 | _,_,.cons n t h=>by rw [length_cons,length_cons,zn1 h]
def JI (prog:Program) (w:World) (a:Addr) (ns:List Int) (i:Nat) (h:Heap):Prop:=∃ xs:List (Int × Tok),SIG prog w h a xs /\ ∀ n:Int,n ∈ xs.map (λ x=>x.1) ↔ n ∈ ns.take i
theorem zo4 {l:Addr} {vs:[24]} {ns:List Int} {Q:[4]} (hh:A.handled=none) (hl:s.heap.IsList l vs.toArray) (hi:IntsAre vs ns) (B:∀ l:List Int,l.Nodup->(∀ x ∈ l,x ∈ ns)->l.length < 511)
    (h:∀ (h':Heap) (tk:Nat) xs,KpH s.heap h'->SIG prog w h' s.heap.objs.size xs->(∀ n,n ∈ xs.map (·.1) ↔ n ∈ ns)->Q (.ref s.heap.objs.size) { s with heap:=h',toks:=tk }) :
    wpAny [11] A (call (.type "set") [.ref l]) Q E s:=by
 have ll:=zn1 hi;refine ts3 (J:=JI prog w s.heap.objs.size ns) hh hl (λ i h h' hn ⟨xs,sg,g⟩ kp ks'=>⟨xs,sg.keep ks',g⟩) (λ i v s' Q E lt hP kp ⟨xs,sg,g⟩ q=>?_) (λ h e=>⟨[],sig0 e,λ n=>by simp⟩) λ h' tk kp ⟨xs,sg,g⟩=>h h' tk xs kp sg λ n=>by rw [g n,take_of_length_le (by simp; omega)]
 obtain ⟨tk,rfl,en⟩:=ud2 hi i v (by simpa using hP)
 have ln:xs.length < 511:=by
  obtain ⟨o,es,ep,t,S⟩:=id sg;have:=B _ S.nd λ x hx=>List.mem_of_mem_take ((g x).mp hx)
  rwa [length_map] at this
 have tk1:ns.take (i + 1)=ns.take i ++ [ns.getD i 0]:=by rw [List.take_succ,en]; rfl
 unfold setAdd;refine wpAny_holding (wpAny_bind (wpAny_pyHash_int ?_));refine uw4 sg [2] (λ old=>?_) (λ new h2 xs2 sb sg2 pm=>?_)
 ·refine q _ s'.heap _ (Heap.SameBut.refl _ _) ⟨xs,sg,λ n=>?_⟩;rw [tk1,mem_append,mem_singleton,<- g n];exact ⟨.inl,λ z=>z.elim id λ z=>by rw [z]; exact old⟩
 ·refine q _ h2 _ sb ⟨xs2,sg2,λ n=>?_⟩;rw [tk1,mem_append,mem_singleton,<- g n,(pm.map (·.1)).mem_iff,map_cons,mem_cons];exact Or.comm
end
def BI (ns:List Int):Prop:=∀ l:List Int,l.Nodup->(∀ x ∈ l,x ∈ ns)->l.length < 511
section
variable {X:Cx} {e:Expr} {p p2 pos pos2:Pos}
theorem un1:∀ {ns:List Int} {us:[24]},Vals (ns.map V.int) us->IntsAre us ns
 | [],_,.nil=>.nil
 | n :: ns,_,.cons r t=>by
  obtain ⟨u,rfl⟩:=r;exact .cons n u (un1 t)
theorem ye2 {K:Fg} {H:Hp}:∀ {ms:List Int} {vs:List V},RelDs K H (ms.map D.int) vs->vs=ms.map V.int
 | [],_,.nil=>rfl
 | n :: r,_,.cons x y=>by cases x; rw [ye2 y]; rfl
end
abbrev T2:=Int × Int
def lt2 (a b:T2):Bool:=decide (a.1 < b.1) || (a.1 == b.1 && decide (a.2 < b.2))
def IsT2 (h:Heap) (v:Value) (t:T2):Prop:=∃ a o t1 t2 n,v=.ref a /\ h.get? a=some o /\ o.cls=.type "tuple" /\ o.data=.seq #[.int t.1 t1,.int t.2 t2] n
theorem IsT2.one {h:Heap} {v:Value} {t u:T2} (i:IsT2 h v t) (k:IsT2 h v u):t=u:=by
 obtain ⟨a,o,t1,t2,n,rfl,e2,_,e4⟩:=i;obtain ⟨b,q,u1,u2,m,f1,f2,_,f4⟩:=k;cases f1;rw [e2] at f2;cases f2;rw [e4] at f4;obtain ⟨x,y⟩:=t;obtain ⟨x',y'⟩:=u;simp only [Data.seq.injEq,Array.mk.injEq,List.cons.injEq,Value.int.injEq] at f4;obtain ⟨⟨⟨h1,_⟩,⟨h2,_⟩,_⟩,_⟩:=f4;rw [h1,h2]
theorem uh3 (ts:List T2):Ms.Ord λ i j=>lt2 (ts.getD i (0,0)) (ts.getD j (0,0)) where
 ir:=λ a=>by simp [lt2]
 tr:=λ a b c h k=>by
  simp only [lt2,Bool.or_eq_true,Bool.and_eq_true,decide_eq_true_eq,beq_iff_eq] at h k ⊢;omega
 ng:=λ a b c h=>by
  simp only [lt2,Bool.or_eq_true,Bool.and_eq_true,decide_eq_true_eq,beq_iff_eq] at h ⊢;omega
section
variable {prog:Program} {w:World} {A:Around} {E:[4]} {s:Shared}
theorem tn4 {x y:Value} {a b:T2} {Q:Bool->Shared->Prop} (hx:IsT2 s.heap x a) (hy:IsT2 s.heap y b) (h:Q (lt2 a b) s):wpAny [11] A (keyLt' (tuples' true) x y) Q E s:=by
 obtain ⟨x,ox,t1,t2,n,rfl,ex,_,dx⟩:=hx;obtain ⟨y,oy,u1,u2,m,rfl,ey,_,dy⟩:=hy;obtain ⟨a1,a2⟩:=a;obtain ⟨b1,b2⟩:=b;refine kat_lt ex dx ey dy ?_;refine kat_cons (wpAny_eqBool_int ?_);by_cases c1:a1=b1
 ·rw [show (a1 == b1)=true from beq_iff_eq.mpr c1];refine kat_yes (kat_cons (wpAny_eqBool_int ?_));by_cases c2:a2=b2
  ·rw [show (a2 == b2)=true from beq_iff_eq.mpr c2];refine kat_yes (kat_nil ?_);have e:lt2 (a1,a2) (b1,b2)=false:=by subst c1 c2; simp [lt2]
   rw [e] at h;exact h
  ·rw [show (a2 == b2)=false from by simpa using c2];have e:lt2 (a1,a2) (b1,b2)=decide (a2 < b2):=by subst c1; simp [lt2]
   rw [e] at h;exact kat_no (kat_one _ _ (lt_int h))
 ·rw [show (a1 == b1)=false from by simpa using c1];have e:lt2 (a1,a2) (b1,b2)=decide (a1 < b1):=by simp [lt2,c1]
  rw [e] at h;exact kat_no (oneLt_int h)
end
abbrev ltI2 (ts:List T2):Nat->Nat->Bool:=λ i j=>lt2 (ts.getD i (0,0)) (ts.getD j (0,0))
theorem ti2:TupI IsT2 lt2 (0,0) where
 kept:=λ k ⟨a,o,t1,t2,n,e1,e2,e3,e4⟩=>⟨a,o,t1,t2,n,e1,k _ _ e2 e3,e3,e4⟩
 one:=IsT2.one
 ord:=uh3
 fst:=λ ⟨a,o,t1,t2,n,e1,e2,e3,e4⟩=>⟨a,o,_,t1,_,n,e1,e2,e3,e4⟩
 lt':=tn4
def wy0 (t:T2):D:=.tup [.int t.1,.int t.2]
def t2?:D->Option T2
 | .tup [.int a,.int b]=>some (a,b)
 | _=>none
def t2s?:List D->Option (List T2)
 | []=>some []
 | d :: r=>match t2? d with
  | some t=>match t2s? r with
   | some ts=>some (t :: ts)
   | none=>none
  | none=>none
theorem su1:∀ ts:List T2,t2s? (ts.map wy0)=some ts
 | []=>rfl
 | t :: ts=>by simp only [map_cons,t2s?,wy0,t2?,su1 ts]
theorem un4 {d:D} {t:T2} (h:t2? d=some t):d=wy0 t:=by
 unfold t2? at h;split at h
 ·cases h; rfl
 ·cases h
theorem xu2:∀ {l:List D} {ts:List T2},t2s? l=some ts->l=ts.map wy0
 | [],ts,h=>by cases h; rfl
 | d :: r,ts,h=>by
  unfold t2s? at h;split at h
  ·next t e =>
   split at h
   ·next us e2=>cases h; rw [un4 e,xu2 e2]; rfl
   ·cases h
  ·cases h
def le2 (a b:T2):Prop:=lt2 b a=false
def tv1:C3:=λ ds μ Q=>match ds with
 | [.ref p]=>match μ p with
  | some (.lst l)=>match t2s? l with
   | some ts=>ts.length < 64 /\ ∀ us:List T2,us.Perm ts->us.Pairwise le2->∀ r,μ r=none->Q (.ref r) (updM μ r (.lst (us.map wy0)))
   | none=>False
  | _=>False
 | _=>False
section
variable {X:Cx}
theorem wy1:RC X (.builtin "sorted") tv1:=by
 refine vy1 (enc:=wy0) ti2 (λ {_ _ _ _} I {t v u} a b=>?_) λ {ds μ Q} h=>?_
 ·cases a with
  | tup hq r2 =>
   cases r2 with
   | cons x r2 =>
    cases r2 with
    | cons y r2 =>
     cases r2;cases x;cases y;cases b;obtain ⟨its,rv,⟨o,p1,p2,n,p3⟩,_⟩:=I.tuple (SqT.of hq);cases rv with
     | cons r1 rv =>
      cases rv with
      | cons r2 rv =>
       cases rv;obtain ⟨t1,rfl⟩:=r1;obtain ⟨t2,rfl⟩:=r2;exact ⟨_,o,t1,t2,n,rfl,p1,p2,p3⟩
 ·unfold tv1 at h;split at h
  ·next p =>
   split at h
   ·next l e =>
    split at h
    ·next ts e2=>exact ⟨p,ts,rfl,by rw [e,xu2 e2],h.1,h.2⟩
    ·exact h.elim
   ·exact h.elim
  ·exact h.elim
end
section
variable {prog:Program} {w:World} {A:Around} {E:[4]} {s:Shared} {d:Addr} {es:Array DictEntry} {ep:Nat}
theorem vs1 {acc:Array Value} (h:ItemsOf (λ i v=>∃ e,es[i]?=some e /\ v=e.key) acc es.size):acc.toList=es.toList.map (·.key):=by
 obtain ⟨h1,h2⟩:=h;apply List.ext_getElem?;intro i;rw [getElem?_map,getElem?_toList,getElem?_toList];by_cases c:i < es.size
 ·obtain ⟨e,e1,e2⟩:=h2 i (acc[i]'(by omega)) [16];rw [e1,Array.getElem?_eq_getElem [2],e2];rfl
 ·rw [Array.getElem?_eq_none [2],Array.getElem?_eq_none [2]];rfl
theorem xw1 {ts:List T2} {Q:[4]} (hh:A.handled=none) (lo:(d == sysModules)=false) (x:DG s.heap d es ep) (ht:Lw (IsT2 s.heap) (es.toList.map (·.key)) ts) (h64:es.size < 64)
    (h:∀ (p:Array Nat) (h1 h':Heap) (c tk:Nat),p.Perm (List.toArray (List.range es.size))->Ms.Up (ltI2 ts) p es.size->(∀ b o,s.heap.get? b=some o->h1.get? b=some o)->(∀ b o,h1.get? b=some o->h'.get? b=some o) ->
     h'.get? h1.objs.size=some (seqObj "list" (outV (es.toList.map (·.key)) p).toArray c)->Q (.ref h1.objs.size) { s with heap:=h',toks:=tk }) :
    wpAny [11] A (call (.builtin "sorted") [.ref d]) Q E s:=by
 have hz:es.size<=sizeLine:=Nat.le_of_lt (Nat.lt_trans h64 [7]);refine Calls.call_function_entry kind_sorted plain_sorted entry_sorted (args_sorted1 _) ?_;unfold Builtin.«sorted»;refine wpAny_bind (m:=checkCount "sorted" 1 1 _) (wpAny_pure (wpAny_bind (kdu_collect (tj4 lo) hh x hz λ h1 tk acc k1 ia=>?_)));rw [vs1 ia];have l1:(es.toList.map (·.key)).length=es.size:=by simp
 refine wpAny_bind (wpAny_newList ?_ (by rw [l1]; exact hz));have k2:∀ b o,s.heap.get? b=some o->(h1.push (seqObj "list" (es.toList.map (·.key)).toArray 0)).get? b=some o:=λ b o q=>Heap.get?_push_of_some _ (k1 b o q);have zo:(h1.push (seqObj "list" (es.toList.map (·.key)).toArray 0)).get? h1.objs.size=some (seqObj "list" (es.toList.map (·.key)).toArray 0):=Heap.get?_push_size _ rfl;have tt:=Lw.mono (λ _ _=>ti2.kept λ b o e _=>k2 b o e) ht;show wpAny _ _ _ _ _ { s with heap:=h1.push (seqObj "list" (es.toList.map (·.key)).toArray 0),toks:=tk };refine wpAny_bind (wpAny_holding (wpAny_call_entry slot_list_sort ⟨_,zo,rfl⟩ entry_list_sort (yg1 (s:={ s with heap:=h1.push (seqObj "list" (es.toList.map (·.key)).toArray 0),toks:=tk }) (ti2.sk tt) [14] zo (λ h' g=>ti2.keep zo g tt) (by rw [l1]; exact h64) λ p h' c a1 a2 a3 a4=>⟨_,rfl,?_⟩) (args_list_sort _)));rw [l1] at a1 a2;exact wpAny_pure ⟨_,rfl,h p h1 h' c tk a1 a2 k1 (λ b o q=>a3 b o (Nat.ne_of_lt (Heap.lt_size q)) (Heap.get?_push_of_some _ q)) a4⟩
end
section
variable {X:Cx}
theorem sh4 {pins:[5]} {σ:L2.St} {H:Hp} {s:Shared} (I:[6]) {t:T2} {a:Addr} (hq:H a=some (.tup [.int t.1,.int t.2])):IsT2 s.heap (.ref a) t:=by
 obtain ⟨its,rv,⟨o,p1,p2,n,p3⟩,_⟩:=I.tuple (SqT.of hq);cases rv with
 | cons r1 rv =>
  cases rv with
  | cons r2 rv =>
   cases rv;obtain ⟨t1,rfl⟩:=r1;obtain ⟨t2,rfl⟩:=r2;exact ⟨_,o,t1,t2,n,rfl,p1,p2,p3⟩
def kP (p:T2):List Int:=[p.1,p.2]
theorem xg2 {pins:[5]} {σ:L2.St} {H:Hp} {s:Shared} (I:[6]):∀ {kvs:[31]} {xs:List (List Key × Addr × Value)} {ts:List T2},KT H kvs xs->kvs.map (·.1)=ts.map (λ t=>kL (kP t)) ->
    Lw (IsT2 s.heap) (xs.map λ q=>Value.ref q.2.1) ts /\ RelDs X.K H (ts.map wy0) (xs.map λ q=>V.ref q.2.1) /\ Vals (xs.map λ q=>V.ref q.2.1) (xs.map λ q=>Value.ref q.2.1)
 | [],_,ts,.nil,e=>by
  cases ts with
  | nil=>exact ⟨trivial,.nil,.nil⟩
  | cons _ _=>cases e
 | p :: kvs,q :: xs,ts,.cons r rs,e=>by
  cases ts with
  | nil=>cases e
  | cons t ts =>
   rw [map_cons,map_cons] at e;injection e with e1 e2
   obtain ⟨a,b,c⟩:=xg2 I rs e2;have hq:=r.2.1;rw [e1] at hq;exact ⟨⟨sh4 I hq,a⟩,.cons (.tup hq (.cons (.int _) (.cons (.int _) .nil))) b,.cons rfl c⟩
def rSdP (K:Fg):List V->Hp->VK->Prop:=λ xs H Q=>∃ d kvs ts,xs=[.ref d] /\ H d=some (.dT kvs) /\ kvs.map (·.1)=ts.map (λ t=>kL (kP t)) /\ ts.length < 64 ∧
 ∀ vs,RelDs K H (ts.map wy0) vs->∀ q:Array Nat,q.Perm (List.toArray (List.range ts.length))->Ms.Up (ltI2 ts) q ts.length->∀ r,H r=none->Q (.ref r) (upd H r (.lst (q.toList.map λ i=>vs.getD i .non)))
theorem uk3 (hc:X.calm=true):CallR X (.builtin "sorted") (rSdP X.K):=by
 intro pins s σ H xs us Q I r h;obtain ⟨d,kvs,ts,rfl,hd,ek,h64,k⟩:=h;cases r with
 | cons r rr =>
  cases rr;cases r;obtain ⟨hz,lo,ys,pr,o,es,o1,o2,o3,o4,_⟩:=ss0 I.hok (.inl hd);obtain ⟨v2,rd,vv⟩:=xg2 I pr ek;have ekey:es.toList.map (·.key)=ys.map λ q=>Value.ref q.2.1:=by rw [o4,map_map]; rfl
  have l1:kvs.length=ys.length:=Paired.length pr;have l2:ts.length=kvs.length:=by have:=congrArg List.length ek; simpa using this.symm
  have l3:es.size=ys.length:=by rw [<- length_toList,o4,length_map]
  refine xw1 (I.ok.hd hc) lo ⟨o,o1,o2,o3⟩ (by rw [ekey]; exact v2) [2] λ p h1 h' c tk a1 a2 a3 a4 a5=>?_;rw [ekey] at a5;have e0:es.size=ts.length:=by omega
  rw [e0] at a1 a2
  have lt':∀ i ∈ p.toList,i < (ys.map λ q=>V.ref q.2.1).length:=λ i hi=>by
   have e:i ∈ List.toArray (List.range ts.length):=a1.mem_iff.mp (by simpa using hi);have e':i < ts.length:=by simpa using e
   rw [length_map];omega
  have sz:p.toList.length=ts.length:=by have:=a1.size_eq; simpa using this
  have I1:Inv X pins σ H { s with heap:=h1,toks:=tk }:=I.kept a3;refine ⟨.ref _,_,I1.laid (t':=tk) a4 [14] (show ObjOk X.prog X.w _ h' _ (.lst (p.toList.map λ i=>(ys.map λ q=>V.ref q.2.1).getD i .non)) from ⟨by rw [length_map,sz]; omega,_,c,xm0 vv _ lt',a5⟩),rfl,k _ rd p a1 a2 _ (I1.hok.fresh [14])⟩
theorem RelKl.keys {K:Fg} {H:Hp} {l:List (List Int × D)} {vs:[31]} (r:RelKl K H l vs):vs.map (·.1)=(l.map (·.1)).map kL:=by
 induction r with
 | nil=>rfl
 | cons _ _ ih=>rw [map_cons,ih]; rfl
def uv1:C3:=λ ds μ Q=>match ds with
 | [.ref p]=>match μ p with
  | some (.dcl kvs)=>∃ ts:List T2,kvs.map (·.1)=ts.map kP /\ ts.length < 64 /\ ∀ us:List T2,us.Perm ts->us.Pairwise le2->∀ r,μ r=none->Q (.ref r) (updM μ r (.lst (us.map wy0)))
  | _=>False
 | _=>False
theorem yd3 (hc:X.calm=true:=by rfl):RC X (.builtin "sorted") uv1:=by
 refine ⟨_,uk3 hc,λ xs vs H Q μ Q3 m r h k=>?_⟩;unfold uv1 at h;split at h
 ·next p =>
  split at h
  ·next kvs e =>
   cases r with
   | cons r1 r2 =>
    cases r2;cases r1;obtain ⟨ts,et,h64,h⟩:=h;obtain ⟨ws,hv,rk⟩:=m.dcl p kvs e;refine ⟨p,ws,ts,rfl,hv,by rw [rk.keys,et,map_map]; rfl,h64,λ vs rd q a1 a2 r hr=>?_⟩;have hl:=rd.length;rw [length_map] at hl
    have lt':∀ i ∈ q.toList,i < vs.length:=λ i hi=>by
     have e:i ∈ List.toArray (List.range ts.length):=a1.mem_iff.mp (by simpa using hi);have e':i < ts.length:=by simpa using e
     omega
    exact k _ _ _ _ (h _ (tq0 (d0:=((0,0):T2)) a1) (zf1 a1 a2) r (m.free hr)) (Kp.new hr) (.ref r) (m.newL hr (zk0 rd _ lt'))
  ·exact h.elim
 ·exact h.elim
variable {e:Expr} {p p2 pos pos2:Pos}
theorem zt4 {ta:TA} {R:List V->Hp->VK->Prop} (hg:Gl X "len") (hm:X.mg "len" = none) (hg2:Gl X "set") (hm2:X.mg "set" = none) (ha:PA X [e] ta) (hs2:starEach [e] X.env=[[35]]) (hs:starEach [.Call (.Name "set" p2) [e] [] pos2] X.env=[(false,eval (.Call (.Name "set" p2) [e] [] pos2) X.env)])
    (st:∀ {pins s σ H vs us} {Q:VK},Inv X pins σ H s->Vals vs us->R vs H Q->∀ {K:[4]},(∀ a o es ep t s',s'.heap.get? a=some o->o.ExactSet->o.data=.set es ep t->t.fits es.size=true->es.size < 512->Inv X pins σ H s'->Q (.int es.size) H->K (.ref a) s')->wpAny [9] X.A (call (.type "set") us) K X.xe s) :
    PE X (.Call (.Name "len" p) [.Call (.Name "set" p2) [e] [] pos2] [] pos) (λ σ H Q=>ta σ H λ xs H1=>R xs H1 Q):=by
 intro pins s σ H Q I h;refine Call_ (yl0 I hg hm xf0 (PyProof.Rows.callWith_builtin1 ?_ hs rfl));rw [hs];show wpAny _ _ (spliced ((false,eval (.Call (.Name "set" p2) [e] [] pos2) X.env) :: backTo pos (starEach [] X.env))) _ _ s;refine Calls.spliced_cons ?_;refine Call_ (yl0 I hg2 hm2 vy2 (PyProof.Rows.callWith_type1 (thn (ha pos2 pins s σ H _ I h) λ us s1 ⟨vs,H1,I1,r1,q1⟩=>?_) hs2 rfl));refine st I1 r1 q1 λ a o es ep t s2 h1 h2 h3 h4 h5 I2 k=>?_;refine Calls.spliced_nil ?_;refine PySem.call_len_set h1 h2 h3 h4 [2] ?_;exact ⟨.int _,H1,I2.kept (t':=s2.toks + 1 + 1) λ b ob q=>q,⟨_,rfl⟩,k⟩
def rLsI (K:Fg):List V->Hp->VK->Prop:=λ xs H Q=>∃ p ns,xs=[.ref p] /\ SqL K H p (ns.map V.int) /\ BI ns /\ ∀ D:List Int,D.Nodup->(∀ n,n ∈ D ↔ n ∈ ns)->Q (.int D.length) H
def lsI3 (t:TA3):TE3:=λ ρ μ Q=>t ρ μ λ ds μ1=>∃ ns:List Int,(match ds with
 | [.ref p]=>μ1 p=some (.lst (ns.map D.int))
 | _=>False) /\ BI ns /\ ∀ ms:List Int,ms.Nodup->(∀ n,n ∈ ms ↔ n ∈ ns)->Q (.int ms.length) μ1
theorem ux3 {t:TE3} (he:RE X e t) (hm2:X.mg "set" = none) (hm:X.mg "len" = none) (hc:X.calm=true:=by rfl) (hg:Gl X "len" := by rfl) (hg2:Gl X "set" := by rfl) (hs2:starEach [e] X.env=[[35]]:=by rfl) (hs:starEach [.Call (.Name "set" p2) [e] [] pos2] X.env=[(false,eval (.Call (.Name "set" p2) [e] [] pos2) X.env)]:=by rfl) :
    RE X (.Call (.Name "len" p) [.Call (.Name "set" p2) [e] [] pos2] [] pos) (lsI3 (va0 t nil3)):=by
 obtain ⟨va,pa,ra⟩:=xa0 he ta0 hs2;refine ⟨_,zt4 (R:=rLsI X.K) hg hm hg2 hm2 pa hs2 hs ?_,λ σ H Q ρ μ Q3 s m h k=>ra σ H _ ρ μ _ s m h λ ds μ1 vs H1 h1 k1 r1 m1=>?_⟩
 ·intro pins s σ H vs us Q I rv q K k;obtain ⟨a,ns,rfl,hq,hB,q⟩:=q;cases rv with
  | cons r rr =>
  cases rr;cases r;obtain ⟨its,rv,pl,hz⟩:=I.list hq;refine zo4 (I.ok.hd hc) pl.isList (un1 rv) hB λ h1 tk1 xs kp sg g=>?_;obtain ⟨o,es,ep,t,S⟩:=sg;have ln:=hB _ S.nd λ x hx=>(g x).mp hx;have sz:=S.size;rw [length_map] at ln;have q':=q _ S.nd g;rw [length_map,<- sz] at q';exact k _ o es ep t _ S.ho S.ex S.hd S.fits [2] (I.kept λ b o e=>kp b o e) q'
 ·obtain ⟨ns,hd,hB,q⟩:=h1;cases r1 with
  | nil=>exact hd.elim
  | cons r1 r2 =>
   cases r2 with
   | cons _ _=>cases r1 <;> exact hd.elim
   | nil =>
    cases r1 with
    | ref a =>
     obtain ⟨us,hv,rv⟩:=m1 a _ hd;have:=ye2 rv;subst this;exact ⟨a,ns,rfl,SqL.of hv,hB,λ ms so al=>k _ _ _ _ (q ms so al) k1 (.int _) m1⟩
    | _=>exact hd.elim
end
end Pv
namespace Pv
open PySem PySem.Spec PyProof.Rows L2
def gdf3 (to:TE3) (t:TA3):TE3:=λ ρ μ Q=>to ρ μ λ x μ1=>match x with
 | .ref p=>match μ1 p with
  | some (.dcl _)=>t ρ μ1 λ ds μ2=>match ds with
   | [y,d]=>match keyI y,μ2 p with
    | some k,some (.dcl kvs)=>(match valL kvs k with
     | some v=>Q v μ2
     | none=>Q d μ2)
    | _,_=>False
   | _=>False
  | _=>False
 | _=>False
def rGd:V->List V->Hp->VK->Prop:=λ x vs H Q=>∃ a kvs k b v,x=.ref a /\ vs=[.ref b,v] /\ H a=some (.dT kvs) /\ H b=some (.tup (k.map kV)) ∧
 (∀ u,valV kvs k=some u->Q u H) /\ (valV kvs k=none->Q v H)
section
variable {X:Cx}
theorem vu4 (hu:X.A.units + 1 < cLine):MtM X "dict.get" rGd:=by
 intro pins s σ H x vs v us Q I rx rv h;obtain ⟨d,kvs,k,b,v0,rfl,rfl,e,eb,q1,q2⟩:=h;cases rx;cases rv with
 | cons r1 r2 =>
 cases r2 with
 | cons r2 r3 =>
 cases r3;rename_i u1 u2;cases (show u1=Value.ref b from r1);refine yk4 hu I (DGet.t e eb) rfl r2 λ w' s' I' rw'=>?_;cases ev:valV kvs k with
 | none=>exact ⟨v0,H,I',by rw [ev] at rw'; exact rw',q2 ev⟩
 | some w''=>exact ⟨w'',H,I',by rw [ev] at rw'; exact rw',q1 _ ev⟩
variable {o e:Expr} {es:List Expr} {to:TE3} {t:TA3} {apos cpos:Pos}
theorem xq4 (hu:X.A.units + 64 < cLine) (ho:RE X o to) (ha:RA X (e :: es) t) (hbase:attributeBase o "get" X.env (eval o X.env)=eval o X.env:=by rfl)
    (hfew:((backTo cpos (starEach (e :: es) X.env)).all (λ x=>!x.1) && (backToKw cpos (keywordEach [] X.env)).all (λ x=>x.1.isSome)
     && decide [20])=true:=by rfl)
    (hline:(apos.endLine == cpos.line)=true:=by rfl) (hs:starEach (e :: es) X.env=[35] :: starEach es X.env:=by rfl) (hplain:(backTo cpos (starEach es X.env)).any (·.1)=false:=by rfl) :
    RE X (.Call (.Attribute o "get" apos) (e :: es) [] cpos) (gdf3 to t):=by
 obtain ⟨va,pa,ra⟩:=ho;obtain ⟨vb,pb,rb⟩:=ha;refine ⟨_,yg3 plainAttrs_dict slot_dict_get PySem.F.type_dict_get (vu4 [2]) pa pb hbase hfew hline hs hplain,λ σ H Q ρ μ Q3 s m h k=>ra σ H _ ρ μ _ s m h λ x μ1 v H1 h1 k1 r1 m1=>?_⟩;split at h1
 ·next p =>
  split at h1
  ·next kvs0 e0 =>
   cases r1;obtain ⟨ws0,hw0,_⟩:=m1.dcl p kvs0 e0;refine ⟨.inr (.inr (.inl ⟨rfl,.inr ⟨ws0,hw0⟩⟩)),rb σ H1 _ ρ μ1 _ (s.mono k1) m1 h1 λ ds μ2 vs H2 h2 k2 r2 m2=>?_⟩;split at h2
   ·next y d =>
    cases r2 with
    | cons ry r2 =>
    cases r2 with
    | cons rd r2 =>
    cases r2;split at h2
    ·next kk kvs ek e =>
     obtain ⟨ws,hw,rk⟩:=m2.dcl p kvs e;obtain ⟨b,rfl,hb⟩:=ys0 ry ek;refine ⟨p,ws,kL kk,b,_,rfl,rfl,hw,hb,λ u eu=>?_,λ eu=>?_⟩
     ·rcases rk.val (t:=kk) with ⟨_,z2⟩ | ⟨d',w',z1,z2,rd'⟩
      ·rw [eu] at z2; cases z2
      ·rw [eu] at z2; cases z2; rw [z1] at h2; exact k _ _ _ _ h2 (k1.trans k2) rd' m2
     ·rcases rk.val (t:=kk) with ⟨z1,_⟩ | ⟨d',w',_,z2,_⟩
      ·rw [z1] at h2; exact k _ _ _ _ h2 (k1.trans k2) rd m2
      ·rw [eu] at z2; cases z2
    ·exact h2.elim
   ·exact h2.elim
  ·exact h1.elim
 ·exact h1.elim
end
def keyK:D->Option Key
 | .int i=>some (.inl i)
 | .str x=>some (.inr x)
 | _=>none
def valK (kvs:List (Key × D)) (k:Key):Option D:=(kvs.find? λ kv=>decide (kv.1=k)).map (·.2)
def putY (kvs:List (Key × D)) (k:Key) (y:D):List (Key × D):=if (kvs.any λ kv=>decide (kv.1=k))=true then kvs.map (λ kv=>if kv.1=k then (kv.1,y) else kv) else kvs ++ [(k,y)]
def dnk3:TE3:=λ _ μ Q=>∀ p,μ p=none->Q (.ref p) (updM μ p (.dck []))
def yr2 (neg:Bool):R3:=λ y x μ Q=>match x,keyK y with
 | .ref p,some k=>match μ p with
  | some (.dck kvs)=>Q (.bl (if neg then !(valK kvs k).isSome else (valK kvs k).isSome)) μ
  | _=>False
 | _,_=>False
def tf2 (to ti tv:TE3):TS3:=λ D' ρ μ=>tv ρ μ λ v μ1=>to ρ μ1 λ x μ2=>ti ρ μ2 λ y μ3=>match x,keyK y with
 | .ref p,some k=>match μ3 p with
  | some (.dck kvs)=>kvs.length < 90000 /\ D'.nx ρ (updM μ3 p (.dck (putY kvs k v)))
  | _=>False
 | _,_=>False
theorem Kp.wrK {H:Hp} {p:Addr} {o:HO} {xs:List (Key × V)} (h:H p=some (.dK xs)):Kp H (upd H p o) :=
 ⟨λ b ys q=>by rw [vc0 (xc1 q h (by intro z; cases z))]; exact q,λ b o u q=>by rw [vc0 (xc1 q h (by intro z; cases z))]; exact q⟩
theorem RelM.newK {K:Fg} {μ:Mu} {H:Hp} {p:Addr} (h:H p=none) (m:RelM K μ H):RelM K (updM μ p (.dck [])) (upd H p (.dK [])):=by
 have m':=m.newT (o:=.dK []) h;refine ⟨λ q ys e=>?_,λ q c fs e=>?_,λ q kvs e=>?_,λ q kvs e=>?_⟩ <;> by_cases z:q=p
 ·subst z; rw [za0] at e; cases e
 ·rw [sa0 z] at e; exact m'.lst q ys e
 ·subst z; rw [za0] at e; cases e
 ·rw [sa0 z] at e; exact m'.ins q c fs e
 ·subst z; rw [za0] at e; cases e; exact ⟨[],ve0,.nil⟩
 ·rw [sa0 z] at e; exact m'.dck q kvs e
 ·subst z; rw [za0] at e; cases e
 ·rw [sa0 z] at e; exact m'.dcl q kvs e
theorem RelM.wrK {K:Fg} {μ:Mu} {H:Hp} {p:Addr} {kvs:List (Key × D)} {vs ws:List (Key × V)} (h:H p=some (.dK ws)) (r:RelKk K H kvs vs) (m:RelM K μ H):RelM K (updM μ p (.dck kvs)) (upd H p (.dK vs)):=by
 have kp:Kp H (upd H p (.dK vs)):=Kp.wrK h;refine ⟨λ q ys e=>?_,λ q c fs e=>?_,λ q ks e=>?_,λ q ks e=>?_⟩ <;> by_cases z:q=p
 ·subst z; rw [za0] at e; cases e
 ·rw [sa0 z] at e;obtain ⟨us,q1,r1⟩:=m.lst q ys e;exact ⟨us,by rw [vc0 z]; exact q1,r1.mono kp⟩
 ·subst z; rw [za0] at e; cases e
 ·rw [sa0 z] at e;obtain ⟨C,dx,us,n,q1,q2,r1⟩:=m.ins q c fs e;refine ⟨C,dx,us,n,by rw [vc0 z]; exact q1,?_,r1.mono kp⟩;rw [vc0]
  ·exact q2
  ·intro y; subst y; rw [h] at q2; cases q2
 ·subst z; rw [za0] at e; cases e; exact ⟨vs,ve0,r.mono kp⟩
 ·rw [sa0 z] at e;obtain ⟨us,q1,r1⟩:=m.dck q ks e;exact ⟨us,by rw [vc0 z]; exact q1,r1.mono kp⟩
 ·subst z; rw [za0] at e; cases e
 ·rw [sa0 z] at e;obtain ⟨us,q1,r1⟩:=m.dcl q ks e;exact ⟨us,by rw [vc0 z]; exact q1,r1.mono kp⟩
theorem RelKk.len {K:Fg} {H:Hp} {l:List (Key × D)} {vs:List (Key × V)} (r:RelKk K H l vs):l.length=vs.length:=by
 induction r with
 | nil=>rfl
 | cons _ _ ih=>rw [length_cons,length_cons,ih]
theorem RelKk.any {K:Fg} {H:Hp} {t:Key} {l:List (Key × D)} {vs:List (Key × V)} (r:RelKk K H l vs):(vs.any λ kv=>decide (kv.1=t))=l.any λ kv=>decide (kv.1=t):=by
 induction r with
 | nil=>rfl
 | cons _ _ ih=>rw [any_cons,any_cons,ih]
theorem RelKk.val {K:Fg} {H:Hp} {t:Key} {l:List (Key × D)} {vs:List (Key × V)} (r:RelKk K H l vs):(valK l t=none /\ valV vs t=none) \/ ∃ d v,valK l t=some d /\ valV vs t=some v /\ RelD K H d v:=by
 induction r with
 | nil=>exact .inl ⟨rfl,rfl⟩
 | cons h _ ih =>
  rename_i t' d' v' l' vs' _;by_cases c:t'=t
  ·subst c;exact .inr ⟨d',v',by simp [valK],ym0 rfl,h⟩
  ·have e1:valK ((t',d') :: l') t=valK l' t:=by simp [valK,c]
   rw [e1,zm0 (p:=(t',v')) c];exact ih
theorem RelKk.put {K:Fg} {H:Hp} {t:Key} {y:D} {v:V} (ry:RelD K H y v) {l:List (Key × D)} {vs:List (Key × V)} (r:RelKk K H l vs):RelKk K H (putY l t y) (putK vs t v):=by
 have rep:∀ {l:List (Key × D)} {vs:List (Key × V)},RelKk K H l vs->RelKk K H (l.map λ kv=>if kv.1=t then (kv.1,y) else kv) (vs.map λ kv=>if kv.1=t then (kv.1,v) else kv):=by
  intro l vs r
  induction r with
  | nil=>exact .nil
  | cons h _ ih =>
   rename_i t' d' v' l' vs' _;rw [map_cons,map_cons];by_cases c:t'=t
   ·rw [if_pos c,if_pos c]; exact .cons ry ih
   ·rw [if_neg c,if_neg c]; exact .cons h ih
 have snoc:∀ {l:List (Key × D)} {vs:List (Key × V)},RelKk K H l vs->RelKk K H (l ++ [(t,y)]) (vs ++ [(t,v)]):=by
  intro l vs r
  induction r with
  | nil=>exact .cons ry .nil
  | cons h _ ih=>exact .cons h ih
 unfold putY putK;rw [r.any];split
 ·exact rep r
 ·exact snoc r
theorem wc2 {K:Fg} {H:Hp} {y:D} {v:V} {k:Key} (r:RelD K H y v) (e:keyK y=some k):v=kV k:=by
 cases r <;> simp [keyK] at e <;> subst e <;> rfl
section
variable {X:Cx} {pos pos':Pos}
theorem sx3:RE X (.Dict [] [] pos) dnk3:=⟨_,xo2,λ σ H Q ρ μ Q3 s m h k p hp=>k _ _ _ _ (h p (m.free hp)) (Kp.new hp) (.ref p) (m.newK hp)⟩
theorem yb4 (neg:Bool) (hu:X.A.units + 64 < cLine):RO X (compareOp (if neg then .NotIn else .In)) (yr2 neg):=by
 refine ⟨λ y x H Q=>∃ a o,x=.ref a /\ DGet H a y o /\ Q (.bl (if neg then !o.isSome else o.isSome)) H,?_,λ y x b a H Q μ Q3 m ry rx h k=>?_⟩
 ·intro pins s σ H y x u v Q I ry rx h;obtain ⟨a,o,rfl,g,q⟩:=h;cases rx;cases neg with
  | true=>exact yh2 [2] I g ry λ s' I'=>⟨.bl (!o.isSome),H,I',rfl,q⟩
  | false=>exact d_in [2] I g ry λ s' I'=>⟨.bl o.isSome,H,I',rfl,q⟩
 ·unfold yr2 at h;split at h
  ·next p kk ek =>
   split at h
   ·next kvs e =>
    cases rx;obtain ⟨ws,hw,rk⟩:=m.dck p kvs e;cases wc2 ry ek;refine ⟨p,_,rfl,DGet.k (k:=kk) hw,?_⟩
    have es:(valV ws kk).isSome=(valK kvs kk).isSome:=by
     rcases rk.val (t:=kk) with ⟨z1,z2⟩ | ⟨d,w,z1,z2,_⟩ <;> rw [z1,z2] <;> rfl
    rw [es];exact k _ _ _ _ h (Kp.refl _) (.bl _) m
   ·exact h.elim
  ·exact h.elim
theorem wd3 (hu:X.A.units + 64 < cLine):RO X (compareOp .NotIn) (yr2 true):=yb4 true hu
theorem wl2 {o i value:Expr} {to ti tv:TE3} (hu:X.A.units + 64 < cLine) (ho:RE X o to) (hi:RE X i ti) (hv:RE X value tv) (hs:swapsWith value (some (.Subscript o i pos')) pos.line X.env=pure false:=by rfl) :
    RS X (.Assign [.Subscript o i pos'] value pos) (tf2 to ti tv):=by
 obtain ⟨vo,po,ro⟩:=ho;obtain ⟨vi,pi,ri⟩:=hi;obtain ⟨vv,pv,rv⟩:=hv
 refine ⟨_,yz1 [2] po pi pv hs,λ σ H D ρ μ D3 s m h k=>rv σ H _ ρ μ _ s m h λ y μ1 v H1 h1 k1 r1 m1=>ro σ H1 _ ρ μ1 _ (s.mono k1) m1 h1 λ d μ2 x H2 h2 k2 r2 m2 =>
  ri σ H2 _ ρ μ2 _ (s.mono (k1.trans k2)) m2 h2 λ kd μ3 b H3 h3 k3 r3 m3=>?_⟩
 split at h3
 ·next p kk ek =>
  split at h3
  ·next kvs e =>
   cases r2;obtain ⟨ws,hw,rk⟩:=m3.dck p kvs e;cases wc2 r3 ek;have hl:=rk.len;have hz:(90000:Nat) < sizeLine:=by decide
   refine ⟨p,_,rfl,DPut.k (k:=kk) hw [2],?_⟩;exact k.nx _ _ _ _ h3.2 (k1.trans (k2.trans (k3.trans (Kp.wrK hw)))) (s.mono (k1.trans (k2.trans (k3.trans (Kp.wrK hw))))) (m3.wrK hw (rk.put (r1.mono (k2.trans k3))))
  ·exact h3.elim
 ·exact h3.elim
end
end Pv
namespace L2
open PySem PySem.Spec PyProof.Rows
def It2 (lo:Int) (n:Nat):It:=⟨λ i _=>i < n,λ i H x H'=>H'=H /\ x=.int (lo + i * 2),λ i _=>n<=i⟩
theorem xk2 {P:Program} {w:World} {K:PySem.W.Frag} {tg:Expr} (it:Addr) (lo:Int) (n:Nat):Turn P w K tg (It2 lo n) [it] it (λ i h=>IsRangeIter h it (lo + (i:Nat) * 2) ((n:Int) - (i:Nat)) 2) where
 mem:=by simp
 obj:=λ i h st b hb=>by
  have e:b=it:=by simpa using hb
  subst e
  exact ⟨_,st,λ v z=>by
   have z':Data.fields _=Data.cell v:=z;cases z'⟩
 keep:=λ i h h' st k=>k it [16] _ st
 item:=by
  intro X hP hw hK hc i pins s σ H E I hf st hg;subst hP hw hK;obtain ⟨f0,f1,f2,f3,f4,f5⟩:=hf it [16];have W:=Walks.range (prog:=X.prog) (w:=X.w) (I.ok.hd hc) it lo 2 n;refine W.item i s _ _ hg st λ v h' tk hv st' kk=>?_;obtain ⟨t,rfl⟩:=hv;have I1:Inv X pins σ H { s with heap:=h',toks:=tk }:=I.turned (λ b o hb e=>kk b o (by simpa using hb) e) f0 f1 f3 f4 f5;exact ⟨_,rfl,sg1 (s:={ s with heap:=h',toks:=tk }) (n := "range_iterator") st' rfl rfl [7] ⟨.int (lo + i * 2),H,I1,⟨t,rfl⟩,⟨rfl,rfl⟩,st',λ b hb=>(hf b hb).1⟩⟩
 done:=by
  intro X hP hw hK hc i pins s σ H E I hf st hg;subst hP hw hK;obtain ⟨f0,f1,f2,f3,f4,f5⟩:=hf it [16];exact wpAny_pyNext_range_end (I.ok.hd hc) st (by have:n<=i:=hg; omega) λ h' eb=>⟨rfl,I.turned (t':=s.toks) (λ b o hb e=>eb b o hb e) f0 f1 f3 f4 f5⟩
 self:=λ _ _ _ _ _ st h=>wpAny_pyIter_rangeiter st h
theorem sk1 (a b:Int):Builtin.Range.rangeSize a b 2=(((b - a + 1) / 2).toNat:Int):=by
 simp only [Builtin.Range.rangeSize,show (2:Int) > 0 by decide,if_true];split <;> omega
theorem yw1 {a b:Int} (ha : -(2 ^ 60)<=a) (ha':a < 2 ^ 60) (hb : -(2 ^ 60)<=b) (hb':b < 2 ^ 60):Builtin.Range.small a b 2=true:=by
 unfold Builtin.Range.small;rw [sk1];simp only [Builtin.Range.rangeFitsLong,Bool.and_eq_true,Bool.or_eq_true,decide_eq_true_eq,beq_iff_eq,show (2:Int) > 0 by decide,if_true];omega
section
variable {X:Cx} {tg:Expr}
theorem yy1 {pins:[5]} {σ:St} {H:Hp} {s:Shared} {R:It->Hp->Prop} {E:[4]} {lo hi:Int} {t u v:Tok} {tk:Nat} (I:[6]) (h1 : -(2 ^ 60)<=lo) (h2:lo < 2 ^ 60) (h3 : -(2 ^ 60)<=hi) (h4:hi < 2 ^ 60)
    (q:R (It2 lo ((hi - lo + 1) / 2).toNat) H):wpAny [9] X.A (pyIter (.ref s.heap.objs.size)) (PIE X pins σ tg R) E { s with heap:=s.heap.push { cls:=.type "range",data:=.fields #[.int lo t,.int hi u,.int 2 v] },toks:=tk }:=by
 refine wpAny_pyIter_range (IsRange.new ..) (yw1 h1 h2 h3 h4) ?_;have I1:Inv X pins σ H { s with heap:=s.heap.push { cls:=.type "range",data:=.fields #[.int lo t,.int hi u,.int 2 v] },toks:=tk }:=I.kept λ b o e=>Heap.get?_push_of_some _ e
 refine ⟨(s.heap.push { cls:=.type "range",data:=.fields #[.int lo t,.int hi u,.int 2 v] }).objs.size,[(s.heap.push { cls:=.type "range",data:=.fields #[.int lo t,.int hi u,.int 2 v] }).objs.size],_,_,H,rfl,
  I1.kept (t':=tk) λ b o e=>Heap.get?_push_of_some _ e,xk2 _ lo ((hi - lo + 1) / 2).toNat,?_,λ b hb=>?_,q⟩
 ·have e1:lo + ((0:Nat):Int) * 2=lo:=by simp
  have e2:((((hi - lo + 1) / 2).toNat:Nat):Int) - ((0:Nat):Int)=Builtin.Range.rangeSize lo hi 2:=by rw [sk1]; simp
  show IsRangeIter _ _ (lo + ((0:Nat):Int) * 2) (((((hi - lo + 1) / 2).toNat:Nat):Int) - ((0:Nat):Int)) 2;rw [e1,e2];exact Heap.get?_push_size _ rfl
 ·have e:b=(s.heap.push { cls:=.type "range",data:=.fields #[.int lo t,.int hi u,.int 2 v] }).objs.size:=by simpa using hb
  subst e;exact I1.fpOk [14] (I1.hok.fresh [14])
def su4 (ta:TA):TI:=λ σ H R=>ta σ H λ vs H1=>∃ i j:Int,vs=[.int i,.int j,.int 2] /\ (-(2 ^ 60)<=i /\ i < 2 ^ 60 /\ -(2 ^ 60)<=j /\ j < 2 ^ 60) /\ R (It2 i ((j - i + 1) / 2).toNat) H1
theorem tz1 {a b c:Expr} {ta:TA} {p pos:Pos} (hg:Gl X "range") (hm:X.mg "range" = none) (ha:PA X [a,b,c] ta) (hs:starEach [a,b,c] X.env=[(false,eval a X.env),(false,eval b X.env),(false,eval c X.env)]:=by rfl) (hs2:starEach [b,c] X.env=[(false,eval b X.env),(false,eval c X.env)]:=by rfl) :
    PI X tg (.Call (.Name "range" p) [a,b,c] [] pos) (su4 ta):=by
 intro pins s σ H R I h;refine Call_ (yl0 I hg hm boot_range (PyProof.Rows.callWith_type1 (thn (ha pos pins s σ H _ I h) λ us s1 ⟨vs,H1,I1,r1,q1⟩=>?_) (by rw [hs,hs2]) (by rw [hs2]; rfl)));obtain ⟨i,j,e,⟨q1,q2,q3,q4⟩,q⟩:=q1;subst e;cases r1 with
 | cons r rr =>
  cases rr with
  | cons r' rr =>
   cases rr with
   | cons r3 rr =>
    cases rr;obtain ⟨t,rfl⟩:=r;obtain ⟨t',rfl⟩:=r';obtain ⟨t3,rfl⟩:=r3;exact call_range_3 [7] (yy1 I1 q1 q2 q3 q4 q) (.inl (PyProof.noPylong_small [7]))
end
end L2
namespace Pv
open PySem L2
def rng2 (lo:Int) (n:Nat):List D:=(List.range n).map λ i=>.int (lo + (i:Nat) * 2)
theorem tl2 (lo:Int) (n i:Nat):(rng2 lo n)[i]?=if i < n then some (.int (lo + i * 2)) else none:=by
 unfold rng2;rw [getElem?_map];split
 ·next h=>rw [List.getElem?_range h]; rfl
 ·next h=>rw [getElem?_eq_none (by simpa using Nat.le_of_not_lt h)]; rfl
theorem ul2 (lo:Int) (n:Nat):(rng2 lo n).length=n:=by simp [rng2]
theorem yd2 {K:Fg} {H0:Hp} (lo:Int) (n:Nat):ItOk K (It2 lo n) (rng2 lo n) (λ _=>True) H0:=λ i H μ k m _=>by
 refine ⟨λ d e=>?_,λ hl=>by rw [ul2] at hl; exact hl⟩;rw [tl2] at e;split at e
 ·next h =>
  cases e;refine ⟨h,λ x H2 y=>?_⟩;obtain ⟨rfl,rfl⟩:=y;exact ⟨Kp.refl _,m,.int _⟩
 ·cases e
def irS3 (t:TA3):TI3:=λ ρ μ R=>t ρ μ λ ds μ1=>match ds with
 | [.int i,.int j,.int c]=>c=2 /\ (-(2 ^ 60)<=i /\ i < 2 ^ 60 /\ -(2 ^ 60)<=j /\ j < 2 ^ 60) /\ R (rng2 i ((j - i + 1) / 2).toNat) (λ _=>True) μ1
 | _=>False
section
variable {X:Cx} {a b c tg:Expr} {ta tb tc:TE3} {pos:Pos}
theorem zx1 {p:Pos} (hm:X.mg "range" = none) (ha:RE X a ta) (hb:RE X b tb) (hc:RE X c tc) (hg:Gl X "range" := by rfl) (hs:starEach [a,b,c] X.env=[(false,eval a X.env),(false,eval b X.env),(false,eval c X.env)]:=by rfl) (hs2:starEach [b,c] X.env=[(false,eval b X.env),(false,eval c X.env)]:=by rfl) (hs3:starEach [c] X.env=[(false,eval c X.env)]:=by rfl) :
    RI X tg (.Call (.Name "range" p) [a,b,c] [] pos) (irS3 (va0 ta (va0 tb (va0 tc nil3)))):=by
 obtain ⟨va,pa,ra⟩:=xa0 ha (xa0 hb (xa0 hc ta0 hs3) (by rw [hs2,hs3])) (by rw [hs,hs2]);refine ⟨_,tz1 hg hm pa hs hs2,λ σ H R ρ μ R3 s m h k=>ra σ H _ ρ μ _ s m h λ ds μ1 vs H1 h1 k1 r1 m1=>?_⟩;split at h1
 ·next i j c =>
  obtain ⟨rfl,h2,h3⟩:=h1;cases r1 with
  | cons r1 r2 =>
   cases r2 with
   | cons r2 r3 =>
    cases r3 with
    | cons r3 r4 =>
     cases r4;cases r1;cases r2;cases r3;exact ⟨i,j,rfl,h2,k _ _ _ _ _ h3 k1 m1 (yd2 _ _)⟩
 ·exact h1.elim
end
end Pv
namespace Pv
open PySem PySem.Spec PySem.W PyProof.Rows L2
end Pv
namespace Pv
open PySem PySem.Spec PyProof.Rows L2
def vp0 (cells:List (Str × Addr)):List (Str × NameKind)->List (Str × Addr)->List (Str × Addr)
 | [],acc=>acc
 | (n,k) :: r,acc=>if k == .free then vp0 cells r ((n,(cells.lookup n).getD 0) :: acc) else vp0 cells r acc
theorem ty0 {scope:Scope} {env:Env} (h:∀ y ∈ scope.names,y.2=.free->(env.cells.lookup y.1).isSome=true):closureFor scope env=pure (vp0 env.cells scope.names []):=by
 unfold closureFor
 have key:∀ (l:List (Str × NameKind)) (acc:List (Str × Addr)),(∀ y ∈ l,y.2=.free->(env.cells.lookup y.1).isSome=true) ->
     (forIn l acc (λ x r=>if (x.2 == NameKind.free)=true then do let c <- cellOf env x.1; pure (ForInStep.yield ((x.1,c) :: r)) else pure (ForInStep.yield r)):Sem (List (Str × Addr)))=pure (vp0 env.cells l acc):=by
  intro l
  induction l with
  | nil=>intro acc _; rfl
  | cons y r ih =>
   intro acc hl;obtain ⟨n,k⟩:=y;rw [List.forIn_cons];have ih':=λ a=>ih a λ z hz=>hl z (mem_cons_of_mem _ hz);by_cases hk:k=.free
   ·subst hk;have hs:=hl (n,.free) (mem_cons_self ..) rfl;obtain ⟨c,hc⟩:=Option.isSome_iff_exists.mp hs;have ec:cellOf env n=pure c:=by unfold cellOf; rw [hc]
    simp only [vp0,ec,pure_bind,beq_self_eq_true,if_true,hc,Option.getD_some];exact ih' _
   ·have hk':(k == NameKind.free)=false:=by simpa using hk
    simp only [vp0,hk',Bool.false_eq_true,if_false,pure_bind];exact ih' _
 have:=key scope.names [] h;refine Eq.trans ?_ this;refine Eq.trans (bind_pure (forIn scope.names ([]:List (Str × Addr)) _:Sem (List (Str × Addr)))) ?_;congr 1
theorem wt0 {cells:List (Str × Addr)} {x:Str} {c:Addr}:∀ (l:List (Str × NameKind)) (acc:List (Str × Addr)),(∀ y ∈ l,y.2=.free->(cells.lookup y.1).isSome=true)->(acc.lookup x=some c->cells.lookup x=some c) ->
    (vp0 cells l acc).lookup x=some c->cells.lookup x=some c
 | [],acc,_,ha,h=>ha h
 | (n,k) :: r,acc,hl,ha,h=>by
  unfold vp0 at h;split at h
  ·next hk =>
   refine wt0 r _ (λ z hz=>hl z (mem_cons_of_mem _ hz)) (λ h2=>?_) h;rw [lookup_cons] at h2;split at h2
   ·next e =>
    have e':x=n:=eq_of_beq e;subst e';obtain ⟨c',hc⟩:=Option.isSome_iff_exists.mp (hl (x,k) (mem_cons_self ..) (eq_of_beq hk));rw [hc] at h2;simp only [Option.getD_some,Option.some.injEq] at h2;rw [hc,h2]
   ·exact ha h2
  ·exact wt0 r acc (λ z hz=>hl z (mem_cons_of_mem _ hz)) ha h
theorem vt0 {cells:List (Str × Addr)} {x:Str}:∀ (l:List (Str × NameKind)) (acc:List (Str × Addr)),((∃ c,acc.lookup x=some c) \/ (x,NameKind.free) ∈ l)->∃ c,(vp0 cells l acc).lookup x=some c
 | [],acc,h=>by
  rcases h with h | h
  ·exact h
  ·cases h
 | (n,k) :: r,acc,h=>by
  unfold vp0;split
  ·next hk =>
   refine vt0 r _ ?_;by_cases e:x=n
   ·subst e;left;exact ⟨(cells.lookup x).getD 0,by rw [lookup_cons]; simp⟩
   ·rcases h with ⟨c,h⟩ | h
    ·left;refine ⟨c,?_⟩;rw [lookup_cons];have:(x == n)=false:=by simpa using e
     rw [this]; exact h
    ·right;rcases List.mem_cons.mp h with h | h
     ·exact absurd (congrArg Prod.fst h) e
     ·exact h
  ·next hk =>
   refine vt0 r acc ?_;rcases h with h | h
   ·exact .inl h
   ·rcases List.mem_cons.mp h with h | h
    ·cases h; exact absurd rfl hk
    ·exact .inr h
theorem CompSc.free {X:Cx} {NN:List Str} {scope:Scope} {js:List (Option Nat)} (hcell:∀ y ∈ scope.names,y.2 ≠ .cell) (hk:scope.kind=.function) (hfn:X.env.scope.kind=.function)
    (hn:∀ y ∈ scope.names,y.2=.local->scope.names.lookup y.1=some .local) (hfree:∀ y ∈ scope.names,y.2=.free->X.env.scope.names.lookup y.1=some .cell) (hlook:∀ y ∈ scope.names,y.2=.free->scope.names.lookup y.1=some .free)
    (hcl:∀ x,X.env.scope.names.lookup x=some .cell->(X.env.cells.lookup x).isSome=true) (len:js.length=NN.length)
    (hout:∀ i ∈ List.range js.length,∀ j,js.getD i none=some j->∃ x,NN[i]?=some x /\ X.N[j]?=some x /\ scope.names.lookup x=some .free) :
    CompSc X NN scope (vp0 X.env.cells scope.names []) js where
 clos:=ty0 λ y hy e=>hcl _ (hfree y hy e)
 cell:=hcell
 kind:=hk
 names:=hn
 sub:=λ x c h=>wt0 scope.names [] (λ y hy e=>hcl _ (hfree y hy e)) (λ h=>by simp at h) h
 has:=λ x h=>by
  refine vt0 scope.names [] (.inr ?_)
  have hm:∃ k,(x,k) ∈ scope.names /\ (k=.free \/ k=.cell):=by
   have key:∀ kk,(relabel scope X.env).names.lookup x=some kk->(kk=.cell \/ kk=.free)->∃ k,(x,k) ∈ scope.names /\ (k=.free \/ k=.cell):=λ kk hkk hc=>by
    have hmem:=xi0 hkk;obtain ⟨⟨n,k⟩,hy,e⟩:=List.mem_map.mp hmem;dsimp only at e;split at e
    ·next hq =>
     cases e;simp only [Bool.and_eq_true] at hq;exact ⟨k,hy,.inl (by simpa using hq.1.1)⟩
    ·cases e;exact ⟨kk,hy,hc.symm⟩
   rcases h with h | h
   ·exact key _ h (.inl rfl)
   ·exact key _ h (.inr rfl)
  obtain ⟨k,hk1,hk2⟩:=hm;rcases hk2 with rfl | rfl
  ·exact hk1
  ·exact absurd rfl (hcell _ hk1)
 len:=len
 out:=λ i j h=>by
  have hi:i < js.length:=by
   rcases Nat.lt_or_ge i js.length with z | z
   ·exact z
   ·rw [getElem?_eq_none z] at h; cases h
  obtain ⟨x,e1,e2,e3⟩:=hout i (List.mem_range.mpr hi) j (by rw [getD_eq_getElem?_getD,h]; rfl);have hf:=hfree (x,.free) (xi0 e3) rfl;refine ⟨x,e1,e2,.inr (.inl hf),by rw [hf]; simp,?_⟩;left
  have key:∀ (l:List (Str × NameKind)),l.lookup x=some .free->(l.map λ (n,k)=>if (k == NameKind.free && X.env.scope.kind == .function && X.env.kindOf n == some .cell) then (n,NameKind.cell) else (n,k)).lookup x=some .cell:=λ l=>by
   induction l with
   | nil=>intro h; simp at h
   | cons y r ih =>
    obtain ⟨n,k⟩:=y;intro h;rw [lookup_cons] at h;rw [map_cons,lookup_cons];by_cases e:x=n
    ·subst e;simp only [beq_self_eq_true,Option.some.injEq] at h;subst h
     have hkind:(X.env.kindOf x == some NameKind.cell)=true:=by
      show (X.env.scope.names.lookup x == some NameKind.cell)=true;rw [hf]; rfl
     simp [hfn,hkind]
    ·have e':(x == n)=false:=by simpa using e
     rw [e'] at h;have ih':=ih h;by_cases hq:(k == NameKind.free && X.env.scope.kind == ScopeKind.function && X.env.kindOf n == some NameKind.cell)=true
     ·simp only [hq,if_true,e']; exact ih'
     ·simp only [hq,Bool.false_eq_true,if_false,e']; exact ih'
  exact key _ e3
theorem ui0 {CX:CXT} {P:Program} {w:World} {K:Fg} {mg:Str->Option Value} {base:Heap} {N:List Str} {qual:Str} {sc:Scope} {f:Addr} {cdv:Value} {A:Around} {outer:List Env} {s:Shared} {H:Hp} {E:XK} {NN:List Str} {scope:Scope} {js:List (Option Nat)}
    (hcell:∀ y ∈ scope.names,y.2 ≠ .cell:=by decide +kernel) (hk:scope.kind=.function:=by rfl) (hfn:sc.kind=.function:=by rfl)
    (hn:∀ y ∈ scope.names,y.2=.local->scope.names.lookup y.1=some .local:=by decide +kernel) (hfree:∀ y ∈ scope.names,y.2=.free->sc.names.lookup y.1=some .cell:=by decide +kernel)
    (hlook:∀ y ∈ scope.names,y.2=.free->scope.names.lookup y.1=some .free:=by decide +kernel) (len:js.length=NN.length:=by rfl)
    (hout:∀ i ∈ List.range js.length,∀ j ∈ (js.getD i none).toList,∃ x ∈ NN[i]?.toList,N[j]?=some x /\ scope.names.lookup x=some .free:=by decide +kernel) :
    CompSc (cxOf CX P w K mg base N qual sc f cdv A outer s H E).nox NN scope (vp0 (cxOf CX P w K mg base N qual sc f cdv A outer s H E).nox.env.cells scope.names []) js :=
 CompSc.free (X:=(cxOf CX P w K mg base N qual sc f cdv A outer s H E).nox) hcell hk hfn hn hfree hlook (λ x h=>by
  obtain ⟨c,hc⟩:=sy0 (n:=_) h
  exact Option.isSome_iff_exists.mpr ⟨c,hc⟩) len λ i hi j hj=>by
   obtain ⟨x,h1,h2,h3⟩:=hout i hi j (by rw [hj]; simp);exact ⟨x,by simpa using h1,h2,h3⟩
section
variable {X:Cx} {NN:List Str} {scope:Scope} {cl:List (Str × Addr)} {js:List (Option Nat)}
theorem zk3 {elt target iter:Expr} {ifs:List Expr} {pos:Pos} {wi:TI} {g:TG} {tc:TT} {te:TE} (hc:X.calm=true) (S:CompSc X NN scope cl js) (hi:PI X target iter wi)
    (hg:∀ C fp s₀ H₀ pn,PG [12] target g) (ht:∀ C fp s₀ H₀ pn,PTs [12] ifs tc) (he:∀ C fp s₀ H₀ pn,PE [12] elt te)
    (hs:∀ x,foldedSetIterable iter X.env x=pure x) {use:Option (Value->Sem Unit)} {Q':[4]} {pins:[5]} {s:Shared} {σ:L2.St} {H:Hp} {Q:VK} (I:[6]) (h:tu1 js wi g tc te σ H Q)
    (hu:∀ (p0 C:Addr) (H':Hp) (s':Shared) (m':Str->Option Value),Inv X pins σ H' s'->s'.heap.Ns C m'->H' C=none->C ≠ X.env.locals->X.s₀.heap.objs.size<=C->(∀ x c,X.env.cells.lookup x=some c->c ≠ C)->(∀ p ∈ X.pn ++ pins,p.1 ≠ C)->Q (.ref p0) H' ->
     compPost [9] X.A X.xe use Q' (.ref p0) C (.ok .next) s') :
    wpAny [9] X.A (comprehension [13] scope X.env (firstIterPos [⟨target,iter,ifs,0⟩] pos) (newList []) (firstAsync [⟨target,iter,ifs,0⟩]) (firstIter [⟨target,iter,ifs,0⟩] X.env) use) Q' X.xe s:=by
 refine wpAny_comprehension_free (use:=use) rfl hs S.clos S.kind S.names (thn (hi pins s σ H _ I h) λ xv s1 h1=>thn h1 λ itv s2 h2=>?_);obtain ⟨it,fp,tn,J,H2,rfl,I2,T,st2,f2,hW⟩:=h2;refine wpAny_newObj_type (wpAny_newFunctionEnv S.cell (by intro y hy; simp at hy) (λ h₁ hns₁ hsb₁=>?_) S.kind);dsimp only at hns₁ hsb₁ ⊢;have hD:H2 s2.heap.objs.size=none:=I2.hok.fresh [14]
 have I3:Inv X pins σ (upd H2 s2.heap.objs.size (.lst [])) { s2 with heap:=s2.heap.push [38] } :=
  I2.lnew (t':=s2.toks) (its:=[]) .nil (by rw [sizeLine_eq]; decide)
 generalize hsD:({ s2 with heap:=s2.heap.push [38] }:Shared)=sD at I3;have eh:sD.heap=s2.heap.push [38]:=by rw [<- hsD]
 have es:∀ (h:Heap) (tk:Nat),({ s2 with heap:=h,toks:=tk }:Shared)={ sD with heap:=h,toks:=tk }:=λ h tk=>by rw [<- hsD]
 have hsz:s2.heap.objs.size < sD.heap.objs.size:=by rw [eh,Heap.size_push]; exact Nat.lt_succ_self _
 rw [<- eh] at hns₁ hsb₁ ⊢;generalize hp0:s2.heap.objs.size=p0 at *;have up:∀ b u,s2.heap.get? b=some u->sD.heap.get? b=some u:=λ b u e=>by rw [eh]; exact Heap.get?_push_of_some _ e
 have k:∀ b u,sD.heap.get? b=some u->h₁.get? b=some u:=λ b u e=>hsb₁.extBut b u (Nat.ne_of_lt (Heap.lt_size e)) (Heap.get?_push_of_some _ e)
 have f3:∀ b ∈ fp,FpOk X pins (upd H2 p0 (.lst [])) b /\ b < sD.heap.objs.size:=λ b hb=>by
  obtain ⟨o,ho,_⟩:=T.obj 0 _ st2 b hb;have hlt:b < p0:=by rw [<- hp0]; exact Heap.lt_size ho
  refine ⟨⟨?_,(f2 b hb).2⟩,Nat.lt_trans hlt hsz⟩;rw [vc0 (Nat.ne_of_lt hlt)]; exact (f2 b hb).1
 obtain ⟨W,⟨m0,w0⟩,turn⟩:=hW p0 hD;have I4:=ud1 (tk:=s2.toks + ([]:List (Str × Value)).length) hc S I3 f3 hns₁ k;have st4:tn 0 h₁:=T.keep 0 _ _ st2 λ b _ o e=>k b o (up b o e);rw [es];generalize hX':wd0 X NN scope cl sD.heap.objs.size fp sD (upd H2 p0 (.lst [])) (X.pn ++ pins)=X' at I4;have a1:X'.env=compEnvC scope cl sD.heap.objs.size X.env:=by rw [<- hX']
 have a2:X'.prog=X.prog:=by rw [<- hX']
 have a3:X'.w=X.w:=by rw [<- hX']
 have a4:X'.A=X.A:=by rw [<- hX']
 have a5:X'.K=X.K:=by rw [<- hX']
 have a6:X'.calm=true:=by rw [<- hX']; exact hc
 have a7:X'.xe=λ _ _=>False:=by rw [<- hX']
 have a8:X'.ex=fp:=by rw [<- hX']
 have T':Turn X'.prog X'.w X'.K target J fp it tn:=by rw [a2,a3,a5]; exact T
 have hg':PG X' target g:=by rw [<- hX']; exact hg _ _ _ _ _
 have ht':PTs X' ifs tc:=by rw [<- hX']; exact ht _ _ _ _ _
 have he':PE X' elt te:=by rw [<- hX']; exact he _ _ _ _ _
 have fin:∀ {σ':L2.St} {H':Hp} {s':Shared},Inv X' [] σ' H' s'->Q (.ref p0) H'->compPost [9] X.A X.xe use Q' (.ref p0) sD.heap.objs.size (.ok .next) s':=λ {σ' H' s'} I' q=>by
  obtain ⟨m',hn',_⟩:=I'.loc;rw [a1] at hn'
  have u:Un (frs X.stack) fp (upd H2 p0 (.lst [])) H' sD.heap s'.heap:=by
   have:=I'.base;rw [<- hX'] at this;exact this
  have hch:∀ b ∈ fp,(b ∈ X.ex \/ X.s₀.heap.objs.size<=b) /\ b ≠ X.env.locals /\ (∀ x c,X.env.cells.lookup x=some c->c ≠ b) /\ ∀ p ∈ X.pn ++ pins,p.1 ≠ b:=λ b hb=>by
   obtain ⟨_,z1,_,z3,z4,z5⟩:=(f3 b hb).1;exact ⟨z3,z1,z4,z5⟩
  have os':s'.os=sD.os:=by
   have:=I'.os;rw [<- hX'] at this;exact this
  have hok':HOk X.prog X.w H' s'.heap:=by
   have:=I'.hok;rw [<- hX'] at this;exact this
  have I5:Inv X pins σ H' s':=I3.call' os' u hok' I'.bare hch
  have hC:H' sD.heap.objs.size=none:=by
   have:=I'.free;rw [a1] at this;exact this
  refine hu p0 _ H' s' m' I5 hn' hC (Nat.ne_of_gt I3.lt) I3.sz (λ x c e=>?_) (λ p hp=>?_) q
  ·obtain ⟨v,o,ho,_⟩:=I3.cell x c e;exact Nat.ne_of_lt (Heap.lt_size ho)
  ·exact Nat.ne_of_lt (Heap.lt_size (I3.pin p hp).1)
 have fp4:∀ {H':Hp},(∀ b ∈ fp,H' b=none)->∀ b ∈ fp,FpOk X' [] H' b:=λ hn b hb=>by
  obtain ⟨_,z1,z2,z3,z4,z5⟩:=(f3 b hb).1;rw [<- hX'];refine ⟨hn b hb,Nat.ne_of_lt (f3 b hb).2,λ z=>?_,.inl hb,λ x c e=>z4 x c (S.sub x c e),λ p hp=>z5 p (by simpa using hp)⟩;rcases List.mem_cons.mp (I3.stkSub _ z) with z | z
  ·exact z1 z
  ·exact z2 z
 have loop:∀ s₃:Shared,Inv X' [] (tn0 js σ) (upd H2 p0 (.lst [])) s₃->tn 0 s₃.heap ->
     codeAny [9] X.A (.compLoop [13] 0 (.ref it) (.ref p0) (compEnvC scope cl sD.heap.objs.size X.env)) (compPost [9] X.A X.xe use Q' (.ref p0) sD.heap.objs.size) s₃:=by
  intro s₃ I₃ st₃;refine codeAny_loop rfl (λ n s'=>∃ i σ' H',Inv X' [] σ' H' s' /\ tn i s'.heap /\ (∀ b ∈ fp,H' b=none) /\ W i n σ' H') (λ n s' hI=>?_) m0 ⟨0,tn0 js σ,_,I₃,st₃,λ b hb=>(f3 b hb).1.1,w0⟩;obtain ⟨i,σ3,H3,J3,st3,fr3,w3⟩:=hI;have tr:=turn i n σ3 H3 w3;show wpAny _ X.A ((compTurn [13] 0 (.ref it) (.ref p0) (compEnvC scope cl sD.heap.objs.size X.env)).onRaise (λ x=>do noteFrame x (compEnvC scope cl sD.heap.objs.size X.env); theTreesLotGoes x)) _ _ s';refine wpAny_noted ?_;rw [compTurn_list,<- a1,<- a2,<- a3,<- a4];have nof:∀ {α:Type} {t:Sem α} {Q':α->Shared->Prop} {s'':Shared} {E:[4]},wpAny (model X'.prog X'.w) X'.A t Q' X'.xe s''->wpAny (model X'.prog X'.w) X'.A t Q' E s'':=λ h=>wpAny_mono h (λ _ _ q=>q) λ _ _ z=>by rw [a7] at z; exact z.elim
  rcases tr with ⟨stop,qn⟩ | ⟨go,step⟩
  ·refine wpAny_bind (wpAny_standAt (wpAny_bind (nof (thn (T'.done X' rfl rfl rfl a6 i [] s' σ3 H3 X'.xe J3 (fp4 fr3) st3 stop) λ r s4 ⟨hr,J4⟩=>?_))));subst hr;refine wpAny_pure ?_;show compPost (model X'.prog X'.w) X'.A X.xe use Q' (.ref p0) sD.heap.objs.size (.ok .next) s4;rw [a2,a3,a4];exact fin J4 qn
  ·refine wpAny_bind (wpAny_standAt (wpAny_bind (nof (thn (T'.item X' rfl rfl rfl a6 i [] s' σ3 H3 X'.xe J3 (fp4 fr3) st3 go) λ r s4 ⟨u,hr,h4⟩=>?_))));subst hr;refine wpAny_bind (nof (thn h4 λ _ s5 ⟨x,H5,I5,r5,y5,st5,fr5⟩=>?_));have I5':=I5.pinned (fp4 fr5) (T.obj _ _ st5);refine wpAny_bind (nof (thn (hg' _ s5 σ3 H5 x u _ I5' r5 (step x H5 y5)) λ _ s6 ⟨σ6,H6,I6,q6⟩=>?_));refine wpAny_bind (nof (thn (ht' _ s6 σ6 H6 _ I6 q6) λ ok s7 ⟨H7,I7,q7⟩=>?_))
   have again:∀ {s8:Shared} {σ8:L2.St} {H8:Hp},Inv X' ([] ++ yv0 fp s5.heap) σ8 H8 s8->(∃ m',m' < n /\ W (i + 1) m' σ8 H8)->∃ m,m < n /\ ∃ i σ' H',Inv X' [] σ' H' s8 /\ tn i s8.heap /\ (∀ b ∈ fp,H' b=none) /\ W i m σ' H':=λ {s8 σ8 H8} I8 ⟨m',hm,w8⟩=>by
    refine ⟨m',hm,i + 1,σ8,H8,I8.unpinned,T.keep _ _ _ st5 λ b hb o e=>(I8.pin (b,o) (mem_append_right _ (mem_append_right _ (ug0 hb e)))).1,λ b hb=>?_,w8⟩;obtain ⟨o,e,d⟩:=T.obj _ _ st5 b hb;exact (I8.pin (b,o) (mem_append_right _ (mem_append_right _ (ug0 hb e)))).2.1
   cases ok with
   | false=>exact wpAny_pure ⟨rfl,again I7 q7⟩
   | true =>
    refine wpAny_bind (wpAny_bind (nof (thn (he' _ s7 σ6 H7 _ I7 q7) λ xv s8 ⟨y,H8,I8,r8,ys,q8,hlen,q9⟩=>wpAny_bind (nof ?_))));refine thn (tr0 (X:=X') _ s8 σ6 H8 (.ref p0) [y] (.ref p0) [xv] (λ v H9=>v=.non /\ H9=upd H8 p0 (.lst (ys ++ [y]))) I8 rfl (.cons r8 .nil) ⟨p0,ys,y,rfl,rfl,q8,hlen,rfl,rfl⟩) λ rv s9 ⟨v9,H9,I9,_,_,e9⟩=>?_;subst e9;exact wpAny_pure (wpAny_pure ⟨rfl,again I9 q9⟩)
 exact codeAny_compStart_list (loop _ I4 st4) (T.self X.A 0 _ _ _ st4 (loop _ I4 st4))
theorem ze3 {i:Nat} {x:Str} {px apos:Pos} {elt target iter:Expr} {ifs:List Expr} {pos:Pos} {wi:TI} {g:TG} {tc:TT} {te:TE} (hN:X.N.Nodup) (hi':X.N[i]?=some x) (hl:X.env.scope.names.lookup x=some .local) (hc:X.calm=true) (S:CompSc X NN scope cl js) (hi:PI X target iter wi)
    (hg:∀ C fp s₀ H₀ pn,PG [12] target g) (ht:∀ C fp s₀ H₀ pn,PTs [12] ifs tc) (he:∀ C fp s₀ H₀ pn,PE [12] elt te)
    (hs:∀ x,foldedSetIterable iter X.env x=pure x) (hw:swapsWith [13] (some (.Name x px)) apos.line X.env=pure true) :
    PS X (.Assign [.Name x px] [13] apos) (tAsg (tu1 js wi g tc te) (yj3 i)):=by
 intro pins s σ H D I h;rw [exec_Assign_Name_used _ _ _ _ hw];refine wpAny_bind (wpAny_standAt (wpAny_bind ?_));show wpAny _ _ (comprehension [13] scope X.env (firstIterPos [⟨target,iter,ifs,0⟩] pos) (newList []) (firstAsync [⟨target,iter,ifs,0⟩]) (firstIter [⟨target,iter,ifs,0⟩] X.env) (some (assign (.Name x px) X.env)) >>= λ _=>pure ()) _ _ s;refine wpAny_bind (wpAny_mono (zk3 (use:=some (assign (.Name x px) X.env)) (Q':=λ _ s'=>SP X pins D .next s') hc S hi hg ht he hs I h λ p0 C H' s' m' I5 hn hC n1 n2 n3 n4 q=>?_) (λ _ s' hq=>wpAny_pure (wpAny_pure hq)) λ _ _ e=>e);show wpAny _ _ (assign (.Name x px) X.env (.ref p0)) _ _ s';refine wpAny_assign_Name (xa1 I5 hN hi' (.inl hl) (v:=.ref p0) rfl (λ s2 I6 ⟨b,sb,hb⟩=>?_) (.inr hl))
 have nb:C ≠ b:=by
  rcases hb with hb | hb
  ·rw [hb]; exact n1
  ·exact Ne.symm (n3 x b hb)
 exact ⟨m',hn.sameBut sb nb,λ h' sb'=>⟨_,H',I6.turned (t':=s2.toks) (λ b o hb e=>sb'.extBut b o hb e) hC n1 (.inr n2) n3 n4,q⟩⟩
end
section
variable {X:Cx} {elt target iter:Expr} {ifs:List Expr} {pos:Pos} {ti:TI3} {g:TG3} {tc:TT3} {te:TE3} {NN:List Str} {scope:Scope} {cl:List (Str × Addr)} {js:List (Option Nat)}
theorem xq0 {i:Nat} {x:Str} {px apos:Pos} (hN:X.N.Nodup) (hc:X.calm=true) (S:CompSc X NN scope cl js) (hi:RI X target iter ti) (hg:∀ C fp s₀ H₀ pn,RG [12] target g)
    (ht:∀ C fp s₀ H₀ pn,RTs [12] ifs tc) (he:∀ C fp s₀ H₀ pn,RE [12] elt te)
    (hs:∀ x,foldedSetIterable iter X.env x=pure x) (hi':X.N[i]?=some x:=by rfl) (hl:X.env.scope.names.lookup x=some .local:=by rfl)
    (hw:swapsWith [13] (some (.Name x px)) apos.line X.env=pure true:=by rfl):RS X (.Assign [.Name x px] [13] apos) (set3 i (yi0 js ti g tc te)):=by
 obtain ⟨wi,pi,ri⟩:=hi
 let gU:TG:=λ v σ H Q=>∀ (r:TG3),r=g->∃ d ρ μ Q3,RSt X.K H ρ σ /\ RelM X.K μ H /\ RelD X.K H d v /\ g d ρ μ Q3 /\ (∀ ρ' μ' σ' H',Q3 ρ' μ'->Kp H H'->RSt X.K H' ρ' σ'->RelM X.K μ' H'->Q σ' H')
 let tU:TT:=λ σ H Q=>∃ ρ μ Q3,RSt X.K H ρ σ /\ RelM X.K μ H /\ tc ρ μ Q3 /\ (∀ b μ' H',Q3 b μ'->Kp H H'->RelM X.K μ' H'->Q b H')
 let eU:TE:=λ σ H Q=>∃ ρ μ Q3,RSt X.K H ρ σ /\ RelM X.K μ H /\ te ρ μ Q3 /\ Ks X.K H Q3 Q
 have hg':∀ C fp s₀ H₀ pn,PG [12] target gU:=λ C fp s₀ H₀ pn=>by
  obtain ⟨tv,p,r⟩:=hg C fp s₀ H₀ pn;intro pins s σ H v u Q I rv h;obtain ⟨d,ρ,μ,Q3,a1,a2,a3,a4,a5⟩:=h g rfl;exact p pins s σ H v u Q I rv (r v d σ H Q ρ μ Q3 a1 a2 a3 a4 a5)
 have ht':∀ C fp s₀ H₀ pn,PTs [12] ifs tU:=λ C fp s₀ H₀ pn=>by
  obtain ⟨tv,p,r⟩:=ht C fp s₀ H₀ pn;intro pins s σ H Q I h;obtain ⟨ρ,μ,Q3,a1,a2,a3,a4⟩:=h;exact p pins s σ H Q I (r σ H Q ρ μ Q3 a1 a2 a3 a4)
 have he':∀ C fp s₀ H₀ pn,PE [12] elt eU:=λ C fp s₀ H₀ pn=>by
  obtain ⟨tv,p,r⟩:=he C fp s₀ H₀ pn;intro pins s σ H Q I h;obtain ⟨ρ,μ,Q3,a1,a2,a3,a4⟩:=h;exact p pins s σ H Q I (r σ H Q ρ μ Q3 a1 a2 a3 a4)
 have rd:RdE X.K (tu1 js wi gU tU eU) (yi0 js ti g tc te):=RdE.comp ri (λ v d σ H Q ρ μ Q3 a1 a2 a3 a4 a5 _ _=>⟨d,ρ,μ,Q3,a1,a2,a3,a4,a5⟩) (λ σ H Q ρ μ Q3 a1 a2 a3 a4=>⟨ρ,μ,Q3,a1,a2,a3,a4⟩) (λ σ H Q ρ μ Q3 a1 a2 a3 a4=>⟨ρ,μ,Q3,a1,a2,a3,a4⟩);exact ⟨_,ze3 hN hi' hl hc S pi hg' ht' he' hs hw,λ σ H D ρ μ D3 s m h k=>rd σ H _ ρ μ _ s m h λ d μ1 v H1 h1 k1 r1 m1=>k.nx _ _ _ _ h1 k1 ((s.mono k1).set i r1) m1⟩
theorem xl1 {i:Nat} {x:Str} {px apos:Pos} (hN:X.N.Nodup) (hf:∀ y ∈ scope.names,y.2 ≠ .free) (hcl:∀ y ∈ scope.names,y.2 ≠ .cell) (hn:∀ y ∈ scope.names,y.2=.local->scope.names.lookup y.1=some .local) (hi:RI X target iter ti) (hg:∀ C fp s₀ H₀ pn,RG (wd0 X NN scope [] C fp s₀ H₀ pn) target g)
    (ht:∀ C fp s₀ H₀ pn,RTs (wd0 X NN scope [] C fp s₀ H₀ pn) ifs tc) (he:∀ C fp s₀ H₀ pn,RE (wd0 X NN scope [] C fp s₀ H₀ pn) elt te) (hc:X.calm=true:=by rfl) (hk:scope.kind=.function:=by rfl)
    (hs:∀ x,foldedSetIterable iter X.env x=pure x:=by intro _; rfl) (hi':X.N[i]?=some x:=by rfl) (hl:X.env.scope.names.lookup x=some .local:=by rfl)
    (hw:swapsWith [13] (some (.Name x px)) apos.line X.env=pure true:=by rfl):RS X (.Assign [.Name x px] [13] apos) (set3 i (yi0 (NN.map λ _=>none) ti g tc te)) :=
 xq0 hN hc (CompSc.closed hf hcl hk hn) hi hg ht he hs hi' hl hw
end
end Pv
namespace Pv
open PySem
def isN:D->Bool
 | .non=>true
 | _=>false
def isNR (neg:Bool):R3:=λ x y μ Q=>match y with
 | .non=>Q (.bl (if neg then !isN x else isN x)) μ
 | _=>False
def wh3:C3:=λ ds μ Q=>match ds with
 | [.int i,.int j]=>Q (.int (if j < i then j else i)) μ
 | _=>False
end Pv
namespace Pv
open PySem PySem.Spec PyProof.Rows L2
section
variable {X:Cx}
theorem tu4 {K:Fg} {H:Hp} {x:D} {v:V} (r:RelD K H x v):decide (v=.non)=isN x:=by
 cases r <;> simp [isN]
theorem sa4:RO X (compareOp .Is) (isNR false):=by
 refine ⟨_,wf4,λ x y v u H Q μ Q3 m rx ry h k=>?_⟩;cases ry with
 | non =>
  refine ⟨rfl,?_⟩;rw [tu4 rx];exact k _ _ _ _ h (Kp.refl _) (.bl _) m
 | _=>exact False.elim h
theorem ta4 (hc:X.calm=true):RC X (.builtin "min") wh3:=by
 refine ⟨_,th2 hc,λ xs vs H Q μ Q3 m r h k=>?_⟩;cases r with
 | nil=>exact False.elim h
 | cons r1 r2 =>
  cases r1 with
  | int i =>
   cases r2 with
   | nil=>exact False.elim h
   | cons r2 r3 =>
    cases r2 with
    | int j =>
     cases r3 with
     | nil=>exact ⟨i,j,rfl,k _ _ _ _ h (Kp.refl _) (.int _) m⟩
     | cons _ _=>exact False.elim h
    | _=>exact False.elim h
  | _=>exact False.elim h
end
end Pv
namespace Pv
open PySem
end Pv
namespace Pv
open PySem PySem.Spec PyProof.Rows L2
section
variable {X:Cx} {e:Expr} {te:TE3} {p p2 pos pos2:Pos}
theorem xu0 {K:Fg} {H:Hp}:∀ {xs:List D} {us:List V},RelDs K H xs us->RelDs K H xs.reverse us.reverse
 | _,_,.nil=>.nil
 | _,_,.cons r1 r2=>by
  rw [List.reverse_cons,List.reverse_cons];exact (xu0 r2).append (.cons r1 .nil)
variable {o:Expr} {es:List Expr} {to:TE3} {t:TA3} {apos cpos:Pos}
theorem yv2 (ho:RE X o to) (hbase:attributeBase o "pop" X.env (eval o X.env)=eval o X.env:=by rfl) (hline:(apos.endLine == cpos.line)=true:=by rfl) :
    RE X (.Call (.Attribute o "pop" apos) [] [] cpos) (pop3 to):=by
 obtain ⟨va,pa,ra⟩:=ho;refine ⟨_,ze4 PySem.F.plainAttrs_list PySem.F.slot_list_pop PySem.F.type_list_pop sf4 pa hbase hline,λ σ H Q ρ μ Q3 s m h k=>ra σ H _ ρ μ _ s m h λ d μ1 v H1 h1 k1 r1 m1=>?_⟩;cases r1 with
 | ref p =>
  dsimp only at h1;cases e0:μ1 p with
  | none=>rw [e0] at h1; exact h1.elim
  | some oo =>
   cases oo with
   | ins _ _=>rw [e0] at h1; exact h1.elim
   | dck _=>rw [e0] at h1; exact h1.elim
   | dcl _=>rw [e0] at h1; exact h1.elim
   | lst l =>
    rw [e0] at h1;dsimp only at h1;obtain ⟨vs,hv,rs⟩:=m1 p l e0;have rr:=xu0 rs;cases er:l.reverse with
    | nil=>rw [er] at h1; exact h1.elim
    | cons d r =>
     rw [er] at h1 rr;generalize ev:vs.reverse=vr at rr;cases rr with
     | cons r1 r2 =>
      rename_i w ws;have e1:vs=ws.reverse ++ [w]:=by rw [<- List.reverse_reverse vs,ev,List.reverse_cons]
      subst e1;refine ⟨.inl ⟨rfl,_,SqL.of hv⟩,p,_,w,rfl,rfl,hv,by simp,?_⟩;rw [List.dropLast_concat];exact k _ _ _ _ h1 (k1.trans (Kp.wr hv)) (r1.mono (Kp.wr hv)) (m1.wr hv (xu0 r2))
 | _=>exact False.elim h1
end
end Pv
namespace Pv
open PySem
abbrev wc1:D:=.ktp [.int 0,.int 1]
def vn3:List Str:=["picture", "stroke", "place"]
def sq3 (sp_q11:Sp3):TS3 :=
 (seq3 (for3 (is3 (v3 0)) (gn3 1) (tg0 (vb0 sp_q11 (va0 (v3 1) nil3)))) (for3 (ir23 (va0 [8] (va0 (vb0 lenR (va0 (v3 0) nil3)) nil3))) (gn3 2) (ifs3 (b3 (o3 ge3R (o3 ixR (v3 0) (o3 subR (v3 2) [8])) (o3 ixR (v3 0) (v3 2)))) yb2 sh0)))
def wn3:List Str:=["stroke"]
def tq3:TS3 :=
 (ifs3 (or3 (b3 (o3 neR (vb0 lenR (va0 (v3 0) nil3)) (c3 (.int 3)))) (b3 (o3 (inR true) (o3 ixR (v3 0) (c3 (.int 2))) (c3 wc1)))) yb2 sh0)
def yn3:List Str:=["stroke"]
def vq3:TS3 :=
 (seq3 (ifs3 (b3 (o3 eqR (o3 ixR (v3 0) (c3 (.int 2))) [15])) (ret3 (tup3 (va0 (tup3 (va0 (o3 ixR (v3 0) [15]) (va0 (o3 ixR (v3 0) [8]) nil3))) (va0 (tup3 (va0 (o3 addR (o3 ixR (v3 0) [15]) [8]) (va0 (o3 ixR (v3 0) [8]) nil3))) nil3)))) sh0) (ret3 (tup3 (va0 (tup3 (va0 (o3 ixR (v3 0) [15]) (va0 (o3 ixR (v3 0) [8]) nil3))) (va0 (tup3 (va0 (o3 ixR (v3 0) [15]) (va0 (o3 addR (o3 ixR (v3 0) [8]) [8]) nil3))) nil3)))))
def zm3:List Str:=["picture", "at", "seen", "pieces", "stroke"]
def up3 (sp_q10 sp_q21 sp_q22:Sp3):TS3 :=
 (seq3 (tg0 (vb0 sp_q10 (va0 (v3 0) nil3))) (seq3 (set3 1 (vb0 sp_q22 (va0 (v3 0) nil3))) (seq3 (set3 2 dnl3) (seq3 (set3 3 (lst3 nil3)) (seq3 (for3 (is3 (v3 0)) (gn3 4) (ifs3 (b3 (o3 (dinR true) (v3 4) (v3 2))) (tg0 (mt3 appR (v3 3) (va0 (vb0 sp_q21 (va0 (v3 4) (va0 (v3 1) (va0 (v3 2) nil3)))) nil3))) sh0)) (ret3 (v3 3)))))))
def xm3:List Str:=["picture", "at", "stroke", "point"]
def wp3 (sp_q13:Sp3):TS3 :=
 (seq3 (set3 1 dnl3) (seq3 (for3 (is3 (v3 0)) (gn3 2) (for3 (is3 (vb0 sp_q13 (va0 (v3 2) nil3))) (gn3 3) (tg0 (mt3 appR (sdf3 (v3 1) (va0 (v3 3) (va0 (lst3 nil3) nil3))) (va0 (v3 2) nil3))))) (ret3 (v3 1))))
def ym3:List Str:=["stroke", "at", "seen", "piece", "place", "here", "point"]
def vp3 (sp_q13 sp_q23:Sp3):TS3 :=
 (seq3 (xo0 (v3 2) (v3 0) (c3 (.bl true))) (seq3 (set3 3 (lst3 (va0 (v3 0) nil3))) (seq3 (set3 4 [15]) (seq3 (zi1 (b3 (o3 ltR (v3 4) (vb0 lenR (va0 (v3 3) nil3)))) (seq3 (set3 5 (o3 ixR (v3 3) (v3 4))) (seq3 (for3 (is3 (vb0 sp_q13 (va0 (v3 5) nil3))) (gn3 6) (tg0 (mt3 extR (v3 3) (va0 (vb0 sp_q23 (va0 (o3 dgR (v3 1) (v3 6)) (va0 (v3 2) nil3))) nil3)))) (set3 4 (o3 addR (v3 4) [8]))))) (ret3 (vb0 tupR (va0 (vb0 srtR (va0 (v3 3) nil3)) nil3)))))))
def tl3:List Str:=["strokes", "seen", "taken", "stroke"]
def zp3:TS3 :=
 (seq3 (set3 2 (yi0 [none,some 1] (is3 (v3 0)) (gn3 0) (b3 (o3 (dinR true) (v3 0) (v3 1))) (v3 0))) (seq3 (for3 (is3 (v3 2)) (gn3 3) (xo0 (v3 1) (v3 3) (c3 (.bl true)))) (ret3 (v3 2))))
def um3:List Str:=["picture", "at"]
def xq3 (sp_q10 sp_q22:Sp3):TS3 :=
 (seq3 (tg0 (vb0 sp_q10 (va0 (v3 0) nil3))) (seq3 (set3 1 (vb0 sp_q22 (va0 (v3 0) nil3))) (ret3 (vb0 tv1 (va0 (yi0 [none,some 1] (isd3 (v3 1)) (gn3 0) (b3 (o3 eqR (o3 modR (vb0 lenR (va0 (o3 dgR (v3 1) (v3 0)) nil3)) (c3 (.int 2))) [8])) (v3 0)) nil3)))))
def vl3:List Str:=["picture", "trails", "piece"]
def xp3 (sp_q20 sp_q26:Sp3):TS3 :=
 (seq3 (set3 1 (lst3 nil3)) (seq3 (for3 (is3 (vb0 sp_q20 (va0 (v3 0) nil3))) (gn3 2) (tg0 (mt3 extR (v3 1) (va0 (vb0 sp_q26 (va0 (v3 2) nil3)) nil3)))) (ret3 (v3 1))))
def wl3:List Str:=["piece", "odd", "strokes", "bridges", "start"]
def uk0 (sp_q13 sp_q17 sp_q19 sp_q27:Sp3):TS3 :=
 (ret3 (vb0 sp_q19 (va0 (vb0 sp_q27 (va0 (o3 addR (v3 2) (v3 3)) (va0 (v3 4) nil3))) (va0 (vb0 lenR (va0 (v3 2) nil3)) nil3))))
def tk0 (sp_q13 sp_q17 sp_q19 sp_q27:Sp3):TS3 :=
 (seq3 (set3 4 (if3 (b3 (o3 gtR (vb0 lenR (va0 (v3 1) nil3)) [15])) (o3 ixR (v3 1) [15]) (o3 ixR (o3 ixR (v3 2) [15]) [15]))) (uk0 sp_q13 sp_q17 sp_q19 sp_q27))
def sk0 (sp_q13 sp_q17 sp_q19 sp_q27:Sp3):TS3 :=
 (seq3 (set3 3 (yi0 [none,some 1] (irS3 (va0 [8] (va0 (o3 subR (vb0 lenR (va0 (v3 1) nil3)) [8]) (va0 (c3 (.int 2)) nil3)))) (gn3 0) tt3 (tup3 (va0 (o3 ixR (v3 1) (v3 0)) (va0 (o3 ixR (v3 1) (o3 addR (v3 0) [8])) nil3))))) (tk0 sp_q13 sp_q17 sp_q19 sp_q27))
def xl0 (sp_q13 sp_q17 sp_q19 sp_q27:Sp3):TS3 :=
 (seq3 (set3 2 (yi0 [none] (is3 (v3 0)) (gn3 0) tt3 (vb0 sp_q13 (va0 (v3 0) nil3)))) (sk0 sp_q13 sp_q17 sp_q19 sp_q27))
def so3 (sp_q13 sp_q17 sp_q19 sp_q27:Sp3):TS3 :=
 (seq3 (set3 1 (vb0 sp_q17 (va0 (v3 0) nil3))) (xl0 sp_q13 sp_q17 sp_q19 sp_q27))
def zl3:List Str:=["links", "start", "at", "used", "waiting", "way", "point", "number"]
def to3 (sp_q16 sp_q18 sp_q24:Sp3):TS3 :=
 (seq3 (set3 2 (vb0 sp_q16 (va0 (v3 0) nil3))) (seq3 (set3 3 dnk3) (seq3 (set3 4 (lst3 (va0 (tup3 (va0 (v3 1) (va0 (c3 .non) nil3))) nil3))) (seq3 (set3 5 (lst3 nil3)) (seq3 (zi1 (b3 (o3 gtR (vb0 lenR (va0 (v3 4) nil3)) [15])) (seq3 (set3 6 (o3 ixR (o3 ixR (v3 4) (un3 negR [8])) [15])) (seq3 (set3 7 (vb0 sp_q24 (va0 (o3 dgR (v3 2) (v3 6)) (va0 (v3 3) nil3)))) (ifs3 (b3 (o3 (isNR false) (v3 7) (c3 .non))) (tg0 (mt3 appR (v3 5) (va0 (pop3 (v3 4)) nil3))) (seq3 (tf2 (v3 3) (v3 7) (c3 (.bl true))) (tg0 (mt3 appR (v3 4) (va0 (tup3 (va0 (vb0 sp_q18 (va0 (o3 ixR (v3 0) (v3 7)) (va0 (v3 6) nil3))) (va0 (v3 7) nil3))) nil3)))))))) (ret3 (v3 5)))))))
def tm3:List Str:=["links", "at", "number", "point"]
def yq3:TS3 :=
 (seq3 (set3 1 dnl3) (seq3 (for3 (ir3 (va0 (vb0 lenR (va0 (v3 0) nil3)) nil3)) (gn3 2) (for3 (is3 (o3 ixR (v3 0) (v3 2))) (gn3 3) (tg0 (mt3 appR (sdf3 (v3 1) (va0 (v3 3) (va0 (lst3 nil3) nil3))) (va0 (v3 2) nil3))))) (ret3 (v3 1))))
def ul3:List Str:=["numbers", "used", "number"]
def yp3:TS3 :=
 (seq3 (zi1 (b3 (o3 gtR (vb0 lenR (va0 (v3 0) nil3)) [15])) (seq3 (set3 2 (pop3 (v3 0))) (ifs3 (b3 (o3 (yr2 true) (v3 2) (v3 1))) (ret3 (v3 2)) sh0))) (ret3 (c3 .non)))
def vm3:List Str:=["link", "point"]
def sp3:TS3 :=
 (ret3 (if3 (b3 (o3 eqR (o3 ixR (v3 0) [15]) (v3 1))) (o3 ixR (v3 0) [8]) (o3 ixR (v3 0) [15])))
def wm3:List Str:=["way", "first_bridge", "trails", "place"]
def tp3:TS3 :=
 (seq3 (set3 2 (lst3 (va0 (lst3 (va0 (o3 ixR (o3 ixR (v3 0) [15]) [15]) nil3)) nil3))) (seq3 (for3 (ir23 (va0 [8] (va0 (vb0 lenR (va0 (v3 0) nil3)) nil3))) (gn3 3) (seq3 (ifs3 (b3 (o3 ge3R (o3 ixR (o3 ixR (v3 0) (o3 subR (v3 3) [8])) [8]) (v3 1))) (tg0 (mt3 appR (v3 2) (va0 (lst3 nil3) nil3))) sh0) (tg0 (mt3 appR (o3 ixR (v3 2) (un3 negR [8])) (va0 (o3 ixR (o3 ixR (v3 0) (v3 3)) [15]) nil3))))) (ret3 (v3 2))))
def xn3:List Str:=["picture"]
def yo0 (sp_q20 sp_q22:Sp3):TS3 :=
 (ret3 (vb0 allR (va0 (yi0 [none] (isv3 (vb0 sp_q22 (va0 (v3 0) nil3))) (gn3 0) tt3 (o3 eqR (vb0 lenR (va0 (v3 0) nil3)) (c3 (.int 2)))) nil3)))
def wq3 (sp_q20 sp_q22:Sp3):TS3 :=
 (seq3 (ifs3 (b3 (o3 neR (vb0 lenR (va0 (vb0 sp_q20 (va0 (v3 0) nil3)) nil3)) [8])) (ret3 (c3 (.bl false))) sh0) (yo0 sp_q20 sp_q22))
def N_q9:List Str:=["picture", "points"]
def zo0 (sp_q12 sp_q14 sp_q25:Sp3):TS3 :=
 (ret3 (o3 zf2 (vb0 absR (va0 (vb0 sumR (va0 (yi0 [none,some 1] (ir23 (va0 [8] (va0 (vb0 lenR (va0 (v3 1) nil3)) nil3))) (gn3 0) tt3 (vb0 sp_q12 (va0 (o3 ixR (v3 1) (o3 subR (v3 0) [8])) (va0 (o3 ixR (v3 1) (v3 0)) nil3)))) nil3)) nil3)) (c3 (.int 2))))
def wo0 (sp_q12 sp_q14 sp_q25:Sp3):TS3 :=
 (seq3 (set3 1 (o3 ixR (vb0 sp_q25 (va0 (v3 0) nil3)) [15])) (zo0 sp_q12 sp_q14 sp_q25))
def t_q9 (sp_q12 sp_q14 sp_q25:Sp3):TS3 :=
 (seq3 (ifs3 (not3 (b3 (vb0 sp_q14 (va0 (v3 0) nil3)))) (ret3 (c3 .non)) sh0) (wo0 sp_q12 sp_q14 sp_q25))
def zn3:List Str:=["point", "other"]
def uq3:TS3 :=
 (ret3 (o3 subR (o3 mulR (o3 ixR (v3 0) [15]) (o3 ixR (v3 1) [8])) (o3 mulR (o3 ixR (v3 0) [8]) (o3 ixR (v3 1) [15]))))
def N_q5:List Str:=["script", "k", "cell"]
def t_q5:TS3 :=
 (seq3 (set3 2 [15]) (seq3 (ifs3 (b3 (o3 ltR (v3 1) (vb0 lenR (va0 (v3 0) nil3)))) (set3 2 (o3 ixR (v3 0) (v3 1))) sh0) (seq3 (ifs3 (b3 (o3 geR (v3 2) (o3 powR (c3 (.int 10)) (c3 (.int 18))))) (ret3 (lst3 (va0 (o3 subR (v3 2) (o3 powR (c3 (.int 10)) (c3 (.int 18)))) (va0 [8] nil3)))) sh0) (ret3 (lst3 (va0 (o3 modR (o3 addR (v3 2) (o3 mulR (c3 (.int 7919)) (v3 1))) (c3 (.int 2147483647))) (va0 [15] nil3)))))))
def N_q6:List Str:=["state", "many", "found", "mixed"]
def t_q6:TS3 :=
 (seq3 (ifs3 (and3 (b3 (o3 eqR (o3 ixR (v3 0) [8]) [8])) (b3 (o3 gtR (o3 ixR (v3 0) [15]) [15]))) (seq3 (set3 2 (o3 modR (o3 ixR (v3 0) [15]) (v3 1))) (seq3 (asg3 (o3 zf2 (o3 ixR (v3 0) [15]) (v3 1)) (sub3 (v3 0) [15])) (ret3 (v3 2)))) sh0) (seq3 (asg3 [15] (sub3 (v3 0) [8])) [21]))
def N_q8:List Str:=["found"]
def t_q8:TS3 :=
 (ret3 (wj2 (vb0 isiR (va0 (v3 0) (va0 (c3 (.ty "int")) nil3))) (yh3 (vb0 isiR (va0 (v3 0) (va0 (c3 (.ty "bool")) nil3))))))
def N_q2:List Str:=["state", "most", "wide", "high", "found", "k", "x", "y", "way"]
def t_q2 (sp_q6:Sp3):TS3 :=
 (seq3 (set3 2 (o3 addR (c3 (.int 2)) (vb0 sp_q6 (va0 (v3 0) (va0 (c3 (.int 5)) nil3))))) (seq3 (set3 3 (o3 addR (c3 (.int 2)) (vb0 sp_q6 (va0 (v3 0) (va0 (c3 (.int 5)) nil3))))) (seq3 (set3 4 (lst3 nil3)) (seq3 (for3 (ir3 (va0 (vb0 sp_q6 (va0 (v3 0) (va0 (o3 addR (v3 1) [8]) nil3))) nil3)) (gn3 5) (seq3 (set3 6 (o3 subR (vb0 sp_q6 (va0 (v3 0) (va0 (v3 2) nil3))) (c3 (.int 2)))) (seq3 (set3 7 (o3 subR (vb0 sp_q6 (va0 (v3 0) (va0 (v3 3) nil3))) (c3 (.int 2)))) (seq3 (set3 8 (vb0 sp_q6 (va0 (v3 0) (va0 (c3 (.int 6)) nil3)))) (ifs3 (b3 (o3 ltR (v3 8) (c3 (.int 4)))) (tg0 (mt3 appR (v3 4) (va0 (tup3 (va0 (v3 6) (va0 (v3 7) (va0 (o3 modR (v3 8) (c3 (.int 2))) nil3)))) nil3))) (set3 4 (o3 addR (v3 4) (lst3 (va0 (tup3 (va0 (v3 6) (va0 (v3 7) (va0 [15] nil3)))) (va0 (tup3 (va0 (v3 6) (va0 (v3 7) (va0 [8] nil3)))) (va0 (tup3 (va0 (v3 6) (va0 (o3 addR (v3 7) [8]) (va0 [15] nil3)))) (va0 (tup3 (va0 (o3 addR (v3 6) [8]) (va0 (v3 7) (va0 [8] nil3)))) nil3)))))))))))) (ret3 (vb0 tupR (va0 (sa3 (ta3 (va0 (v3 4) nil3))) nil3)))))))
def N_q0:List Str:=["lines", "found", "x", "y", "kind", "place"]
def t_q0:TS3 :=
 (seq3 (set3 1 dnl3) (seq3 (for3 (is3 (v3 0)) (vu0 3 (ze0 (gn3 2) (ze0 (gn3 3) (ze0 (gn3 4) uu0)))) (for3 (is3 (lst3 (va0 (tup3 (va0 (v3 2) (va0 (v3 3) nil3))) (va0 (tup3 (va0 (o3 subR (o3 addR (v3 2) [8]) (v3 4)) (va0 (o3 addR (v3 3) (v3 4)) nil3))) nil3)))) (gn3 5) (xo0 (v3 1) (v3 5) (o3 addR (gdf3 (v3 1) (va0 (v3 5) (va0 [15] nil3))) [8])))) (ret3 (v3 1))))
def N_q4:List Str:=["lines", "mark", "place", "turn", "x", "y", "kind", "low"]
def zj0 (sp_q0:Sp3):TS3 :=
 (ret3 (lsI3 (va0 (yi0 [none,some 1] (isd3 (v3 1)) (gn3 0) tt3 (o3 dgR (v3 1) (v3 0))) nil3)))
def wg0 (sp_q0:Sp3):TS3 :=
 (seq3 (for3 (ir3 (va0 (vb0 zg1 (va0 (v3 1) nil3)) nil3)) (gn3 3) (for3 (is3 (v3 0)) (vu0 3 (ze0 (gn3 4) (ze0 (gn3 5) (ze0 (gn3 6) uu0)))) [32])) (zj0 sp_q0))
def wp0 (sp_q0:Sp3):TS3 :=
 (seq3 (for3 (is3 (vb0 uv1 (va0 (vb0 sp_q0 (va0 (v3 0) nil3)) nil3))) (gn3 2) (xo0 (v3 1) (v3 2) (vb0 zg1 (va0 (v3 1) nil3)))) (wg0 sp_q0))
def t_q4 (sp_q0:Sp3):TS3 :=
 (seq3 (set3 1 dnl3) (wp0 sp_q0))
def N_q3:List Str:=["columns", "left", "low", "cells", "k", "found", "x", "y", "some"]
def sg0:TS3 :=
 (ret3 (vb0 srtR (va0 (v3 5) nil3)))
def xh0:TS3 :=
 (seq3 (for3 (is3 (v3 3)) (vu0 2 (ze0 (gn3 6) (ze0 (gn3 7) uu0))) (seq3 (set3 8 (lst3 (va0 (tup3 (va0 (tup3 (va0 (v3 6) (va0 (v3 7) (va0 [15] nil3)))) (va0 (tup3 (va0 (v3 6) (va0 (o3 subR (v3 7) [8]) nil3))) nil3))) (va0 (tup3 (va0 (tup3 (va0 (v3 6) (va0 (o3 addR (v3 7) [8]) (va0 [15] nil3)))) (va0 (tup3 (va0 (v3 6) (va0 (o3 addR (v3 7) [8]) nil3))) nil3))) nil3)))) [19])) (sg0))
def yh0:TS3 :=
 (seq3 (set3 5 (lst3 nil3)) (xh0))
def xn0:TS3 :=
 (seq3 (for3 (ir3 (va0 (vb0 lenR (va0 (v3 0) nil3)) nil3)) (gn3 4) (tg0 (mt3 extR (v3 3) (va0 (yi0 [none,some 1,some 4,some 2] (ir3 (va0 (o3 ixR (v3 0) (v3 4)) nil3)) (gn3 0) tt3 (tup3 (va0 (o3 addR (v3 1) (v3 2)) (va0 (o3 addR (v3 3) (v3 0)) nil3)))) nil3)))) (yh0))
def t_q3:TS3 :=
 (seq3 (set3 3 (lst3 nil3)) (xn0))
def N_q1:List Str:=["lines", "ends"]
def zh0 (sp_q0 sp_q4:Sp3):TS3 :=
 (ret3 (wj2 (o3 gtR (vb0 lenR (va0 (v3 0) nil3)) [15]) (wj2 (o3 eqR (yi0 [none,some 1] (isd3 (v3 1)) (gn3 0) (b3 (o3 neR (o3 dgR (v3 1) (v3 0)) (c3 (.int 2)))) (v3 0)) (lst3 nil3)) (o3 eqR (vb0 sp_q4 (va0 (v3 0) nil3)) [8]))))
def t_q1 (sp_q0 sp_q4:Sp3):TS3 :=
 (seq3 (set3 1 (vb0 sp_q0 (va0 (v3 0) nil3))) (zh0 sp_q0 sp_q4))
def N_q7:List Str:=["state", "found", "way", "at"]
def so0 (sp_q3 sp_q6:Sp3):TS3 :=
 (ret3 (v3 1))
def xp0 (sp_q3 sp_q6:Sp3):TS3 :=
 (seq3 (ifs3 (b3 (o3 eqR (v3 2) (c3 (.int 3)))) (ret3 (o3 addR (v3 1) (vb0 sp_q3 (va0 (lst3 (va0 [8] nil3)) (va0 (o3 addR (o3 ixR (o3 ixR (v3 1) (un3 negR [8])) [15]) [8]) (va0 (o3 addR (o3 ixR (o3 ixR (v3 1) (un3 negR [8])) [8]) [8]) nil3)))))) sh0) (so0 sp_q3 sp_q6))
def yp0 (sp_q3 sp_q6:Sp3):TS3 :=
 (seq3 (ifs3 (b3 (o3 eqR (v3 2) (c3 (.int 2)))) (ret3 (o3 addR (v3 1) (vb0 sp_q3 (va0 (lst3 (va0 [8] nil3)) (va0 (c3 (.int 9)) (va0 (c3 (.int 9)) nil3)))))) sh0) (xp0 sp_q3 sp_q6))
def zp0 (sp_q3 sp_q6:Sp3):TS3 :=
 (seq3 (ifs3 (b3 (o3 eqR (v3 2) [8])) (ret3 (o3 addR (v3 1) (lst3 (va0 (tup3 (va0 (o3 addR (o3 ixR (o3 ixR (v3 1) (v3 3)) [15]) [8]) (va0 (o3 ixR (o3 ixR (v3 1) (v3 3)) [8]) (va0 (o3 ixR (o3 ixR (v3 1) (v3 3)) (c3 (.int 2))) nil3)))) nil3)))) sh0) (yp0 sp_q3 sp_q6))
def xj0 (sp_q3 sp_q6:Sp3):TS3 :=
 (seq3 (ifs3 (b3 (o3 eqR (v3 2) [15])) (ret3 (o3 addR (sl3 slR (v3 1) np3 (pt3 (v3 3))) (sl3 slR (v3 1) (pt3 (o3 addR (v3 3) [8])) np3))) sh0) (zp0 sp_q3 sp_q6))
def yj0 (sp_q3 sp_q6:Sp3):TS3 :=
 (seq3 (set3 3 (vb0 sp_q6 (va0 (v3 0) (va0 (vb0 lenR (va0 (v3 1) nil3)) nil3)))) (xj0 sp_q3 sp_q6))
def t_q7 (sp_q3 sp_q6:Sp3):TS3 :=
 (seq3 (set3 2 (vb0 sp_q6 (va0 (v3 0) (va0 (c3 (.int 8)) nil3)))) (yj0 sp_q3 sp_q6))
def sm3:List Str:=["script", "state", "columns", "outline", "lines", "due", "found", "area"]
def tz0 (sp_q1 sp_q2 sp_q3 sp_q5 sp_q6 sp_q7 sp_q8 sp_q9 sp_q14:Sp3):TS3 :=
 (ret3 (orV3 (yh3 (v3 5)) (orV3 (o3 eqR (v3 2) (lst3 nil3)) (wj2 (vb0 sp_q8 (va0 (v3 7) nil3)) (o3 eqR (v3 7) (vb0 sumR (va0 (v3 2) nil3)))))))
def zw0 (sp_q1 sp_q2 sp_q3 sp_q5 sp_q6 sp_q7 sp_q8 sp_q9 sp_q14:Sp3):TS3 :=
 (seq3 (ifs3 (or3 (not3 (b3 (vb0 isiR (va0 (v3 6) (va0 (c3 (.ty "bool")) nil3))))) (or3 (b3 (o3 neR (v3 6) (v3 5))) (b3 (o3 eqR (o3 (isNR false) (v3 7) (c3 .non)) (v3 5))))) (ret3 (c3 (.bl false))) sh0) (tz0 sp_q1 sp_q2 sp_q3 sp_q5 sp_q6 sp_q7 sp_q8 sp_q9 sp_q14))
def yj1 (sp_q1 sp_q2 sp_q3 sp_q5 sp_q6 sp_q7 sp_q8 sp_q9 sp_q14:Sp3):TS3 :=
 (seq3 (set3 7 (vb0 sp_q9 (va0 (v3 4) nil3))) (zw0 sp_q1 sp_q2 sp_q3 sp_q5 sp_q6 sp_q7 sp_q8 sp_q9 sp_q14))
def zj1 (sp_q1 sp_q2 sp_q3 sp_q5 sp_q6 sp_q7 sp_q8 sp_q9 sp_q14:Sp3):TS3 :=
 (seq3 (set3 6 (vb0 sp_q14 (va0 (v3 4) nil3))) (yj1 sp_q1 sp_q2 sp_q3 sp_q5 sp_q6 sp_q7 sp_q8 sp_q9 sp_q14))
def wj1 (sp_q1 sp_q2 sp_q3 sp_q5 sp_q6 sp_q7 sp_q8 sp_q9 sp_q14:Sp3):TS3 :=
 (seq3 (set3 5 (vb0 sp_q1 (va0 (v3 4) nil3))) (zj1 sp_q1 sp_q2 sp_q3 sp_q5 sp_q6 sp_q7 sp_q8 sp_q9 sp_q14))
def vj1 (sp_q1 sp_q2 sp_q3 sp_q5 sp_q6 sp_q7 sp_q8 sp_q9 sp_q14:Sp3):TS3 :=
 (seq3 (ifs3 (b3 (o3 eqR (vb0 sp_q6 (va0 (v3 1) (va0 (c3 (.int 6)) nil3))) [15])) (seq3 (set3 4 (vb0 sp_q2 (va0 (v3 1) (va0 (c3 (.int 8)) nil3)))) (set3 2 (lst3 nil3))) sh0) (wj1 sp_q1 sp_q2 sp_q3 sp_q5 sp_q6 sp_q7 sp_q8 sp_q9 sp_q14))
def uj1 (sp_q1 sp_q2 sp_q3 sp_q5 sp_q6 sp_q7 sp_q8 sp_q9 sp_q14:Sp3):TS3 :=
 (seq3 (set3 4 (vb0 tupR (va0 (sa3 (ta3 (va0 (vb0 sp_q7 (va0 (v3 1) (va0 (v3 3) nil3))) nil3))) nil3))) (vj1 sp_q1 sp_q2 sp_q3 sp_q5 sp_q6 sp_q7 sp_q8 sp_q9 sp_q14))
def tj1 (sp_q1 sp_q2 sp_q3 sp_q5 sp_q6 sp_q7 sp_q8 sp_q9 sp_q14:Sp3):TS3 :=
 (seq3 (ifs3 (b3 (o3 eqR (vb0 sp_q6 (va0 (v3 1) (va0 (c3 (.int 2)) nil3))) [15])) (set3 3 (yi0 [none,none,none] (is3 (v3 3)) (vu0 3 (ze0 (gn3 0) (ze0 (gn3 1) (ze0 (gn3 2) uu0)))) tt3 (o3 ixR (lst3 (va0 (tup3 (va0 (o3 subR [15] (v3 1)) (va0 (v3 0) (va0 [8] nil3)))) (va0 (tup3 (va0 (o3 subR (o3 subR [15] (v3 1)) [8]) (va0 (v3 0) (va0 [15] nil3)))) nil3))) (v3 2)))) sh0) (uj1 sp_q1 sp_q2 sp_q3 sp_q5 sp_q6 sp_q7 sp_q8 sp_q9 sp_q14))
def sj1 (sp_q1 sp_q2 sp_q3 sp_q5 sp_q6 sp_q7 sp_q8 sp_q9 sp_q14:Sp3):TS3 :=
 (seq3 (set3 3 (vb0 sp_q3 (va0 (v3 2) (va0 (o3 subR (vb0 sp_q6 (va0 (v3 1) (va0 (c3 (.int 9)) nil3))) (c3 (.int 4))) (va0 (o3 subR (vb0 sp_q6 (va0 (v3 1) (va0 (c3 (.int 9)) nil3))) (c3 (.int 4))) nil3))))) (tj1 sp_q1 sp_q2 sp_q3 sp_q5 sp_q6 sp_q7 sp_q8 sp_q9 sp_q14))
def xk1 (sp_q1 sp_q2 sp_q3 sp_q5 sp_q6 sp_q7 sp_q8 sp_q9 sp_q14:Sp3):TS3 :=
 (seq3 (set3 2 (yi0 [none,some 1] (ir3 (va0 (o3 addR [8] (vb0 sp_q6 (va0 (v3 1) (va0 (c3 (.int 5)) nil3)))) nil3)) (gn3 0) tt3 (o3 addR [8] (vb0 sp_q6 (va0 (v3 1) (va0 (c3 (.int 4)) nil3)))))) (sj1 sp_q1 sp_q2 sp_q3 sp_q5 sp_q6 sp_q7 sp_q8 sp_q9 sp_q14))
def zq3 (sp_q1 sp_q2 sp_q3 sp_q5 sp_q6 sp_q7 sp_q8 sp_q9 sp_q14:Sp3):TS3 :=
 (seq3 (set3 1 (vb0 sp_q5 (va0 (v3 0) (va0 [15] nil3)))) (xk1 sp_q1 sp_q2 sp_q3 sp_q5 sp_q6 sp_q7 sp_q8 sp_q9 sp_q14))
end Pv
namespace Pv
open PySem PySem.Spec PyProof.Rows L2
section
variable {P:Program} {w:World} {K:Fg} {mg:Str->Option Value} {base:Heap}
theorem sc_q10:FnScope vn3 ["picture"] (ua0 zr1):=[3]
theorem sw3 {k:Nat} {f:Addr} {cdv:Value} {A:Around} {outer:List Env} {s:Shared} {H:Hp} {E:XK} {sp_q11:Sp3} {k_q11:Nat} (c_q11:Cal P w K mg base k_q11 "check_stroke" ["stroke"] sp_q11) (l_q11:k_q11<=k) (z_len:mg "len" = none) (z_range:mg "range" = none) (hr:Room k (A.deeper (envOfC "check_picture" (ua0 zr1) s.heap.objs.size f cdv))) :
    RSs (cxOf CX0 P w K mg base vn3 "check_picture" (ua0 zr1) f cdv A outer s H E).nox (yc0 zr1) (sq3 sp_q11) :=
 (yb0 (vf0 PassesOwn.never rfl (xg0 (ya0 0)) (xc0 (i:=1) sc_q10.nd) (zb0 (zf0 (wb0 (c_q11.mono l_q11) hr (xa0 (ya0 1) ta0))))) (zb0 (vf0 PassesOwn.never rfl (sq0 z_range xb0 (sb0 vj0 z_len xf0 (xa0 (ya0 0) ta0))) (xc0 (i:=2) sc_q10.nd) (zb0 (wh0 (yd0 (xb4 (hu64 hr)) (uc0 q_ix (ya0 0) (wc0 wj0 (ya0 2) xb0)) (uc0 q_ix (ya0 0) (ya0 2))) (zb0 yl1) xe0)))))
theorem xu3:FnScope wn3 ["stroke"] (ua0 yr1):=[3]
theorem tw3 {k:Nat} {f:Addr} {cdv:Value} {A:Around} {outer:List Env} {s:Shared} {H:Hp} {E:XK} (z_len:mg "len" = none) (g_WAYS:Gd K mg "WAYS" wc1) (hr:Room k (A.deeper (envOfC "check_stroke" (ua0 yr1) s.heap.objs.size f cdv))) :
    RSs (cxOf CX0 P w K mg base wn3 "check_stroke" (ua0 yr1) f cdv A outer s H E).nox (yc0 yr1) (tq3) :=
 (zb0 (wh0 (yc3 (zc3 (yd0 (q_ne (hu64 hr)) (sb0 vj0 z_len xf0 (xa0 (ya0 0) ta0)) xb0) (tu2 (yd0 (uy1 (hu65 hr)) [26] (re_g g_WAYS))))) (zb0 yl1) xe0))
theorem vt3:FnScope yn3 ["stroke"] (ua0 tq1):=[3]
theorem vw3 {k:Nat} {f:Addr} {cdv:Value} {A:Around} {outer:List Env} {s:Shared} {H:Hp} {E:XK} (hr:Room k (A.deeper (envOfC "ends_of" (ua0 tq1) s.heap.objs.size f cdv))) :
    RSs (cxOf CX0 P w K mg base yn3 "ends_of" (ua0 tq1) f cdv A outer s H E).nox (yc0 tq1) (vq3) :=
 (yb0 (wh0 (yd0 (q_eq (hu64 hr)) [26] xb0) (zb0 (tc0 (sc0 (xa0 (sc0 (xa0 [26] (xa0 [26] ta0))) (xa0 (sc0 (xa0 (wc0 td0 [26] xb0) (xa0 [26] ta0))) ta0))))) xe0) (zb0 (tc0 (sc0 (xa0 (sc0 (xa0 [26] (xa0 [26] ta0))) (xa0 (sc0 (xa0 [26] (xa0 (wc0 td0 [26] xb0) ta0))) ta0))))))
theorem sc_q20:FnScope zm3 ["picture"] (ua0 xq1):=[3]
theorem uv3 {k:Nat} {f:Addr} {cdv:Value} {A:Around} {outer:List Env} {s:Shared} {H:Hp} {E:XK} {sp_q10:Sp3} {k_q10:Nat} (c_q10:Cal P w K mg base k_q10 "check_picture" ["picture"] sp_q10) (l_q10:k_q10<=k) {sp_q21:Sp3} {k_q21:Nat} (c_q21:Cal P w K mg base k_q21 "piece_with" ["stroke", "at", "seen"] sp_q21) (l_q21:k_q21<=k) {sp_q22:Sp3} {k_q22:Nat} (c_q22:Cal P w K mg base k_q22 "strokes_at" ["picture"] sp_q22) (l_q22:k_q22<=k) (hr:Room k (A.deeper (envOfC "picture_pieces" (ua0 xq1) s.heap.objs.size f cdv))) :
    RSs (cxOf CX0 P w K mg base zm3 "picture_pieces" (ua0 xq1) f cdv A outer s H E).nox (yc0 xq1) (up3 sp_q10 sp_q21 sp_q22) :=
 (yb0 (zf0 (wb0 (c_q10.mono l_q10) hr (xa0 (ya0 0) ta0))) (yb0 (zc0 (i:=1) sc_q20.nd (wb0 (c_q22.mono l_q22) hr (xa0 (ya0 0) ta0))) (yb0 (zc0 (i:=2) sc_q20.nd zb1) (yb0 (zc0 (i:=3) sc_q20.nd (ud0 ta0)) (yb0 (vf0 PassesOwn.never rfl (xg0 (ya0 0)) (xc0 (i:=4) sc_q20.nd) (zb0 (wh0 (yd0 (vv2 (hu64 hr)) (ya0 4) (ya0 2)) (zb0 (zf0 (yg0 (ya0 3) (xa0 (wb0 (c_q21.mono l_q21) hr (xa0 (ya0 4) (xa0 (ya0 1) (xa0 (ya0 2) ta0)))) ta0)))) xe0))) (zb0 (tc0 (ya0 3))))))))
theorem sc_q22:FnScope xm3 ["picture"] (ua0 tp1):=[3]
theorem wv3 {k:Nat} {f:Addr} {cdv:Value} {A:Around} {outer:List Env} {s:Shared} {H:Hp} {E:XK} {sp_q13:Sp3} {k_q13:Nat} (c_q13:Cal P w K mg base k_q13 "ends_of" ["stroke"] sp_q13) (l_q13:k_q13<=k) (hr:Room k (A.deeper (envOfC "strokes_at" (ua0 tp1) s.heap.objs.size f cdv))) :
    RSs (cxOf CX0 P w K mg base xm3 "strokes_at" (ua0 tp1) f cdv A outer s H E).nox (yc0 tp1) (wp3 sp_q13) :=
 (yb0 (zc0 (i:=1) sc_q22.nd zb1) (yb0 (vf0 PassesOwn.never rfl (xg0 (ya0 0)) (xc0 (i:=2) sc_q22.nd) (zb0 (vf0 PassesOwn.never rfl (xg0 (wb0 (c_q13.mono l_q13) hr (xa0 (ya0 2) ta0))) (xc0 (i:=3) sc_q22.nd) (zb0 (zf0 (yg0 (wx3 (hu64 hr) (ya0 1) (xa0 (ya0 3) (xa0 (ud0 ta0) ta0))) (xa0 (ya0 2) ta0))))))) (zb0 (tc0 (ya0 1)))))
theorem sc_q21:FnScope ym3 ["stroke", "at", "seen"] (ua0 sp1):=[3]
theorem vv3 {k:Nat} {f:Addr} {cdv:Value} {A:Around} {outer:List Env} {s:Shared} {H:Hp} {E:XK} {sp_q13:Sp3} {k_q13:Nat} (c_q13:Cal P w K mg base k_q13 "ends_of" ["stroke"] sp_q13) (l_q13:k_q13<=k) {sp_q23:Sp3} {k_q23:Nat} (c_q23:Cal P w K mg base k_q23 "take_unseen" ["strokes", "seen"] sp_q23) (l_q23:k_q23<=k) (z_len:mg "len" = none) (z_sorted:mg "sorted" = none) (z_tuple:mg "tuple" = none) (hr:Room k (A.deeper (envOfC "piece_with" (ua0 sp1) s.heap.objs.size f cdv))) :
    RSs (cxOf CX0 P w K mg base ym3 "piece_with" (ua0 sp1) f cdv A outer s H E).nox (yc0 sp1) (vp3 sp_q13 sp_q23) :=
 (yb0 (wn0 (hu64 hr) (ya0 2) (ya0 0) xy1) (yb0 (zc0 (i:=3) sc_q21.nd (ud0 (xa0 (ya0 0) ta0))) (yb0 (zc0 (i:=4) sc_q21.nd xb0) (yb0 (xx0 PassesOwn.never (yd0 q_lt (ya0 4) (sb0 vj0 z_len xf0 (xa0 (ya0 3) ta0))) (yb0 (zc0 (i:=5) sc_q21.nd (uc0 q_ix (ya0 3) (ya0 4))) (yb0 (vf0 PassesOwn.never rfl (xg0 (wb0 (c_q13.mono l_q13) hr (xa0 (ya0 5) ta0))) (xc0 (i:=6) sc_q21.nd) (zb0 (zf0 (vm0 (ya0 3) (xa0 (wb0 (c_q23.mono l_q23) hr (xa0 (vf1 (hu64 hr) (ya0 1) (ya0 6)) (xa0 (ya0 2) ta0))) ta0))))) (zb0 (zc0 (i:=4) sc_q21.nd (wc0 td0 (ya0 4) xb0)))))) (zb0 (tc0 (wr0 uf1 z_tuple yz0 (xa0 (sb0 sl1 z_sorted xk0 (xa0 (ya0 3) ta0)) ta0))))))))
theorem sc_q23:FnScope tl3 ["strokes", "seen"] (ua0 up1):=[3]
theorem zv3 {k:Nat} {f:Addr} {cdv:Value} {A:Around} {outer:List Env} {s:Shared} {H:Hp} {E:XK} (hr:Room k (A.deeper (envOfC "take_unseen" (ua0 up1) s.heap.objs.size f cdv))) :
    RSs (cxOf CX0 P w K mg base tl3 "take_unseen" (ua0 up1) f cdv A outer s H E).nox (yc0 up1) (zp3) :=
 (yb0 (xq0 (i:=2) sc_q23.nd (NN:=["stroke", "seen"]) (js:=[none,some 1]) rfl ui0 (xg0 (ya0 0)) (λ _ _ _ _ _=>(xc0 (i:=0) (show List.Nodup (["stroke", "seen"]:List Str) by decide +kernel))) (λ _ _ _ _ _=>(sw0 (yd0 (vv2 (hu64 hr)) (ya0 0) (ya0 1)))) (λ _ _ _ _ _=>(ya0 0)) (by intro _; rfl)) (yb0 (vf0 PassesOwn.never rfl (xg0 (ya0 2)) (xc0 (i:=3) sc_q23.nd) (zb0 (wn0 (hu64 hr) (ya0 1) (ya0 3) xy1))) (zb0 (tc0 (ya0 2)))))
theorem sc_q17:FnScope um3 ["picture"] (ua0 wq1):=[3]
theorem xw3 {k:Nat} {f:Addr} {cdv:Value} {A:Around} {outer:List Env} {s:Shared} {H:Hp} {E:XK} {sp_q10:Sp3} {k_q10:Nat} (c_q10:Cal P w K mg base k_q10 "check_picture" ["picture"] sp_q10) (l_q10:k_q10<=k) {sp_q22:Sp3} {k_q22:Nat} (c_q22:Cal P w K mg base k_q22 "strokes_at" ["picture"] sp_q22) (l_q22:k_q22<=k) (z_len:mg "len" = none) (z_sorted:mg "sorted" = none) (hr:Room k (A.deeper (envOfC "odd_points" (ua0 wq1) s.heap.objs.size f cdv))) :
    RSs (cxOf CX0 P w K mg base um3 "odd_points" (ua0 wq1) f cdv A outer s H E).nox (yc0 wq1) (xq3 sp_q10 sp_q22) :=
 (yb0 (zf0 (wb0 (c_q10.mono l_q10) hr (xa0 (ya0 0) ta0))) (yb0 (zc0 (i:=1) sc_q17.nd (wb0 (c_q22.mono l_q22) hr (xa0 (ya0 0) ta0))) (zb0 (tc0 (sb0 wy1 z_sorted xk0 (xa0 (wi0 (NN:=["point", "at"]) (js:=[none,some 1]) rfl ui0 (wx1 (ya0 1)) (λ _ _ _ _ _=>(xc0 (i:=0) (show List.Nodup (["point", "at"]:List Str) by decide +kernel))) (λ _ _ _ _ _=>(sw0 (yd0 (q_eq (hu64 hr)) (wc0 vb1 (sb0 vj0 z_len xf0 (xa0 (vf1 (hu64 hr) (ya0 1) (ya0 0)) ta0)) xb0) xb0))) (λ _ _ _ _ _=>(ya0 0)) (by intro _; rfl)) ta0))))))
theorem sc_q25:FnScope vl3 ["picture"] (ua0 wp1):=[3]
theorem xv3 {k:Nat} {f:Addr} {cdv:Value} {A:Around} {outer:List Env} {s:Shared} {H:Hp} {E:XK} {sp_q20:Sp3} {k_q20:Nat} (c_q20:Cal P w K mg base k_q20 "picture_pieces" ["picture"] sp_q20) (l_q20:k_q20<=k) {sp_q26:Sp3} {k_q26:Nat} (c_q26:Cal P w K mg base k_q26 "trails_of_piece" ["piece"] sp_q26) (l_q26:k_q26<=k) (hr:Room k (A.deeper (envOfC "trails_of" (ua0 wp1) s.heap.objs.size f cdv))) :
    RSs (cxOf CX0 P w K mg base vl3 "trails_of" (ua0 wp1) f cdv A outer s H E).nox (yc0 wp1) (xp3 sp_q20 sp_q26) :=
 (yb0 (zc0 (i:=1) sc_q25.nd (ud0 ta0)) (yb0 (vf0 PassesOwn.never rfl (xg0 (wb0 (c_q20.mono l_q20) hr (xa0 (ya0 0) ta0))) (xc0 (i:=2) sc_q25.nd) (zb0 (zf0 (vm0 (ya0 1) (xa0 (wb0 (c_q26.mono l_q26) hr (xa0 (ya0 2) ta0)) ta0))))) (zb0 (tc0 (ya0 1)))))
theorem sc_q26:FnScope wl3 ["piece"] (ua0 zp1):=[3]
theorem su3 {k:Nat} {f:Addr} {cdv:Value} {A:Around} {outer:List Env} {s:Shared} {H:Hp} {E:XK} {sp_q13:Sp3} {k_q13:Nat} (c_q13:Cal P w K mg base k_q13 "ends_of" ["stroke"] sp_q13) (l_q13:k_q13<=k) {sp_q17:Sp3} {k_q17:Nat} (c_q17:Cal P w K mg base k_q17 "odd_points" ["picture"] sp_q17) (l_q17:k_q17<=k) {sp_q19:Sp3} {k_q19:Nat} (c_q19:Cal P w K mg base k_q19 "parted_at_bridges" ["way", "first_bridge"] sp_q19) (l_q19:k_q19<=k) {sp_q27:Sp3} {k_q27:Nat} (c_q27:Cal P w K mg base k_q27 "way_along" ["links", "start"] sp_q27) (l_q27:k_q27<=k) (z_len:mg "len" = none) (z_range:mg "range" = none) (hr:Room k (A.deeper (envOfC "trails_of_piece" (ua0 zp1) s.heap.objs.size f cdv))) :
    RSs (cxOf CX0 P w K mg base wl3 "trails_of_piece" (ua0 zp1) f cdv A outer s H E).nox (yc0 zp1) (so3 sp_q13 sp_q17 sp_q19 sp_q27) :=
 (yb0 (zc0 (i:=1) sc_q26.nd (wb0 (c_q17.mono l_q17) hr (xa0 (ya0 0) ta0))) (yb0 (xl1 (i:=2) sc_q26.nd (NN:=["stroke"]) (by decide +kernel) (by decide +kernel) (by decide +kernel) (xg0 (ya0 0)) (λ _ _ _ _ _=>(xc0 (i:=0) (show List.Nodup (["stroke"]:List Str) by decide +kernel))) (λ _ _ _ _ _=>uj0) (λ _ _ _ _ _=>(wb0 (c_q13.mono l_q13) hr (xa0 (ya0 0) ta0)))) (yb0 (xq0 (i:=3) sc_q26.nd (NN:=["place", "odd"]) (js:=[none,some 1]) rfl ui0 (zx1 z_range xb0 (wc0 wj0 (sb0 vj0 z_len xf0 (xa0 (ya0 1) ta0)) xb0) xb0) (λ _ _ _ _ _=>(xc0 (i:=0) (show List.Nodup (["place", "odd"]:List Str) by decide +kernel))) (λ _ _ _ _ _=>uj0) (λ _ _ _ _ _=>(sc0 (xa0 (uc0 q_ix (ya0 1) (ya0 0)) (xa0 (uc0 q_ix (ya0 1) (wc0 td0 (ya0 0) xb0)) ta0)))) (by intro _; rfl)) (yb0 (zc0 (i:=4) sc_q26.nd (tx3 (yd0 q_gt (sb0 vj0 z_len xf0 (xa0 (ya0 1) ta0)) xb0) (uc0 q_ix (ya0 1) xb0) (uc0 q_ix (uc0 q_ix (ya0 2) xb0) xb0))) (zb0 (tc0 (wb0 (c_q19.mono l_q19) hr (xa0 (wb0 (c_q27.mono l_q27) hr (xa0 (wc0 td0 (ya0 2) (ya0 3)) (xa0 (ya0 4) ta0))) (xa0 (sb0 vj0 z_len xf0 (xa0 (ya0 2) ta0)) ta0)))))))))
theorem sc_q27:FnScope zl3 ["links", "start"] (ua0 yp1):=[3]
theorem tu3 {k:Nat} {f:Addr} {cdv:Value} {A:Around} {outer:List Env} {s:Shared} {H:Hp} {E:XK} {sp_q16:Sp3} {k_q16:Nat} (c_q16:Cal P w K mg base k_q16 "links_at" ["links"] sp_q16) (l_q16:k_q16<=k) {sp_q18:Sp3} {k_q18:Nat} (c_q18:Cal P w K mg base k_q18 "other_end" ["link", "point"] sp_q18) (l_q18:k_q18<=k) {sp_q24:Sp3} {k_q24:Nat} (c_q24:Cal P w K mg base k_q24 "take_unused" ["numbers", "used"] sp_q24) (l_q24:k_q24<=k) (z_len:mg "len" = none) (hr:Room k (A.deeper (envOfC "way_along" (ua0 yp1) s.heap.objs.size f cdv))) :
    RSs (cxOf CX0 P w K mg base zl3 "way_along" (ua0 yp1) f cdv A outer s H E).nox (yc0 yp1) (to3 sp_q16 sp_q18 sp_q24) :=
 (yb0 (zc0 (i:=2) sc_q27.nd (wb0 (c_q16.mono l_q16) hr (xa0 (ya0 0) ta0))) (yb0 (zc0 (i:=3) sc_q27.nd sx3) (yb0 (zc0 (i:=4) sc_q27.nd (ud0 (xa0 (sc0 (xa0 (ya0 1) (xa0 yb1 ta0))) ta0))) (yb0 (zc0 (i:=5) sc_q27.nd (ud0 ta0)) (yb0 (xx0 PassesOwn.never (yd0 q_gt (sb0 vj0 z_len xf0 (xa0 (ya0 4) ta0)) xb0) (yb0 (zc0 (i:=6) sc_q27.nd (uc0 q_ix (uc0 q_ix (ya0 4) (um2 tm2 xb0)) xb0)) (yb0 (zc0 (i:=7) sc_q27.nd (wb0 (c_q24.mono l_q24) hr (xa0 (vf1 (hu64 hr) (ya0 2) (ya0 6)) (xa0 (ya0 3) ta0)))) (zb0 (wh0 (yd0 sa4 (ya0 7) yb1) (zb0 (zf0 (yg0 (ya0 5) (xa0 (yv2 (ya0 4)) ta0)))) (yb0 (wl2 (hu64 hr) (ya0 3) (ya0 7) xy1) (zb0 (zf0 (yg0 (ya0 4) (xa0 (sc0 (xa0 (wb0 (c_q18.mono l_q18) hr (xa0 (uc0 q_ix (ya0 0) (ya0 7)) (xa0 (ya0 6) ta0))) (xa0 (ya0 7) ta0))) ta0)))))))))) (zb0 (tc0 (ya0 5))))))))
theorem sc_q16:FnScope tm3 ["links"] (ua0 vq1):=[3]
theorem yw3 {k:Nat} {f:Addr} {cdv:Value} {A:Around} {outer:List Env} {s:Shared} {H:Hp} {E:XK} (z_len:mg "len" = none) (z_range:mg "range" = none) (hr:Room k (A.deeper (envOfC "links_at" (ua0 vq1) s.heap.objs.size f cdv))) :
    RSs (cxOf CX0 P w K mg base tm3 "links_at" (ua0 vq1) f cdv A outer s H E).nox (yc0 vq1) (yq3) :=
 (yb0 (zc0 (i:=1) sc_q16.nd zb1) (yb0 (vf0 PassesOwn.never rfl (uh0 z_range (sb0 vj0 z_len xf0 (xa0 (ya0 0) ta0))) (xc0 (i:=2) sc_q16.nd) (zb0 (vf0 PassesOwn.never rfl (xg0 (uc0 q_ix (ya0 0) (ya0 2))) (xc0 (i:=3) sc_q16.nd) (zb0 (zf0 (yg0 (wx3 (hu64 hr) (ya0 1) (xa0 (ya0 3) (xa0 (ud0 ta0) ta0))) (xa0 (ya0 2) ta0))))))) (zb0 (tc0 (ya0 1)))))
theorem sc_q24:FnScope ul3 ["numbers", "used"] (ua0 vp1):=[3]
theorem yv3 {k:Nat} {f:Addr} {cdv:Value} {A:Around} {outer:List Env} {s:Shared} {H:Hp} {E:XK} (z_len:mg "len" = none) (hr:Room k (A.deeper (envOfC "take_unused" (ua0 vp1) s.heap.objs.size f cdv))) :
    RSs (cxOf CX0 P w K mg base ul3 "take_unused" (ua0 vp1) f cdv A outer s H E).nox (yc0 vp1) (yp3) :=
 (yb0 (xx0 PassesOwn.never (yd0 q_gt (sb0 vj0 z_len xf0 (xa0 (ya0 0) ta0)) xb0) (yb0 (zc0 (i:=2) sc_q24.nd (yv2 (ya0 0))) (zb0 (wh0 (yd0 (wd3 (hu64 hr)) (ya0 2) (ya0 1)) (zb0 (tc0 (ya0 2))) xe0)))) (zb0 (tc0 yb1)))
theorem zt3:FnScope vm3 ["link", "point"] (ua0 zq1):=[3]
theorem sv3 {k:Nat} {f:Addr} {cdv:Value} {A:Around} {outer:List Env} {s:Shared} {H:Hp} {E:XK} (hr:Room k (A.deeper (envOfC "other_end" (ua0 zq1) s.heap.objs.size f cdv))) :
    RSs (cxOf CX0 P w K mg base vm3 "other_end" (ua0 zq1) f cdv A outer s H E).nox (yc0 zq1) (sp3) :=
 (zb0 (tc0 (tx3 (yd0 (q_eq (hu64 hr)) [26] (ya0 1)) [26] [26])))
theorem sc_q19:FnScope wm3 ["way", "first_bridge"] (ua0 yq1):=[3]
theorem tv3 {k:Nat} {f:Addr} {cdv:Value} {A:Around} {outer:List Env} {s:Shared} {H:Hp} {E:XK} (z_len:mg "len" = none) (z_range:mg "range" = none) (hr:Room k (A.deeper (envOfC "parted_at_bridges" (ua0 yq1) s.heap.objs.size f cdv))) :
    RSs (cxOf CX0 P w K mg base wm3 "parted_at_bridges" (ua0 yq1) f cdv A outer s H E).nox (yc0 yq1) (tp3) :=
 (yb0 (zc0 (i:=2) sc_q19.nd (ud0 (xa0 (ud0 (xa0 (uc0 q_ix [26] xb0) ta0)) ta0))) (yb0 (vf0 PassesOwn.never rfl (sq0 z_range xb0 (sb0 vj0 z_len xf0 (xa0 (ya0 0) ta0))) (xc0 (i:=3) sc_q19.nd) (yb0 (wh0 (yd0 (xb4 (hu64 hr)) (uc0 q_ix (uc0 q_ix (ya0 0) (wc0 wj0 (ya0 3) xb0)) xb0) (ya0 1)) (zb0 (zf0 (yg0 (ya0 2) (xa0 (ud0 ta0) ta0)))) xe0) (zb0 (zf0 (yg0 (uc0 q_ix (ya0 2) (um2 tm2 xb0)) (xa0 (uc0 q_ix (uc0 q_ix (ya0 0) (ya0 3)) xb0) ta0)))))) (zb0 (tc0 (ya0 2)))))
theorem wt3:FnScope xn3 ["picture"] (ua0 uq1):=[3]
theorem ww3 {k:Nat} {f:Addr} {cdv:Value} {A:Around} {outer:List Env} {s:Shared} {H:Hp} {E:XK} {sp_q20:Sp3} {k_q20:Nat} (c_q20:Cal P w K mg base k_q20 "picture_pieces" ["picture"] sp_q20) (l_q20:k_q20<=k) {sp_q22:Sp3} {k_q22:Nat} (c_q22:Cal P w K mg base k_q22 "strokes_at" ["picture"] sp_q22) (l_q22:k_q22<=k) (z_all:mg "all" = none) (z_len:mg "len" = none) (hr:Room k (A.deeper (envOfC "is_ring" (ua0 uq1) s.heap.objs.size f cdv))) :
    RSs (cxOf CX0 P w K mg base xn3 "is_ring" (ua0 uq1) f cdv A outer s H E).nox (yc0 uq1) (wq3 sp_q20 sp_q22) :=
 (yb0 (wh0 (yd0 (q_ne (hu64 hr)) (sb0 vj0 z_len xf0 (xa0 (wb0 (c_q20.mono l_q20) hr (xa0 (ya0 0) ta0)) ta0)) xb0) (zb0 (tc0 xy1)) xe0) (zb0 (tc0 (sb0 ys4 z_all tk4 (xa0 (uc3 (NN:=["strokes"]) (by decide +kernel) (by decide +kernel) (by decide +kernel) (zx3 (wb0 (c_q22.mono l_q22) hr (xa0 (ya0 0) ta0))) (λ _ _ _ _ _=>(xc0 (i:=0) (show List.Nodup (["strokes"]:List Str) by decide +kernel))) (λ _ _ _ _ _=>uj0) (λ _ _ _ _ _=>(zr0 (q_eq (hu64 hr)) (sb0 vj0 z_len xf0 (xa0 (ya0 0) ta0)) xb0))) ta0)))))
theorem sc_q9:FnScope N_q9 ["picture"] (ua0 s_q9):=[3]
theorem uo4 {k:Nat} {f:Addr} {cdv:Value} {A:Around} {outer:List Env} {s:Shared} {H:Hp} {E:XK} {sp_q12:Sp3} {k_q12:Nat} (c_q12:Cal P w K mg base k_q12 "crossed" ["point", "other"] sp_q12) (l_q12:k_q12<=k) {sp_q14:Sp3} {k_q14:Nat} (c_q14:Cal P w K mg base k_q14 "is_ring" ["picture"] sp_q14) (l_q14:k_q14<=k) {sp_q25:Sp3} {k_q25:Nat} (c_q25:Cal P w K mg base k_q25 "trails_of" ["picture"] sp_q25) (l_q25:k_q25<=k) (z_abs:mg "abs" = none) (z_len:mg "len" = none) (z_range:mg "range" = none) (z_sum:mg "sum" = none) (hr:Room k (A.deeper (envOfC "area_of" (ua0 s_q9) s.heap.objs.size f cdv))) :
    RSs (cxOf CX0 P w K mg base N_q9 "area_of" (ua0 s_q9) f cdv A outer s H E).nox (yc0 s_q9) (t_q9 sp_q12 sp_q14 sp_q25) :=
 (yb0 (wh0 (xv2 (su2 (wb0 (c_q14.mono l_q14) hr (xa0 (ya0 0) ta0)))) (zb0 (tc0 yb1)) xe0) (yb0 (zc0 (i:=1) sc_q9.nd (uc0 q_ix (wb0 (c_q25.mono l_q25) hr (xa0 (ya0 0) ta0)) xb0)) (zb0 (tc0 (wc0 ty1 (sb0 zs4 z_abs sk4 (xa0 (sb0 va4 z_sum wy2 (xa0 (wi0 (NN:=["place", "points"]) (js:=[none,some 1]) rfl ui0 (sq0 z_range xb0 (sb0 vj0 z_len xf0 (xa0 (ya0 1) ta0))) (λ _ _ _ _ _=>(xc0 (i:=0) (show List.Nodup (["place", "points"]:List Str) by decide +kernel))) (λ _ _ _ _ _=>uj0) (λ _ _ _ _ _=>(wb0 (c_q12.mono l_q12) hr (xa0 (uc0 q_ix (ya0 1) (wc0 wj0 (ya0 0) xb0)) (xa0 (uc0 q_ix (ya0 1) (ya0 0)) ta0)))) (by intro _; rfl)) ta0)) ta0)) xb0)))))
theorem ut3:FnScope zn3 ["point", "other"] (ua0 xr1):=[3]
theorem uw3 {k:Nat} {f:Addr} {cdv:Value} {A:Around} {outer:List Env} {s:Shared} {H:Hp} {E:XK} (hr:Room k (A.deeper (envOfC "crossed" (ua0 xr1) s.heap.objs.size f cdv))) :
    RSs (cxOf CX0 P w K mg base zn3 "crossed" (ua0 xr1) f cdv A outer s H E).nox (yc0 xr1) (uq3) :=
 (zb0 (tc0 (wc0 wj0 (wc0 wb1 [26] (uc0 q_ix (ya0 1) xb0)) (wc0 wb1 [26] (uc0 q_ix (ya0 1) xb0)))))
theorem sc_q5:FnScope N_q5 ["script", "k"] (ua0 s_q5):=[3]
theorem yp4 {k:Nat} {f:Addr} {cdv:Value} {A:Around} {outer:List Env} {s:Shared} {H:Hp} {E:XK} (z_len:mg "len" = none) (hr:Room k (A.deeper (envOfC "_law_state" (ua0 s_q5) s.heap.objs.size f cdv))) :
    RSs (cxOf CX0 P w K mg base N_q5 "_law_state" (ua0 s_q5) f cdv A outer s H E).nox (yc0 s_q5) (t_q5) :=
 (yb0 (zc0 (i:=2) sc_q5.nd xb0) (yb0 (wh0 (yd0 q_lt (ya0 1) (sb0 vj0 z_len xf0 (xa0 (ya0 0) ta0))) (zb0 (zc0 (i:=2) sc_q5.nd (uc0 q_ix (ya0 0) (ya0 1)))) xe0) (yb0 (wh0 (yd0 q_ge (ya0 2) (wc0 ua4 xb0 xb0)) (zb0 (tc0 (ud0 (xa0 (wc0 wj0 (ya0 2) (wc0 ua4 xb0 xb0)) (xa0 xb0 ta0))))) xe0) (zb0 (tc0 (ud0 (xa0 (wc0 vb1 (wc0 td0 (ya0 2) (wc0 wb1 xb0 (ya0 1))) xb0) (xa0 xb0 ta0))))))))
theorem sc_q6:FnScope N_q6 ["state", "many"] (ua0 s_q6):=[3]
theorem xp4 {k:Nat} {f:Addr} {cdv:Value} {A:Around} {outer:List Env} {s:Shared} {H:Hp} {E:XK} (hr:Room k (A.deeper (envOfC "_law_take" (ua0 s_q6) s.heap.objs.size f cdv))) :
    RSs (cxOf CX0 P w K mg base N_q6 "_law_take" (ua0 s_q6) f cdv A outer s H E).nox (yc0 s_q6) (t_q6) :=
 (yb0 (wh0 (yc3 (zu3 (yd0 (q_eq (hu64 hr)) [26] xb0) (wc3 (yd0 q_gt [26] xb0)))) (yb0 (zc0 (i:=2) sc_q6.nd (wc0 vb1 [26] (ya0 1))) (yb0 (sw1 (wc0 ty1 [26] (ya0 1)) (vx1 (ya0 0) xb0)) (zb0 (tc0 (ya0 2))))) xe0) (yb0 (sw1 xb0 (vx1 (ya0 0) xb0)) (yb0 (sw1 (wc0 vb1 (wc0 td0 (wc0 wb1 [26] xb0) xb0) xb0) (vx1 (ya0 0) xb0)) (yb0 (zc0 (i:=3) sc_q6.nd (wc0 vb1 (wc0 td0 (wc0 wb1 [26] [26]) (wc0 wb1 xb0 [26])) xb0)) (yb0 (zc0 (i:=3) sc_q6.nd (wc0 vb1 (wc0 td0 (wc0 wb1 (ya0 3) (ya0 3)) (wc0 wb1 xb0 (ya0 3))) xb0)) (zb0 (tc0 (wc0 vb1 (wc0 ty1 (ya0 3) xb0) (ya0 1)))))))))
theorem wo4:FnScope N_q8 ["found"] (ua0 s_q8):=[3]
theorem to4 {k:Nat} {f:Addr} {cdv:Value} {A:Around} {outer:List Env} {s:Shared} {H:Hp} {E:XK} (z_bool:mg "bool" = none) (z_int:mg "int" = none) (z_isinstance:mg "isinstance" = none) (hr:Room k (A.deeper (envOfC "_law_whole" (ua0 s_q8) s.heap.objs.size f cdv))) :
    RSs (cxOf CX0 P w K mg base N_q8 "_law_whole" (ua0 s_q8) f cdv A outer s H E).nox (yc0 s_q8) (t_q8) :=
 (zb0 (tc0 (ul1 (sb0 zd3 z_isinstance si0 (xa0 (ya0 0) (xa0 (vc3 z_int uk4) ta0))) (vl1 (zv2 (sb0 zd3 z_isinstance si0 (xa0 (ya0 0) (xa0 (vc3 z_bool yi2) ta0))))))))
theorem sc_q2:FnScope N_q2 ["state", "most"] (ua0 s_q2):=[3]
theorem vp4 {k:Nat} {f:Addr} {cdv:Value} {A:Around} {outer:List Env} {s:Shared} {H:Hp} {E:XK} {sp_q6:Sp3} {k_q6:Nat} (c_q6:Cal P w K mg base k_q6 "_law_take" ["state", "many"] sp_q6) (l_q6:k_q6<=k) (z_range:mg "range" = none) (z_set:mg "set" = none) (z_sorted:mg "sorted" = none) (z_tuple:mg "tuple" = none) (hr:Room k (A.deeper (envOfC "_law_lines" (ua0 s_q2) s.heap.objs.size f cdv))) :
    RSs (cxOf CX0 P w K mg base N_q2 "_law_lines" (ua0 s_q2) f cdv A outer s H E).nox (yc0 s_q2) (t_q2 sp_q6) :=
 (yb0 (zc0 (i:=2) sc_q2.nd (wc0 td0 xb0 (wb0 (c_q6.mono l_q6) hr (xa0 (ya0 0) (xa0 xb0 ta0))))) (yb0 (zc0 (i:=3) sc_q2.nd (wc0 td0 xb0 (wb0 (c_q6.mono l_q6) hr (xa0 (ya0 0) (xa0 xb0 ta0))))) (yb0 (zc0 (i:=4) sc_q2.nd (ud0 ta0)) (yb0 (vf0 PassesOwn.never rfl (uh0 z_range (wb0 (c_q6.mono l_q6) hr (xa0 (ya0 0) (xa0 (wc0 td0 (ya0 1) xb0) ta0)))) (xc0 (i:=5) sc_q2.nd) (yb0 (zc0 (i:=6) sc_q2.nd (wc0 wj0 (wb0 (c_q6.mono l_q6) hr (xa0 (ya0 0) (xa0 (ya0 2) ta0))) xb0)) (yb0 (zc0 (i:=7) sc_q2.nd (wc0 wj0 (wb0 (c_q6.mono l_q6) hr (xa0 (ya0 0) (xa0 (ya0 3) ta0))) xb0)) (yb0 (zc0 (i:=8) sc_q2.nd (wb0 (c_q6.mono l_q6) hr (xa0 (ya0 0) (xa0 xb0 ta0)))) (zb0 (wh0 (yd0 q_lt (ya0 8) xb0) (zb0 (zf0 (yg0 (ya0 4) (xa0 (sc0 (xa0 (ya0 6) (xa0 (ya0 7) (xa0 (wc0 vb1 (ya0 8) xb0) ta0)))) ta0)))) (zb0 (zc0 (i:=4) sc_q2.nd (wc0 td0 (ya0 4) (ud0 (xa0 (sc0 (xa0 (ya0 6) (xa0 (ya0 7) (xa0 xb0 ta0)))) (xa0 (sc0 (xa0 (ya0 6) (xa0 (ya0 7) (xa0 xb0 ta0)))) (xa0 (sc0 (xa0 (ya0 6) (xa0 (wc0 td0 (ya0 7) xb0) (xa0 xb0 ta0)))) (xa0 (sc0 (xa0 (wc0 td0 (ya0 6) xb0) (xa0 (ya0 7) (xa0 xb0 ta0)))) ta0)))))))))))))) (zb0 (tc0 (wr0 uf1 z_tuple yz0 (xa0 (sx1 (tw1 (ya0 4) z_set (hu64 hr)) z_sorted) ta0))))))))
theorem sc_q0:FnScope N_q0 ["lines"] (ua0 s_q0):=[3]
theorem tp4 {k:Nat} {f:Addr} {cdv:Value} {A:Around} {outer:List Env} {s:Shared} {H:Hp} {E:XK} (hr:Room k (A.deeper (envOfC "_law_ends" (ua0 s_q0) s.heap.objs.size f cdv))) :
    RSs (cxOf CX0 P w K mg base N_q0 "_law_ends" (ua0 s_q0) f cdv A outer s H E).nox (yc0 s_q0) (t_q0) :=
 (yb0 (zc0 (i:=1) sc_q0.nd zb1) (yb0 (vf0 PassesOwn.never rfl (xg0 (ya0 0)) (xb1 rfl (ue0 (xc0 (i:=2) sc_q0.nd) (ue0 (xc0 (i:=3) sc_q0.nd) (ue0 (xc0 (i:=4) sc_q0.nd) xr0)))) (zb0 (vf0 PassesOwn.never rfl (xg0 (ud0 (xa0 (sc0 (xa0 (ya0 2) (xa0 (ya0 3) ta0))) (xa0 (sc0 (xa0 (wc0 wj0 (wc0 td0 (ya0 2) xb0) (ya0 4)) (xa0 (wc0 td0 (ya0 3) (ya0 4)) ta0))) ta0)))) (xc0 (i:=5) sc_q0.nd) (zb0 (wn0 (hu64 hr) (ya0 1) (ya0 5) (wc0 td0 (xq4 (hu64 hr) (ya0 1) (xa0 (ya0 5) (xa0 xb0 ta0))) xb0)))))) (zb0 (tc0 (ya0 1)))))
theorem sc_q4:FnScope N_q4 ["lines"] (ua0 s_q4):=[3]
theorem zp4 {k:Nat} {f:Addr} {cdv:Value} {A:Around} {outer:List Env} {s:Shared} {H:Hp} {E:XK} {sp_q0:Sp3} {k_q0:Nat} (c_q0:Cal P w K mg base k_q0 "_law_ends" ["lines"] sp_q0) (l_q0:k_q0<=k) (z_len:mg "len" = none) (z_min:mg "min" = none) (z_range:mg "range" = none) (z_set:mg "set" = none) (z_sorted:mg "sorted" = none) (hr:Room k (A.deeper (envOfC "_law_pieces" (ua0 s_q4) s.heap.objs.size f cdv))) :
    RSs (cxOf CX0 P w K mg base N_q4 "_law_pieces" (ua0 s_q4) f cdv A outer s H E).nox (yc0 s_q4) (t_q4 sp_q0) :=
 (yb0 (zc0 (i:=1) sc_q4.nd zb1) (yb0 (vf0 PassesOwn.never rfl (xg0 (sb0 yd3 z_sorted xk0 (xa0 (wb0 (c_q0.mono l_q0) hr (xa0 (ya0 0) ta0)) ta0))) (xc0 (i:=2) sc_q4.nd) (zb0 (wn0 (hu64 hr) (ya0 1) (ya0 2) (sb0 wv2 z_len xf0 (xa0 (ya0 1) ta0))))) (yb0 (vf0 PassesOwn.never rfl (uh0 z_range (sb0 wv2 z_len xf0 (xa0 (ya0 1) ta0))) (xc0 (i:=3) sc_q4.nd) (zb0 (vf0 PassesOwn.never rfl (xg0 (ya0 0)) (xb1 rfl (ue0 (xc0 (i:=4) sc_q4.nd) (ue0 (xc0 (i:=5) sc_q4.nd) (ue0 (xc0 (i:=6) sc_q4.nd) xr0)))) (yb0 (zc0 (i:=7) sc_q4.nd (sb0 (ta4 rfl) z_min vk4 (xa0 (vf1 (hu64 hr) (ya0 1) (sc0 (xa0 (ya0 4) (xa0 (ya0 5) ta0)))) (xa0 (vf1 (hu64 hr) (ya0 1) (sc0 (xa0 (wc0 wj0 (wc0 td0 (ya0 4) xb0) (ya0 6)) (xa0 (wc0 td0 (ya0 5) (ya0 6)) ta0)))) ta0)))) (yb0 (wn0 (hu64 hr) (ya0 1) (sc0 (xa0 (ya0 4) (xa0 (ya0 5) ta0))) (ya0 7)) (zb0 (wn0 (hu64 hr) (ya0 1) (sc0 (xa0 (wc0 wj0 (wc0 td0 (ya0 4) xb0) (ya0 6)) (xa0 (wc0 td0 (ya0 5) (ya0 6)) ta0))) (ya0 7)))))))) (zb0 (tc0 (ux3 (wi0 (NN:=["place", "mark"]) (js:=[none,some 1]) rfl ui0 (wx1 (ya0 1)) (λ _ _ _ _ _=>(xc0 (i:=0) (show List.Nodup (["place", "mark"]:List Str) by decide +kernel))) (λ _ _ _ _ _=>uj0) (λ _ _ _ _ _=>(vf1 (hu64 hr) (ya0 1) (ya0 0))) (by intro _; rfl)) z_set z_len))))))
theorem sc_q3:FnScope N_q3 ["columns", "left", "low"] (ua0 s_q3):=[3]
theorem wp4 {k:Nat} {f:Addr} {cdv:Value} {A:Around} {outer:List Env} {s:Shared} {H:Hp} {E:XK} (z_len:mg "len" = none) (z_range:mg "range" = none) (z_sorted:mg "sorted" = none) (hr:Room k (A.deeper (envOfC "_law_outline" (ua0 s_q3) s.heap.objs.size f cdv))) :
    RSs (cxOf CX0 P w K mg base N_q3 "_law_outline" (ua0 s_q3) f cdv A outer s H E).nox (yc0 s_q3) (t_q3) :=
 (yb0 (zc0 (i:=3) sc_q3.nd (ud0 ta0)) (yb0 (vf0 PassesOwn.never rfl (uh0 z_range (sb0 vj0 z_len xf0 (xa0 (ya0 0) ta0))) (xc0 (i:=4) sc_q3.nd) (zb0 (zf0 (vm0 (ya0 3) (xa0 (wi0 (NN:=["level", "left", "k", "low"]) (js:=[none,some 1,some 4,some 2]) rfl ui0 (uh0 z_range (uc0 q_ix (ya0 0) (ya0 4))) (λ _ _ _ _ _=>(xc0 (i:=0) (show List.Nodup (["level", "left", "k", "low"]:List Str) by decide +kernel))) (λ _ _ _ _ _=>uj0) (λ _ _ _ _ _=>(sc0 (xa0 (wc0 td0 (ya0 1) (ya0 2)) (xa0 (wc0 td0 (ya0 3) (ya0 0)) ta0)))) (by intro _; rfl)) ta0))))) (yb0 (zc0 (i:=5) sc_q3.nd (ud0 ta0)) (yb0 (vf0 PassesOwn.never rfl (xg0 (ya0 3)) (xb1 rfl (ue0 (xc0 (i:=6) sc_q3.nd) (ue0 (xc0 (i:=7) sc_q3.nd) xr0))) (yb0 (zc0 (i:=8) sc_q3.nd (ud0 (xa0 (sc0 (xa0 (sc0 (xa0 (ya0 6) (xa0 (ya0 7) (xa0 xb0 ta0)))) (xa0 (sc0 (xa0 (ya0 6) (xa0 (wc0 wj0 (ya0 7) xb0) ta0))) ta0))) (xa0 (sc0 (xa0 (sc0 (xa0 (ya0 6) (xa0 (wc0 td0 (ya0 7) xb0) (xa0 xb0 ta0)))) (xa0 (sc0 (xa0 (ya0 6) (xa0 (wc0 td0 (ya0 7) xb0) ta0))) ta0))) ta0)))) (yb0 (zc0 (i:=8) sc_q3.nd (wc0 td0 (ya0 8) (ud0 (xa0 (sc0 (xa0 (sc0 (xa0 (ya0 6) (xa0 (ya0 7) (xa0 xb0 ta0)))) (xa0 (sc0 (xa0 (wc0 wj0 (ya0 6) xb0) (xa0 (ya0 7) ta0))) ta0))) (xa0 (sc0 (xa0 (sc0 (xa0 (wc0 td0 (ya0 6) xb0) (xa0 (ya0 7) (xa0 xb0 ta0)))) (xa0 (sc0 (xa0 (wc0 td0 (ya0 6) xb0) (xa0 (ya0 7) ta0))) ta0))) ta0))))) (zb0 (zf0 (vm0 (ya0 5) (xa0 (wi0 (NN:=["line", "cell", "cells"]) (js:=[none,none,some 3]) rfl ui0 (xg0 (ya0 8)) (λ _ _ _ _ _=>(xb1 rfl (ue0 (xc0 (i:=0) (show List.Nodup (["line", "cell", "cells"]:List Str) by decide +kernel)) (ue0 (xc0 (i:=1) (show List.Nodup (["line", "cell", "cells"]:List Str) by decide +kernel)) xr0)))) (λ _ _ _ _ _=>(sw0 (yd0 (uy1 (hu65 hr)) (ya0 1) (ya0 2)))) (λ _ _ _ _ _=>(ya0 0)) (by intro _; rfl)) ta0))))))) (zb0 (tc0 (sb0 sl1 z_sorted xk0 (xa0 (ya0 5) ta0))))))))
theorem sc_q1:FnScope N_q1 ["lines"] (ua0 s_q1):=[3]
theorem up4 {k:Nat} {f:Addr} {cdv:Value} {A:Around} {outer:List Env} {s:Shared} {H:Hp} {E:XK} {sp_q0:Sp3} {k_q0:Nat} (c_q0:Cal P w K mg base k_q0 "_law_ends" ["lines"] sp_q0) (l_q0:k_q0<=k) {sp_q4:Sp3} {k_q4:Nat} (c_q4:Cal P w K mg base k_q4 "_law_pieces" ["lines"] sp_q4) (l_q4:k_q4<=k) (z_len:mg "len" = none) (hr:Room k (A.deeper (envOfC "_law_is_ring" (ua0 s_q1) s.heap.objs.size f cdv))) :
    RSs (cxOf CX0 P w K mg base N_q1 "_law_is_ring" (ua0 s_q1) f cdv A outer s H E).nox (yc0 s_q1) (t_q1 sp_q0 sp_q4) :=
 (yb0 (zc0 (i:=1) sc_q1.nd (wb0 (c_q0.mono l_q0) hr (xa0 (ya0 0) ta0))) (zb0 (tc0 (ul1 (zr0 q_gt (sb0 vj0 z_len xf0 (xa0 (ya0 0) ta0)) xb0) (ul1 (zr0 (q_eq (hu64 hr)) (wi0 (NN:=["place", "ends"]) (js:=[none,some 1]) rfl ui0 (wx1 (ya0 1)) (λ _ _ _ _ _=>(xc0 (i:=0) (show List.Nodup (["place", "ends"]:List Str) by decide +kernel))) (λ _ _ _ _ _=>(sw0 (yd0 (q_ne (hu64 hr)) (vf1 (hu64 hr) (ya0 1) (ya0 0)) xb0))) (λ _ _ _ _ _=>(ya0 0)) (by intro _; rfl)) (ud0 ta0)) (vl1 (zr0 (q_eq (hu64 hr)) (wb0 (c_q4.mono l_q4) hr (xa0 (ya0 0) ta0)) xb0)))))))
theorem sc_q7:FnScope N_q7 ["state", "found"] (ua0 s_q7):=[3]
theorem so4 {k:Nat} {f:Addr} {cdv:Value} {A:Around} {outer:List Env} {s:Shared} {H:Hp} {E:XK} {sp_q3:Sp3} {k_q3:Nat} (c_q3:Cal P w K mg base k_q3 "_law_outline" ["columns", "left", "low"] sp_q3) (l_q3:k_q3<=k) {sp_q6:Sp3} {k_q6:Nat} (c_q6:Cal P w K mg base k_q6 "_law_take" ["state", "many"] sp_q6) (l_q6:k_q6<=k) (z_len:mg "len" = none) (hr:Room k (A.deeper (envOfC "_law_turned" (ua0 s_q7) s.heap.objs.size f cdv))) :
    RSs (cxOf CX0 P w K mg base N_q7 "_law_turned" (ua0 s_q7) f cdv A outer s H E).nox (yc0 s_q7) (t_q7 sp_q3 sp_q6) :=
 (yb0 (zc0 (i:=2) sc_q7.nd (wb0 (c_q6.mono l_q6) hr (xa0 (ya0 0) (xa0 xb0 ta0)))) (yb0 (zc0 (i:=3) sc_q7.nd (wb0 (c_q6.mono l_q6) hr (xa0 (ya0 0) (xa0 (sb0 vj0 z_len xf0 (xa0 (ya0 1) ta0)) ta0)))) (yb0 (wh0 (yd0 (q_eq (hu64 hr)) (ya0 2) xb0) (zb0 (tc0 (wc0 td0 (wl1 q_sl (ya0 1) yx1 (xx1 (ya0 3))) (wl1 q_sl (ya0 1) (xx1 (wc0 td0 (ya0 3) xb0)) yx1)))) xe0) (yb0 (wh0 (yd0 (q_eq (hu64 hr)) (ya0 2) xb0) (zb0 (tc0 (wc0 td0 (ya0 1) (ud0 (xa0 (sc0 (xa0 (wc0 td0 (uc0 q_ix (uc0 q_ix (ya0 1) (ya0 3)) xb0) xb0) (xa0 (uc0 q_ix (uc0 q_ix (ya0 1) (ya0 3)) xb0) (xa0 (uc0 q_ix (uc0 q_ix (ya0 1) (ya0 3)) xb0) ta0)))) ta0))))) xe0) (yb0 (wh0 (yd0 (q_eq (hu64 hr)) (ya0 2) xb0) (zb0 (tc0 (wc0 td0 (ya0 1) (wb0 (c_q3.mono l_q3) hr (xa0 (ud0 (xa0 xb0 ta0)) (xa0 xb0 (xa0 xb0 ta0))))))) xe0) (yb0 (wh0 (yd0 (q_eq (hu64 hr)) (ya0 2) xb0) (zb0 (tc0 (wc0 td0 (ya0 1) (wb0 (c_q3.mono l_q3) hr (xa0 (ud0 (xa0 xb0 ta0)) (xa0 (wc0 td0 (uc0 q_ix (uc0 q_ix (ya0 1) (um2 tm2 xb0)) xb0) xb0) (xa0 (wc0 td0 (uc0 q_ix (uc0 q_ix (ya0 1) (um2 tm2 xb0)) xb0) xb0) ta0))))))) xe0) (zb0 (tc0 (ya0 1)))))))))
theorem sc_q15:FnScope sm3 ["script"] (ua0 yu0):=[3]
theorem zw3 {k:Nat} {f:Addr} {cdv:Value} {A:Around} {outer:List Env} {s:Shared} {H:Hp} {E:XK} {sp_q1:Sp3} {k_q1:Nat} (c_q1:Cal P w K mg base k_q1 "_law_is_ring" ["lines"] sp_q1) (l_q1:k_q1<=k) {sp_q2:Sp3} {k_q2:Nat} (c_q2:Cal P w K mg base k_q2 "_law_lines" ["state", "most"] sp_q2) (l_q2:k_q2<=k) {sp_q3:Sp3} {k_q3:Nat} (c_q3:Cal P w K mg base k_q3 "_law_outline" ["columns", "left", "low"] sp_q3) (l_q3:k_q3<=k) {sp_q5:Sp3} {k_q5:Nat} (c_q5:Cal P w K mg base k_q5 "_law_state" ["script", "k"] sp_q5) (l_q5:k_q5<=k) {sp_q6:Sp3} {k_q6:Nat} (c_q6:Cal P w K mg base k_q6 "_law_take" ["state", "many"] sp_q6) (l_q6:k_q6<=k) {sp_q7:Sp3} {k_q7:Nat} (c_q7:Cal P w K mg base k_q7 "_law_turned" ["state", "found"] sp_q7) (l_q7:k_q7<=k) {sp_q8:Sp3} {k_q8:Nat} (c_q8:Cal P w K mg base k_q8 "_law_whole" ["found"] sp_q8) (l_q8:k_q8<=k) {sp_q9:Sp3} {k_q9:Nat} (c_q9:Cal P w K mg base k_q9 "area_of" ["picture"] sp_q9) (l_q9:k_q9<=k) {sp_q14:Sp3} {k_q14:Nat} (c_q14:Cal P w K mg base k_q14 "is_ring" ["picture"] sp_q14) (l_q14:k_q14<=k) (z_bool:mg "bool" = none) (z_isinstance:mg "isinstance" = none) (z_range:mg "range" = none) (z_set:mg "set" = none) (z_sorted:mg "sorted" = none) (z_sum:mg "sum" = none) (z_tuple:mg "tuple" = none) (hr:Room k (A.deeper (envOfC "law" (ua0 yu0) s.heap.objs.size f cdv))) :
    RSs (cxOf CX0 P w K mg base sm3 "law" (ua0 yu0) f cdv A outer s H E).nox (yc0 yu0) (zq3 sp_q1 sp_q2 sp_q3 sp_q5 sp_q6 sp_q7 sp_q8 sp_q9 sp_q14) :=
 (yb0 (zc0 (i:=1) sc_q15.nd (wb0 (c_q5.mono l_q5) hr (xa0 (ya0 0) (xa0 xb0 ta0)))) (yb0 (xq0 (i:=2) sc_q15.nd (NN:=["k", "state"]) (js:=[none,some 1]) rfl ui0 (uh0 z_range (wc0 td0 xb0 (wb0 (c_q6.mono l_q6) hr (xa0 (ya0 1) (xa0 xb0 ta0))))) (λ _ _ _ _ _=>(xc0 (i:=0) (show List.Nodup (["k", "state"]:List Str) by decide +kernel))) (λ _ _ _ _ _=>uj0) (λ _ _ _ _ _=>(wc0 td0 xb0 (wb0 (c_q6.mono l_q6) hr (xa0 (ya0 1) (xa0 xb0 ta0))))) (by intro _; rfl)) (yb0 (zc0 (i:=3) sc_q15.nd (wb0 (c_q3.mono l_q3) hr (xa0 (ya0 2) (xa0 (wc0 wj0 (wb0 (c_q6.mono l_q6) hr (xa0 (ya0 1) (xa0 xb0 ta0))) xb0) (xa0 (wc0 wj0 (wb0 (c_q6.mono l_q6) hr (xa0 (ya0 1) (xa0 xb0 ta0))) xb0) ta0))))) (yb0 (wh0 (yd0 (q_eq (hu64 hr)) (wb0 (c_q6.mono l_q6) hr (xa0 (ya0 1) (xa0 xb0 ta0))) xb0) (zb0 (xl1 (i:=3) sc_q15.nd (NN:=["x", "y", "kind"]) (by decide +kernel) (by decide +kernel) (by decide +kernel) (xg0 (ya0 3)) (λ _ _ _ _ _=>(xb1 rfl (ue0 (xc0 (i:=0) (show List.Nodup (["x", "y", "kind"]:List Str) by decide +kernel)) (ue0 (xc0 (i:=1) (show List.Nodup (["x", "y", "kind"]:List Str) by decide +kernel)) (ue0 (xc0 (i:=2) (show List.Nodup (["x", "y", "kind"]:List Str) by decide +kernel)) xr0))))) (λ _ _ _ _ _=>uj0) (λ _ _ _ _ _=>(uc0 q_ix (ud0 (xa0 (sc0 (xa0 (wc0 wj0 xb0 (ya0 1)) (xa0 (ya0 0) (xa0 xb0 ta0)))) (xa0 (sc0 (xa0 (wc0 wj0 (wc0 wj0 xb0 (ya0 1)) xb0) (xa0 (ya0 0) (xa0 xb0 ta0)))) ta0))) (ya0 2))))) xe0) (yb0 (zc0 (i:=4) sc_q15.nd (wr0 uf1 z_tuple yz0 (xa0 (sx1 (tw1 (wb0 (c_q7.mono l_q7) hr (xa0 (ya0 1) (xa0 (ya0 3) ta0))) z_set (hu64 hr)) z_sorted) ta0))) (yb0 (wh0 (yd0 (q_eq (hu64 hr)) (wb0 (c_q6.mono l_q6) hr (xa0 (ya0 1) (xa0 xb0 ta0))) xb0) (yb0 (zc0 (i:=4) sc_q15.nd (wb0 (c_q2.mono l_q2) hr (xa0 (ya0 1) (xa0 xb0 ta0)))) (zb0 (zc0 (i:=2) sc_q15.nd (ud0 ta0)))) xe0) (yb0 (zc0 (i:=5) sc_q15.nd (wb0 (c_q1.mono l_q1) hr (xa0 (ya0 4) ta0))) (yb0 (zc0 (i:=6) sc_q15.nd (wb0 (c_q14.mono l_q14) hr (xa0 (ya0 4) ta0))) (yb0 (zc0 (i:=7) sc_q15.nd (wb0 (c_q9.mono l_q9) hr (xa0 (ya0 4) ta0))) (yb0 (wh0 (yc3 (zc3 (xv2 (su2 (sb0 zd3 z_isinstance si0 (xa0 (ya0 6) (xa0 (vc3 z_bool yi2) ta0))))) (zc3 (yd0 (q_ne (hu64 hr)) (ya0 6) (ya0 5)) (tu2 (yd0 (q_eq (hu64 hr)) (zr0 sa4 (ya0 7) yb1) (ya0 5)))))) (zb0 (tc0 xy1)) xe0) (zb0 (tc0 (vx3 (zv2 (ya0 5)) (vx3 (zr0 (q_eq (hu64 hr)) (ya0 2) (ud0 ta0)) (vl1 (ul1 (wb0 (c_q8.mono l_q8) hr (xa0 (ya0 7) ta0)) (vl1 (zr0 (q_eq (hu64 hr)) (ya0 7) (sb0 va4 z_sum wy2 (xa0 (ya0 2) ta0))))))))))))))))))))
end
end Pv
namespace Mw
abbrev Pen:=Int × Int × Int
def cs (h:Int):Int:=if h=0 then 1 else if h=2 then -1 else 0
def sn (h:Int):Int:=if h=1 then 1 else if h=3 then -1 else 0
def led (p q:Pen):Pen:=(p.1 + q.1 * cs p.2.2 - q.2.1 * sn p.2.2,p.2.1 + q.1 * sn p.2.2 + q.2.1 * cs p.2.2,(p.2.2 + q.2.2) % 4)
def st:Pen:=(0,0,0)
def pw (p:Pen):Nat->Pen
 | 0=>st
 | n + 1=>led (pw p n) p
def rep (p:Pen) (n:Int):Pen:=if p.2.2=0 then (p.1 * n,p.2.1 * n,0) else pw p (n % 4).toNat
inductive Dd where
 | go (n:Int) | jump (n:Int) | turn (n:Int) | times (n:Int) (w:List Dd)
def G:Int:=99999999999999999999
mutual
def sk:Dd->Int
 | .go n=>n
 | .times n w=>n * sks w
 | _=>0
def sks:List Dd->Int
 | []=>0
 | d :: r=>sk d + sks r
end
mutual
def dn:Dd->Int
 | .times n w=>n * dns w
 | _=>1
def dns:List Dd->Int
 | []=>0
 | d :: r=>dn d + dns r
end
mutual
def pd:Dd->Pen
 | .go n=>(n,0,0)
 | .jump n=>(n,0,0)
 | .turn n=>(0,0,n % 4)
 | .times n w=>rep (pb w) n
def pb:List Dd->Pen
 | []=>st
 | d :: r=>led (pd d) (pb r)
end
end Mw
namespace Mw
def ab (x:Int):Int:=if x < 0 then -x else x
def pm (p:Pen):Int:=max (ab p.1) (ab p.2.1)
end Mw
namespace Pv
abbrev Pt:=Int × Int
def e0 (s:T3):Pt:=(s.1,s.2.1)
def e1 (s:T3):Pt:=(s.1 + 1 - s.2.2,s.2.1 + s.2.2)
theorem e_ne (s:T3):e0 s ≠ e1 s:=λ h=>by
 unfold e0 e1 at h;injection h with h1 h2
 omega
def has (p:Pt) (s:T3):Bool:=decide (e0 s=p) || decide (e1 s=p)
theorem tj0 (s:T3):has (e0 s) s=true:=by unfold has; simp
theorem uo0 (s:T3):has (e1 s) s=true:=by unfold has; simp
theorem wl0 {p:Pt} {s:T3} (h:has p s=true):p=e0 s \/ p=e1 s:=by
 unfold has at h;rw [Bool.or_eq_true,decide_eq_true_eq,decide_eq_true_eq] at h;exact h.imp Eq.symm Eq.symm
def tch (a b:T3):Prop:=∃ p,has p a=true /\ has p b=true
theorem tch.symm {a b:T3} (h:tch a b):tch b a:=let ⟨p,x,y⟩:=h; ⟨p,y,x⟩
def deg (ts:[34]) (p:Pt):Nat:=ts.countP (has p)
inductive Conn (ts:List T3) (a:T3):T3->Prop
 | refl:Conn ts a a
 | step {b c:T3}:Conn ts a b->c ∈ ts->tch b c->Conn ts a c
theorem Conn.cl {ts u:[34]} {a b:T3} (hu:∀ x ∈ u,∀ c ∈ ts,tch x c->c ∈ u) (ha:a ∈ u) (h:Conn ts a b):b ∈ u:=by
 induction h with
 | refl=>exact ha
 | step _ hc ht ih=>exact hu _ ih _ hc ht
theorem Conn.trans {ts:[34]} {a b c:T3} (h:Conn ts a b) (k:Conn ts b c):Conn ts a c:=by
 induction k with
 | refl=>exact h
 | step _ hc ht ih=>exact .step ih hc ht
theorem Conn.symm {ts:[34]} {a b:T3} (ha:a ∈ ts) (h:Conn ts a b):Conn ts b a:=by
 have key:∀ {b},Conn ts a b->b ∈ ts /\ Conn ts b a:=by
  intro b h
  induction h with
  | refl=>exact ⟨ha,.refl⟩
  | step _ hc ht ih=>exact ⟨hc,(Conn.step .refl ih.1 ht.symm).trans ih.2⟩
 exact (key h).2
theorem ug4 {a b:T3} (h:le3 a b) (k:le3 b a):a=b:=by
 obtain ⟨x1,x2,x3⟩:=a;obtain ⟨y1,y2,y3⟩:=b;simp only [le3,lt3,Bool.or_eq_false_iff,Bool.and_eq_false_iff,decide_eq_false_iff_not,beq_eq_false_iff_ne,ne_eq] at h k;simp only [Prod.mk.injEq];omega
theorem uq {us vs:[34]} (a1:us.Perm vs) (a2:us.Pairwise le3) (a3:vs.Pairwise le3):us=vs:=List.Perm.eq_of_pairwise (λ a b _ _ h k=>ug4 h k) a2 a3 a1
structure IsP (ts:List T3) (us:List (List T3)):Prop where
 perm:us.flatten.Perm ts
 ne:∀ u ∈ us,u ≠ []
 up:∀ u ∈ us,u.Pairwise le3
 cl:∀ u ∈ us,∀ a ∈ u,∀ c ∈ ts,tch a c->c ∈ u
 co:∀ u ∈ us,∀ a ∈ u,∀ b ∈ u,Conn ts a b
theorem IsP.mem {ts:[34]} {us:List (List T3)} (h:IsP ts us) {u:[34]} (hu:u ∈ us) {a:T3} (ha:a ∈ u):a ∈ ts:=h.perm.mem_iff.mp (List.mem_flatten.mpr ⟨u,hu,ha⟩)
theorem IsP.two {ts:[34]} {us:List (List T3)} (hn:ts.Nodup) (h:IsP ts us):(∀ u ∈ us,u.Nodup) /\ us.Pairwise (λ u v=>∀ x,x ∈ u->∀ y,y ∈ v->x ≠ y):=List.pairwise_flatten.mp (h.perm.nodup_iff.mpr hn)
end Pv
namespace Pv
open PySem
abbrev Lk2:=Pt × Pt
abbrev Wt:=Pt × Option Nat
def jn (l:Lk2) (p q:Pt):Prop:=(l.1=p /\ l.2=q) \/ (l.1=q /\ l.2=p)
def ic (l:Lk2) (p:Pt):Prop:=l.1=p \/ l.2=p
def oth (l:Lk2) (p:Pt):Pt:=if l.1=p then l.2 else l.1
theorem yx2 {l:Lk2} {p:Pt} (h:ic l p):jn l p (oth l p):=by
 unfold oth;split
 ·next e=>exact .inl ⟨e,rfl⟩
 ·next e=>exact .inr ⟨rfl,h.resolve_left e⟩
def upF (rem:Pt->List Nat) (p:Pt) (l:List Nat):Pt->List Nat:=λ q=>if q=p then l else rem q
inductive Rch (L:List Lk2) (s:Pt) (r0:Pt->List Nat):(Pt->List Nat)->List Nat->List Wt->List Wt->Prop
 | init:Rch L s r0 r0 [] [(s,none)] []
 | pop {rem:Pt->List Nat} {U:List Nat} {st way:List Wt} {w:Wt} (h:Rch L s r0 rem U (st ++ [w]) way) (ha:∀ n ∈ rem w.1,n ∈ U):Rch L s r0 (upF rem w.1 []) U st (way ++ [w])
 | push {rem:Pt->List Nat} {U r z:List Nat} {n:Nat} {l:Lk2} {st way:List Wt} {w:Wt} (h:Rch L s r0 rem U (st ++ [w]) way) (e:rem w.1=r ++ n :: z) (hn:n ∉ U) (hz:∀ m ∈ z,m ∈ U) (hl:L[n]?=some l) :
     Rch L s r0 (upF rem w.1 r) (U ++ [n]) (st ++ [w] ++ [(oth l w.1,some n)]) way
structure Wk (L:List Lk2) (s:Pt) (rem:Pt->List Nat) (U:List Nat) (st way:List Wt):Prop where
 nd:U.Nodup
 us:∀ n ∈ U,n < L.length
 rm:∀ p n,n ∈ rem p->∃ l,L[n]?=some l /\ ic l p
 pt:∀ w ∈ st ++ way,∃ l ∈ L,ic l w.1
 ln:st.length + way.length=U.length + 1
 bt:(st=[] /\ ∃ ws,way=ws ++ [(s,none)] /\ ∀ w ∈ ws,∃ n,w.2=some n) \/ (∃ rs,st=(s,none) :: rs /\ (∀ w ∈ rs,∃ n,w.2=some n) /\ ∀ w ∈ way,∃ n,w.2=some n)
theorem Wk.small {L:List Lk2} {s:Pt} {rem:Pt->List Nat} {U:List Nat} {st way:List Wt} (h:Wk L s rem U st way):U.length<=L.length:=by
 have:=List.Nodup.length_le_of_subset (l₂:=List.range L.length) h.nd λ n hn=>List.mem_range.mpr (h.us n hn);simpa using this
theorem xu1 {rem:Pt->List Nat} {p q:Pt} {l:List Nat} {n:Nat} (h:n ∈ upF rem p l q) (k:∀ m ∈ l,m ∈ rem p):n ∈ rem q:=by
 unfold upF at h;split at h
 ·next e=>subst e; exact k n h
 ·exact h
theorem Rch.wk {L:List Lk2} {s:Pt} {r0 rem:Pt->List Nat} {U:List Nat} {st way:List Wt} (h:Rch L s r0 rem U st way) (hs:∃ l ∈ L,ic l s) (h0:∀ p n,n ∈ r0 p->∃ l,L[n]?=some l /\ ic l p):Wk L s rem U st way:=by
 induction h with
 | init=>exact ⟨nodup_nil,λ _ h=>(nomatch h),h0,λ w hw=>by simp at hw; subst hw; exact hs,rfl,.inr ⟨[],rfl,λ _ h=>(nomatch h),λ _ h=>(nomatch h)⟩⟩
 | @pop rem U st way w h ha ih =>
  refine ⟨ih.nd,ih.us,λ p n hn=>ih.rm p n (xu1 hn λ _ h=>(nomatch h)),λ x hx=>ih.pt x ?_,?_,?_⟩
  ·simp only [mem_append,mem_singleton] at hx ⊢;rcases hx with h | h | h
   ·exact .inl (.inl h)
   ·exact .inr h
   ·exact .inl (.inr h)
  ·have:=ih.ln; simp only [length_append,length_cons,length_nil] at this ⊢; omega
  ·rcases ih.bt with ⟨e,_⟩ | ⟨rs,e,a,b⟩
   ·simp at e
   ·cases st with
    | nil =>
     simp only [nil_append,List.cons.injEq] at e;obtain ⟨rfl,rfl⟩:=e;exact .inl ⟨rfl,way,rfl,b⟩
    | cons x st =>
     simp only [List.cons_append,List.cons.injEq] at e;obtain ⟨rfl,rfl⟩:=e;refine .inr ⟨st,rfl,λ y hy=>a y (mem_append_left _ hy),λ y hy=>?_⟩;rcases List.mem_append.mp hy with z | z
     ·exact b y z
     ·rw [mem_singleton] at z; subst z; exact a y [16]
 | @push rem U r z n l st way w h e hn hz hl ih =>
  have hnl:n < L.length:=(List.getElem?_eq_some_iff.mp hl).1;obtain ⟨l',e',hi⟩:=ih.rm w.1 n (by rw [e]; simp);rw [hl] at e'; cases e';refine ⟨?_,λ m hm=>?_,λ p m hm=>ih.rm p m (xu1 hm λ k hk=>by rw [e]; exact mem_append_left _ hk),λ x hx=>?_,?_,?_⟩
  ·rw [nodup_append];exact ⟨ih.nd,by simp,λ a ha b hb z=>by rw [mem_singleton] at hb; subst hb; subst z; exact hn ha⟩
  ·rcases List.mem_append.mp hm with z | z
   ·exact ih.us m z
   ·rw [mem_singleton] at z; subst z; exact hnl
  ·simp only [mem_append,mem_singleton] at hx;rcases hx with ((h | h) | h) | h
   ·exact ih.pt x (by simp [h])
   ·exact ih.pt x (by simp [h])
   ·subst h;refine ⟨l,mem_of_getElem? hl,?_⟩;rcases yx2 hi with ⟨_,b⟩ | ⟨a,_⟩
    ·exact .inr b
    ·exact .inl a
   ·exact ih.pt x (by simp [h])
  ·have:=ih.ln; simp only [length_append,length_cons,length_nil] at this ⊢; omega
  ·rcases ih.bt with ⟨e,_⟩ | ⟨rs,e,a,b⟩
   ·simp at e
   ·refine .inr ⟨rs ++ [(oth l w.1,some n)],by rw [e]; rfl,λ y hy=>?_,b⟩;rcases List.mem_append.mp hy with z | z
    ·exact a y z
    ·rw [mem_singleton] at z; subst z; exact ⟨n,rfl⟩
def ChG (L:List Lk2) (g:Pt):List Wt->Prop
 | []=>True
 | [w]=>∃ n l,w.2=some n /\ L[n]?=some l /\ jn l w.1 g
 | w :: w' :: r=>(∃ n l,w.2=some n /\ L[n]?=some l /\ jn l w.1 w'.1) /\ ChG L g (w' :: r)
theorem ChG.snoc {L:List Lk2} {g g':Pt} {w:Wt} {n:Nat} {l:Lk2} (e:w.2=some n) (hl:L[n]?=some l) (hj:jn l w.1 g'):∀ {ws:List Wt},ChG L g ws->(ws ≠ []->w.1=g)->ChG L g' (ws ++ [w])
 | [],_,_=>⟨n,l,e,hl,hj⟩
 | [x],h,hg=>by
  obtain ⟨m,k,e1,e2,e3⟩:=h;refine ⟨⟨m,k,e1,e2,?_⟩,n,l,e,hl,hj⟩;rw [hg [16]]; exact e3
 | x :: y :: r,h,hg=>⟨h.1,ChG.snoc e hl hj (ws:=y :: r) h.2 λ _=>hg [16]⟩
inductive StC (L:List Lk2) (s:Pt):List Wt->Prop
 | one:StC L s [(s,none)]
 | snoc {st:List Wt} {w:Wt} {q:Pt} {n:Nat} {l:Lk2} (h:StC L s (st ++ [w])) (hl:L[n]?=some l) (hj:jn l w.1 q):StC L s (st ++ [w] ++ [(q,some n)])
theorem StC.inv {L:List Lk2} {s:Pt} {st:List Wt} {w:Wt} (h:StC L s (st ++ [w])):(st=[] /\ w=(s,none)) \/ ∃ st' w' n l,st=st' ++ [w'] /\ w.2=some n /\ L[n]?=some l /\ jn l w'.1 w.1 /\ StC L s st:=by
 generalize e:st ++ [w]=x at h;cases h with
 | one =>
  have e2:st ++ [w]=[] ++ [(s,none)]:=e;obtain ⟨a,b⟩:=append_inj' e2 rfl;simp only [List.cons.injEq,and_true] at b;exact .inl ⟨a,b⟩
 | @snoc st1 w1 q n l h hl hj =>
  obtain ⟨a,b⟩:=append_inj' e rfl;simp only [List.cons.injEq,and_true] at b;subst a b;exact .inr ⟨st1,w1,n,l,rfl,rfl,hl,hj,h⟩
def isc (L:List Lk2) (v:Pt) (n:Nat):Bool:=match L[n]? with
 | some l=>decide (l.1=v \/ l.2=v)
 | none=>false
theorem par1 {x:Nat} {P:Prop} (h:(x + 1) % 2=1 ↔ ¬ P):x % 2=1 ↔ P:=by
 rcases Classical.em P with c | c
 ·have:¬ (x + 1) % 2=1:=λ z=>h.mp z c;exact ⟨λ _=>c,λ _=>by omega⟩
 ·have:=h.mpr c;exact ⟨λ z=>by omega,λ z=>absurd z c⟩
theorem par2 {x:Nat} {P:Prop} (h:(x + 1) % 2=1 ↔ P):x % 2=1 ↔ ¬ P:=by
 rcases Classical.em P with c | c
 ·have:=h.mpr c;exact ⟨λ z=>by omega,λ z=>absurd c z⟩
 ·have:¬ (x + 1) % 2=1:=λ z=>c (h.mp z);exact ⟨λ _=>c,λ _=>by omega⟩
def unu (L:List Lk2) (U:List Nat):List Nat:=(List.range L.length).filter λ n=>decide (n ∉ U)
def cU (L:List Lk2) (U:List Nat) (v:Pt):Nat:=(unu L U).countP (isc L v)
theorem unu_mem {L:List Lk2} {U:List Nat} {n:Nat}:n ∈ unu L U ↔ n < L.length /\ n ∉ U:=by
 unfold unu; rw [mem_filter,mem_range,decide_eq_true_eq]
theorem zt2 (L:List Lk2) (U:List Nat):(unu L U).Nodup:=List.nodup_range.filter _
theorem wd2 {L:List Lk2} {v:Pt} {n:Nat} {l:Lk2} (h:L[n]?=some l):isc L v n=true ↔ Pv.ic l v:=by
 unfold isc Pv.ic;rw [h];exact decide_eq_true_iff
theorem xl3 {L:List Lk2} {U:List Nat} {n:Nat} (hn:n < L.length) (hU:n ∉ U) (v:Pt):cU L U v=cU L (U ++ [n]) v + if isc L v n=true then 1 else 0:=by
 have hp:(unu L U).Perm (n :: unu L (U ++ [n])):=by
  refine (perm_ext_iff_of_nodup (zt2 _ _) ?_).mpr λ m=>?_
  ·rw [nodup_cons];exact ⟨λ h=>(unu_mem.mp h).2 [16],zt2 _ _⟩
  ·rw [mem_cons,unu_mem,unu_mem];simp only [mem_append,mem_singleton,not_or];constructor
   ·rintro ⟨a,b⟩;by_cases c:m=n
    ·exact .inl c
    ·exact .inr ⟨a,b,c⟩
   ·rintro (rfl | ⟨a,b,_⟩)
    ·exact ⟨hn,hU⟩
    ·exact ⟨a,b⟩
 unfold cU;rw [hp.countP_eq,countP_cons]
theorem sk3 {L:List Lk2} {U:List Nat} {v:Pt} (h:∀ n l,L[n]?=some l->Pv.ic l v->n ∈ U):cU L U v=0:=by
 unfold cU;rw [List.countP_eq_zero];intro n hn c;obtain ⟨a,b⟩:=unu_mem.mp hn;have e:L[n]?=some (L[n]'a):=getElem?_eq_getElem a;exact b (h n _ e ((wd2 e).mp c))
def Odd (L:List Lk2) (U:List Nat) (a g:Pt):Prop:=∀ v,cU L U v % 2=1 ↔ ¬ (v=a ↔ v=g)
structure Hz (L:List Lk2) (s g0:Pt) (rem:Pt->List Nat) (U:List Nat) (st way:List Wt):Prop where
 fl:∀ n l,L[n]?=some l->n ∉ U->∀ p,ic l p->n ∈ rem p
 num:((st ++ way).filterMap (·.2)).Perm U
 dn:∀ w ∈ way,∀ n l,L[n]?=some l->ic l w.1->n ∈ U
 hd:∀ w,way.head?=some w->w.1=g0
 go:∀ st' w,st=st' ++ [w]->StC L s st /\ ∃ g,ChG L g way /\ (way=[]->g=g0) /\ Odd L U w.1 g
 en:st=[]->∃ ws,way=ws ++ [(s,none)] /\ ChG L s ws
theorem Rch.hz {L:List Lk2} {s g0:Pt} {r0 rem:Pt->List Nat} {U:List Nat} {st way:List Wt} (hL:∀ l ∈ L,l.1 ≠ l.2) (hs:∃ l ∈ L,ic l s) (h0:∀ p n,n ∈ r0 p->∃ l,L[n]?=some l /\ ic l p) (h1:∀ n l p,L[n]?=some l->ic l p->n ∈ r0 p) (ho:Odd L [] s g0) (h:Rch L s r0 rem U st way):Hz L s g0 rem U st way:=by
 induction h with
 | init =>
  refine ⟨λ n l e _ p hp=>h1 n l p e hp,by simp,λ _ h=>(nomatch h),λ _ h=>(nomatch h),λ st' w e=>?_,λ e=>(nomatch e)⟩;have e2:[] ++ [(s,none)]=st' ++ [w]:=e;obtain ⟨a,b⟩:=append_inj' e2 rfl;simp only [List.cons.injEq,and_true] at b;subst b;exact ⟨.one,g0,trivial,λ _=>rfl,ho⟩
 | @pop rem U st way w h ha ih =>
  obtain ⟨sc,g,cg,cg0,od⟩:=ih.go st w rfl
  have al:∀ n l,L[n]?=some l->ic l w.1->n ∈ U:=λ n l e hi=>by
   rcases Classical.em (n ∈ U) with c | c
   ·exact c
   ·exact ha n (ih.fl n l e c w.1 hi)
  have wg:w.1=g:=by
   have z:=od w.1;rw [sk3 al] at z;rcases Classical.em (w.1=g) with c | c
   ·exact c
   ·exact absurd (z.mpr λ x=>c (x.mp rfl)) [7]
  refine ⟨λ n l e c p hp=>?_,?_,λ x hx=>?_,λ x hx=>?_,λ st' w' e=>?_,λ e=>?_⟩
  ·unfold upF;split
   ·next z=>subst z; exact absurd (al n l e hp) c
   ·exact ih.fl n l e c p hp
  ·refine List.Perm.trans (List.Perm.filterMap _ ?_) ih.num;rw [append_assoc];exact List.Perm.append_left st List.perm_append_comm
  ·rcases List.mem_append.mp hx with z | z
   ·exact ih.dn x z
   ·rw [mem_singleton] at z; subst z; exact al
  ·cases way with
   | nil=>simp at hx; subst hx; rw [wg]; exact cg0 rfl
   | cons y r=>exact ih.hd x (by simpa using hx)
  ·subst e;rcases sc.inv with ⟨e,_⟩ | ⟨st2,w2,n,l,e,en,el,hj,sc2⟩
   ·simp at e
   ·obtain ⟨_,b⟩:=append_inj' e rfl;simp only [List.cons.injEq,and_true] at b;subst b;have hj2:jn l w.1 w'.1:=hj.elim (λ ⟨a,b⟩=>.inr ⟨a,b⟩) (λ ⟨a,b⟩=>.inl ⟨a,b⟩);refine ⟨sc2,w'.1,cg.snoc en el hj2 (λ _=>wg),λ z=>by simp at z,λ v=>?_⟩;have z:=od v;rw [<- wg] at z;simp only [iff_self,not_true,iff_false] at z ⊢;exact z
  ·subst e;rcases sc.inv with ⟨_,e⟩ | ⟨st2,w2,n,l,e,_⟩
   ·subst e;have wg':s=g:=wg;subst wg';exact ⟨way,rfl,cg⟩
   ·simp at e
 | @push rem U r z n l st way w h e hn hz hl ih =>
  obtain ⟨sc,g,cg,cg0,od⟩:=ih.go st w rfl;obtain ⟨l',e',hi⟩:=(h.wk hs h0).rm w.1 n (by rw [e]; simp);rw [hl] at e'; cases e';have hnl:n < L.length:=(List.getElem?_eq_some_iff.mp hl).1;have hj:=yx2 hi;have hne:=hL l (mem_of_getElem? hl);refine ⟨λ m k em c p hp=>?_,?_,λ x hx m k em hk=>mem_append_left _ (ih.dn x hx m k em hk),ih.hd,λ st' w' e2=>?_,λ e2=>by simp at e2⟩
  ·have c1:m ∉ U:=λ z=>c (mem_append_left _ z);have c2:m ≠ n:=λ z=>c (by rw [z]; simp);have hm:=ih.fl m k em c1 p hp;unfold upF;split
   ·next z =>
    subst z;rw [e] at hm;rcases List.mem_append.mp hm with y | y
    ·exact y
    ·rcases List.mem_cons.mp y with y | y
     ·exact absurd y c2
     ·exact absurd (hz m y) c1
   ·exact hm
  ·have p1:((st ++ [w] ++ [(oth l w.1,some n)]) ++ way).Perm ([(oth l w.1,some n)] ++ ((st ++ [w]) ++ way)):=by
     rw [<- append_assoc];exact List.Perm.append_right way List.perm_append_comm
   refine List.Perm.trans (List.Perm.filterMap _ p1) ?_;rw [List.filterMap_append];exact (List.Perm.append_left _ ih.num).trans List.perm_append_comm
  ·obtain ⟨_,b⟩:=append_inj' e2 rfl;simp only [List.cons.injEq,and_true] at b;subst b;refine ⟨.snoc sc hl hj,g,cg,cg0,λ v=>?_⟩;have z:=od v;rw [xl3 hnl hn v] at z;have iv:=wd2 (v:=v) hl
   have hwq:w.1 ≠ oth l w.1:=by
    rcases hj with ⟨a,b⟩ | ⟨a,b⟩
    ·rw [<- a,show oth l l.1=l.2 by unfold oth; rw [if_pos rfl]]; exact hne
    ·rw [<- b,show oth l l.2=l.1 by unfold oth; rw [if_neg hne]]; exact Ne.symm hne
   have ivq:ic l v ↔ v=w.1 \/ v=oth l w.1:=by
    unfold ic;rcases hj with ⟨a,b⟩ | ⟨a,b⟩
    ·rw [a,b]; exact ⟨λ h=>h.imp Eq.symm Eq.symm,λ h=>h.imp Eq.symm Eq.symm⟩
    ·rw [a,b]; exact ⟨λ h=>(h.imp Eq.symm Eq.symm).symm,λ h=>(h.imp Eq.symm Eq.symm).symm⟩
   show cU L (U ++ [n]) v % 2=1 ↔ ¬ (v=oth l w.1 ↔ v=g);rcases Classical.em (isc L v n=true) with c | c
   ·rw [if_pos c] at z;rcases ivq.mp (iv.mp c) with c1 | c1
    ·have c2:¬ v=oth l w.1:=λ y=>hwq (c1.symm.trans y);simp only [c1,true_iff] at z;rw [<- c1] at z;simp only [c2,false_iff,Classical.not_not];exact par1 z
    ·have c2:¬ v=w.1:=λ y=>hwq (y.symm.trans c1);simp only [c2,false_iff,Classical.not_not] at z;rw [<- c1];simp only [true_iff];exact par2 z
   ·rw [if_neg c,Nat.add_zero] at z;have c1:¬ v=w.1:=λ y=>c (iv.mpr (ivq.mpr (.inl y)));have c2:¬ v=oth l w.1:=λ y=>c (iv.mpr (ivq.mpr (.inr y)));simp only [c1,false_iff] at z;simp only [c2,false_iff];exact z
end Pv
namespace Pv
open Classical in
def Nc {α:Type} (R:α->α->Prop):List α->Nat
 | []=>0
 | v :: V=>Nc R V + (if ∃ u ∈ V,R v u then 0 else 1)
section
variable {α:Type} {R R':α->α->Prop}
theorem Nc.pos:∀ {V:List α},V ≠ []->1<=Nc R V
 | [],h=>absurd rfl h
 | [v],_=>by unfold Nc; rw [if_neg (λ ⟨u,h,_⟩=>nomatch h)]; omega
 | v :: w :: V,_=>by
  have:=Nc.pos (V:=w :: V) (λ h=>nomatch h);unfold Nc;omega
theorem Nc.vals {β:Type} [DecidableEq β] {f:α->β}:∀ {V:List α} {D:List β},(∀ a ∈ V,∀ b ∈ V,R a b ↔ f a=f b)->D.Nodup->(∀ y,y ∈ D ↔ y ∈ V.map f)->Nc R V=D.length
 | [],D,_,_,h=>by
  cases D with
  | nil=>rfl
  | cons d D=>exact nomatch (h d).mp (.head _)
 | v :: V,D,hr,nd,h=>by
  have hr':∀ a ∈ V,∀ b ∈ V,R a b ↔ f a=f b:=λ a ha b hb=>hr a (.tail _ ha) b (.tail _ hb);unfold Nc;by_cases c:∃ u ∈ V,R v u
  ·rw [if_pos c];obtain ⟨u,hu,r⟩:=c;refine Nc.vals hr' nd λ y=>(h y).trans ⟨λ z=>?_,λ z=>mem_cons_of_mem _ z⟩;rcases List.mem_cons.mp z with e | z
   ·rw [e,(hr v (.head _) u (.tail _ hu)).mp r]; exact mem_map_of_mem hu
   ·exact z
  ·rw [if_neg c]
   have nv:f v ∉ V.map f:=λ z=>by
    obtain ⟨u,hu,e⟩:=List.mem_map.mp z;exact c ⟨u,hu,(hr v (.head _) u (.tail _ hu)).mpr e.symm⟩
   have ih:=Nc.vals (D:=D.filter λ y=>decide (y ≠ f v)) hr' (nd.filter _) λ y=>by
    rw [mem_filter,decide_eq_true_eq,h y,map_cons,mem_cons];exact ⟨λ ⟨a,b⟩=>a.resolve_left b,λ z=>⟨.inr z,λ e=>nv (e ▸ z)⟩⟩
   have le:D.length=(D.filter λ y=>decide (y ≠ f v)).length + 1:=by
    have p:D.Perm (f v :: D.filter λ y=>decide (y ≠ f v)):=by
     refine (perm_ext_iff_of_nodup nd (List.nodup_cons.mpr ⟨λ z=>?_,nd.filter _⟩)).mpr λ y=>?_
     ·have:=of_decide_eq_true (List.mem_filter.mp z).2;exact this rfl
     ·rw [mem_cons,mem_filter,decide_eq_true_eq];refine ⟨λ hy=>?_,λ hy=>?_⟩
      ·by_cases e:y=f v
       ·exact .inl e
       ·exact .inr ⟨hy,e⟩
      ·rcases hy with e | hy
       ·rw [e]; exact (h _).mpr (mem_map_of_mem (.head _))
       ·exact hy.1
    rw [p.length_eq,length_cons]
   omega
end
inductive Pn (B:T3->Prop) (p:Pt):Pt->Prop
 | refl:Pn B p p
 | hr {x y:Int}:Pn B p (x,y)->B (x,y,0)->Pn B p (x + 1,y)
 | hl {x y:Int}:Pn B p (x + 1,y)->B (x,y,0)->Pn B p (x,y)
 | vu {x y:Int}:Pn B p (x,y)->B (x,y,1)->Pn B p (x,y + 1)
 | vd {x y:Int}:Pn B p (x,y + 1)->B (x,y,1)->Pn B p (x,y)
theorem Pn.trans {B:T3->Prop} {p q r:Pt} (h:Pn B p q) (g:Pn B q r):Pn B p r:=by
 induction g with
 | refl=>exact h
 | hr _ b ih=>exact ih.hr b
 | hl _ b ih=>exact ih.hl b
 | vu _ b ih=>exact ih.vu b
 | vd _ b ih=>exact ih.vd b
theorem Pn.symm {B:T3->Prop} {p q:Pt} (h:Pn B p q):Pn B q p:=by
 induction h with
 | refl=>exact .refl
 | hr _ b ih=>exact (Pn.refl.hl b).trans ih
 | hl _ b ih=>exact (Pn.refl.hr b).trans ih
 | vu _ b ih=>exact (Pn.refl.vd b).trans ih
 | vd _ b ih=>exact (Pn.refl.vu b).trans ih
def end0 (s:T3):Pt:=(s.1,s.2.1)
def end1 (s:T3):Pt:=(s.1 + 1 - s.2.2,s.2.1 + s.2.2)
def inF (xa ya xb yb:Int) (c:Pt):Prop:=xa<=c.1 /\ c.1 < xb /\ ya<=c.2 /\ c.2 < yb
def gpt (x y:Int) (w h:Nat):List Pt:=(List.range w).flatMap λ i:Nat=>(List.range h).map λ j:Nat=>(x + (i:Int),y + (j:Int))
theorem us0 (x y:Int) (w h:Nat):(gpt x y w h).length=w * h:=by
 unfold gpt;rw [List.length_flatMap];simp [List.map_const',List.sum_replicate_nat]
theorem gpt_mem {x y:Int} {w h:Nat} {c:Pt}:c ∈ gpt x y w h ↔ inF x y (x + w) (y + h) c:=by
 unfold gpt inF;rw [mem_flatMap];constructor
 ·rintro ⟨i,hi,hc⟩;obtain ⟨j,hj,rfl⟩:=List.mem_map.mp hc;rw [mem_range] at hi hj;dsimp only;omega
 ·rintro ⟨h1,h2,h3,h4⟩;refine ⟨(c.1 - x).toNat,List.mem_range.mpr [2],List.mem_map.mpr ⟨(c.2 - y).toNat,List.mem_range.mpr [2],?_⟩⟩;exact Prod.ext (by dsimp only; omega) (by dsimp only; omega)
def wy' (s:T3):Prop:=s.2.2=0 \/ s.2.2=1
theorem pn_s {B:T3->Prop} {s:T3} (hw:wy' s) (hB:B s):Pn B (end0 s) (end1 s):=by
 obtain ⟨x,y,k⟩:=s;rcases hw with e | e <;> dsimp only at e <;> subst e
 ·have:=Pn.refl.hr (p:=(x,y)) hB
  rwa [show end1 (x,y,0)=(x + 1,y) from Prod.ext (by simp [end1]) (by simp [end1])]
 ·have:=Pn.refl.vu (p:=(x,y)) hB
  rwa [show end1 (x,y,1)=(x,y + 1) from Prod.ext (by simp [end1]) (by simp [end1])]
def low (M:Pt->Int) (c d x:Pt):Int:=if x=c \/ x=d then min (M d) (M c) else M x
theorem yg4 {M:Pt->Int} {c d x:Pt}:low M c d x<=M x:=by
 unfold low;by_cases e:x=c \/ x=d
 ·rw [if_pos e];rcases e with rfl | rfl <;> omega
 ·rw [if_neg e]; exact Int.le_refl _
end Pv
namespace Pv
inductive Ph (ts:List T3):Pt->List Pt->Pt->Prop
 | nil {v:Pt}:Ph ts v [] v
 | cons {v w u:Pt} {l:List Pt} {s:T3}:s ∈ ts->(v=end0 s /\ w=end1 s \/ v=end1 s /\ w=end0 s)->Ph ts w l u->Ph ts v (w :: l) u
theorem Ph.suf {ts:[34]} {w u:Pt} {l:List Pt} (h:Ph ts w l u):(w :: l).Nodup->∀ {v:Pt},v ∈ w :: l->∃ l',Ph ts v l' u /\ (v :: l').Nodup /\ ∀ y ∈ v :: l',y ∈ w :: l:=by
 induction h with
 | @nil v=>exact λ nd x hx=>⟨[],by rw [List.mem_singleton.mp hx]; exact .nil,pairwise_singleton _ _,λ y hy=>by rw [List.mem_singleton.mp hy]; exact hx⟩
 | @cons v w u l s hs e h ih =>
  intro nd x hx;rcases List.mem_cons.mp hx with rfl | hx
  ·exact ⟨_,.cons hs e h,nd,λ y hy=>hy⟩
  ·obtain ⟨l',a,b,c⟩:=ih (List.nodup_cons.mp nd).2 hx;exact ⟨l',a,b,λ y hy=>.tail _ (c y hy)⟩
theorem Pn.path {ts:[34]} {us:List Pt} (hE:∀ s ∈ ts,end0 s ∈ us /\ end1 s ∈ us) {u x:Pt} (hu:u ∈ us) (h:Pn (· ∈ ts) u x):∃ l,Ph ts x l u /\ (x :: l).Nodup /\ ∀ y ∈ x :: l,y ∈ us:=by
 have go:∀ {v w:Pt} {s:T3},s ∈ ts->(v=end0 s /\ w=end1 s \/ v=end1 s /\ w=end0 s)->(∃ l,Ph ts w l u /\ (w :: l).Nodup /\ ∀ y ∈ w :: l,y ∈ us)->∃ l,Ph ts v l u /\ (v :: l).Nodup /\ ∀ y ∈ v :: l,y ∈ us:=λ {v w s} hs e ⟨l,p,nd,m⟩=>by
  by_cases c:v ∈ w :: l
  ·obtain ⟨l',a,b,d⟩:=p.suf nd c;exact ⟨l',a,b,λ y hy=>m y (d y hy)⟩
  ·refine ⟨w :: l,.cons hs e p,List.nodup_cons.mpr ⟨c,nd⟩,λ y hy=>?_⟩;rcases List.mem_cons.mp hy with rfl | hy
   ·rcases e with ⟨rfl,_⟩ | ⟨rfl,_⟩
    ·exact (hE s hs).1
    ·exact (hE s hs).2
   ·exact m y hy
 have e0:∀ x y:Int,end1 (x,y,0)=(x + 1,y):=λ x y=>Prod.ext (by simp [end1]) (by simp [end1]);have e1:∀ x y:Int,end1 (x,y,1)=(x,y + 1):=λ x y=>Prod.ext (by simp [end1]) (by simp [end1])
 induction h with
 | refl=>exact ⟨[],.nil,pairwise_singleton _ _,λ y hy=>by rw [List.mem_singleton.mp hy]; exact hu⟩
 | hr _ b ih=>exact go b (.inr ⟨(e0 _ _).symm,rfl⟩) ih
 | hl _ b ih=>exact go b (.inl ⟨rfl,(e0 _ _).symm⟩) ih
 | vu _ b ih=>exact go b (.inr ⟨(e1 _ _).symm,rfl⟩) ih
 | vd _ b ih=>exact go b (.inl ⟨rfl,(e1 _ _).symm⟩) ih
structure Ps (M0 M:Pt->Int) (js:List T3):Prop where
 le:∀ v,M v<=M0 v
 dn:∀ s ∈ js,M (end0 s)<=M0 (end1 s) /\ M (end1 s)<=M0 (end0 s)
theorem Ps.step {M0 M:Pt->Int} {js:[34]} (P:Ps M0 M js) (s:T3):Ps M0 (low M (end0 s) (end1 s)) (js ++ [s]):=by
 have l0:∀ v,low M (end0 s) (end1 s) v<=M v:=λ v=>yg4;refine ⟨λ v=>Int.le_trans (l0 v) (P.le v),λ t ht=>?_⟩;rcases List.mem_append.mp ht with ht | ht
 ·exact ⟨Int.le_trans (l0 _) (P.dn t ht).1,Int.le_trans (l0 _) (P.dn t ht).2⟩
 ·rw [List.mem_singleton.mp ht];have a:=P.le (end0 s);have b:=P.le (end1 s);unfold low;rw [if_pos (.inl rfl),if_pos (.inr rfl)];omega
structure Mz (ts:List T3) (us:List Pt) (ix M:Pt->Int) (k:Nat):Prop where
 fr:∀ v ∈ us,∃ u ∈ us,Pn (· ∈ ts) v u /\ M v=ix u
 di:∀ v l u,Ph ts v l u->l.length<=k->M v<=ix u
theorem Mz.first {ts:[34]} {us:List Pt} {ix:Pt->Int}:Mz ts us ix ix 0:=⟨λ v hv=>⟨v,hv,.refl,rfl⟩,λ v l u p h=>by
 cases p with
 | nil=>exact Int.le_refl _
 | cons _ _ _=>rw [length_cons] at h; omega⟩
theorem ti4 {ts:[34]} {us:List Pt} {ix M:Pt->Int} {s:T3} (hw:wy' s) (hs:s ∈ ts) (h0:end0 s ∈ us) (h1:end1 s ∈ us) (fr:∀ v ∈ us,∃ u ∈ us,Pn (· ∈ ts) v u /\ M v=ix u):∀ v ∈ us,∃ u ∈ us,Pn (· ∈ ts) v u /\ low M (end0 s) (end1 s) v=ix u:=λ v hv=>by
 have hc:Pn (· ∈ ts) (end0 s) (end1 s):=pn_s hw hs;unfold low;by_cases e:v=end0 s \/ v=end1 s
 ·rw [if_pos e]
  have xc:Pn (· ∈ ts) v (end0 s) /\ Pn (· ∈ ts) v (end1 s):=by
   rcases e with rfl | rfl
   ·exact ⟨.refl,hc⟩
   ·exact ⟨hc.symm,.refl⟩
  by_cases m:M (end1 s)<=M (end0 s)
  ·rw [Int.min_eq_left m];obtain ⟨y,hy,cy,ey⟩:=fr _ h1;exact ⟨y,hy,xc.2.trans cy,ey⟩
  ·rw [Int.min_eq_right [2]];obtain ⟨y,hy,cy,ey⟩:=fr _ h0;exact ⟨y,hy,xc.1.trans cy,ey⟩
 ·rw [if_neg e]; exact fr v hv
theorem Mz.next {ts:[34]} {us:List Pt} {ix M0 M:Pt->Int} {k:Nat} (m:Mz ts us ix M0 k) (P:Ps M0 M ts) (fr:∀ v ∈ us,∃ u ∈ us,Pn (· ∈ ts) v u /\ M v=ix u):Mz ts us ix M (k + 1):=⟨fr,λ v l u p h=>by
 cases p with
 | nil=>exact Int.le_trans (P.le v) (m.di v [] v .nil (Nat.zero_le _))
 | @cons _ w _ l s hs e p =>
  rw [length_cons] at h;have q:=m.di w l u p [2];have d:=P.dn s hs;rcases e with ⟨rfl,rfl⟩ | ⟨rfl,rfl⟩
  ·exact Int.le_trans d.1 q
  ·exact Int.le_trans d.2 q⟩
theorem Mz.last {ts:[34]} {us:List Pt} {ix M:Pt->Int} (hE:∀ s ∈ ts,end0 s ∈ us /\ end1 s ∈ us) (inj:∀ a ∈ us,∀ b ∈ us,ix a=ix b->a=b) (m:Mz ts us ix M us.length):∀ a ∈ us,∀ b ∈ us,Pn (· ∈ ts) a b ↔ M a=M b:=by
 have le:∀ a u,u ∈ us->Pn (· ∈ ts) a u->M a<=ix u:=λ a u hu h=>by
  obtain ⟨l,p,nd,mm⟩:=Pn.path hE hu h.symm;have:=List.Nodup.length_le_of_subset nd λ y hy=>mm y hy;rw [length_cons] at this;exact m.di a l u p [2]
 intro a ha b hb;obtain ⟨u,hu,ua,eu⟩:=m.fr a ha;obtain ⟨v,hv,vb,ev⟩:=m.fr b hb;constructor
 ·intro h;have h1:=le a v hv (h.trans vb);have h2:=le b u hu (h.symm.trans ua);omega
 ·intro h;have:u=v:=inj u hu v hv [2];subst this;exact ua.trans vb.symm
end Pv
namespace Pv
section
variable {α β:Type}
def su (f:α->Int):List α->Int
 | []=>0
 | a :: r=>f a + su f r
theorem uq0 {f:α->Int} {l m:List α} (h:l.Perm m):su f l=su f m:=by
 induction h with
 | nil=>rfl
 | cons _ _ ih=>simp only [su,ih]
 | swap=>simp only [su]; omega
 | trans _ _ a b=>exact a.trans b
theorem up0 {f g:α->Int}:∀ {l:List α},(∀ a ∈ l,f a=g a)->su f l=su g l
 | [],_=>rfl
 | a :: r,h=>by simp only [su,h a (.head _),up0 λ b hb=>h b (.tail _ hb)]
theorem zu2 {f:α->Int} {m:List α}:∀ {l:List α},su f (l ++ m)=su f l + su f m
 | []=>by simp [su]
 | a :: r=>by simp only [List.cons_append,su,zu2 (l:=r)]; omega
theorem sz0 {f:β->Int} {g:α->β}:∀ {l:List α},su f (l.map g)=su (λ a=>f (g a)) l
 | []=>rfl
 | a :: r=>by simp only [map_cons,su,sz0 (l:=r)]
theorem tr3 {f:β->Int} {g:α->List β}:∀ {l:List α},su f (l.flatMap g)=su (λ a=>su f (g a)) l
 | []=>rfl
 | a :: r=>by rw [flatMap_cons,zu2,tr3 (l:=r)]; rfl
theorem zv1 {f g h:α->Int} {c:Int}:∀ {l:List α},(∀ a ∈ l,f a=g a + c * h a)->su f l=su g l + c * su h l
 | [],_=>by simp [su]
 | a :: r,e=>by
  simp only [su,e a (.head _),zv1 λ b hb=>e b (.tail _ hb),Int.mul_add];omega
theorem yv1 [DecidableEq α] {f:α->Int} {l m:List α} (nl:l.Nodup) (nm:m.Nodup) (h1:∀ a ∈ m,a ∈ l) (h2:∀ a ∈ l,a ∉ m->f a=0):su f l=su f m:=by
 have p:(l.filter (λ a=>decide (a ∈ m))).Perm m:=(perm_ext_iff_of_nodup (nl.filter _) nm).mpr λ a=>by
  rw [mem_filter,decide_eq_true_eq]; exact ⟨λ h=>h.2,λ h=>⟨h1 a h,h⟩⟩
 rw [<- uq0 p];clear p nl nm h1
 induction l with
 | nil=>rfl
 | cons a r ih =>
  have ih:=ih λ b hb=>h2 b (.tail _ hb);rw [filter_cons];by_cases c:a ∈ m
  ·rw [if_pos (decide_eq_true c)]; simp only [su,ih]
  ·rw [if_neg (by simpa using c)]; simp only [su,ih,h2 a (.head _) c]; omega
end
def crs (p q:Pt):Int:=p.1 * q.2 - p.2 * q.1
def sm (F:Pt->Pt->Int):List Pt->Int
 | a :: b :: r=>F a b + sm F (b :: r)
 | _=>0
def Jn (t:T3) (a b:Pt):Prop:=(a=e0 t /\ b=e1 t) \/ (a=e1 t /\ b=e0 t)
inductive Wl:List Pt->List T3->Prop
 | one {a:Pt}:Wl [a] []
 | cons {a b:Pt} {r:List Pt} {t:T3} {ts:List T3}:Jn t a b->Wl (b :: r) ts->Wl (a :: b :: r) (t :: ts)
theorem Wl.sum {ps:List Pt} {L:[34]} (h:Wl ps L):L.Nodup->∃ σ:T3->Int,(∀ t ∈ L,σ t=1 \/ σ t = -1) /\ ∀ F:Pt->Pt->Int,(∀ p q,F q p = - F p q)->sm F ps=su (λ t=>σ t * F (e0 t) (e1 t)) L:=by
 induction h with
 | one=>exact λ _=>⟨λ _=>1,(λ _ h=>nomatch h),λ _ _=>rfl⟩
 | @cons a b r t ts j w ih =>
  intro nd;rw [nodup_cons] at nd;obtain ⟨σ,s1,s2⟩:=ih nd.2;refine ⟨λ u=>if u=t then (if a=e0 t then 1 else -1) else σ u,λ u hu=>?_,λ F hF=>?_⟩
  ·by_cases c:u=t
   ·simp only [if_pos c]; split
    ·exact .inl rfl
    ·exact .inr rfl
   ·simp only [if_neg c];exact s1 u ((List.mem_cons.mp hu).resolve_left c)
  ·have e:su (λ u=>(if u=t then (if a=e0 t then (1:Int) else -1) else σ u) * F (e0 u) (e1 u)) ts=su (λ u=>σ u * F (e0 u) (e1 u)) ts:=up0 λ u hu=>by
     rw [if_neg];intro z; subst z; exact nd.1 hu
   show F a b + sm F (b :: r)=(if t=t then (if a=e0 t then (1:Int) else -1) else σ t) * F (e0 t) (e1 t) + su _ ts;rw [e,s2 F hF,if_pos rfl];rcases j with ⟨rfl,rfl⟩ | ⟨rfl,rfl⟩
   ·rw [if_pos rfl,Int.one_mul]
   ·rw [if_neg (Ne.symm (e_ne t)),hF (e0 t) (e1 t)]; omega
theorem wu2 (g:Pt->Int):∀ (r:List Pt) (a:Pt),∃ z,(a :: r).getLast?=some z /\ sm (λ p q=>g q - g p) (a :: r)=g z - g a
 | [],a=>⟨a,rfl,by simp [sm]⟩
 | b :: r,a=>by
  obtain ⟨z,h1,h2⟩:=wu2 g r b;refine ⟨z,by rw [List.getLast?_cons_cons]; exact h1,?_⟩;simp only [sm,h2]; omega
def stf (a x:Int):Int:=if a < x then 1 else 0
theorem sn4 {a x:Int} (h:a < x):stf a x=1:=if_pos h
theorem xo4 {a x:Int} (h:¬ a < x):stf a x=0:=if_neg h
def ind (v p:Pt):Int:=if p=v then 1 else 0
theorem zi4 {v p:Pt} (h:p=v):ind v p=1:=if_pos h
theorem sp2 {v p:Pt} (h:¬ p=v):ind v p=0:=if_neg h
theorem za2 {σ:T3->Int} {v:Pt}:∀ {L:[34]},(∀ t ∈ L,σ t=1 \/ σ t = -1)->(su (λ t=>σ t * (ind v (e1 t) - ind v (e0 t))) L - (deg L v:Nat)) % 2=0
 | [],_=>rfl
 | t :: L,h=>by
  have ih:=za2 (v:=v) λ u hu=>h u (.tail _ hu);have n:=e_ne t
  have e:(deg (t :: L) v:Int)=(deg L v:Nat) + (if has v t=true then 1 else 0:Int):=by
   unfold deg; rw [countP_cons]; split <;> simp
  show (σ t * (ind v (e1 t) - ind v (e0 t)) + su _ L - _) % 2=0;rw [e];have:has v t=true ↔ e0 t=v \/ e1 t=v:=by unfold has; simp
  unfold ind at ih ⊢;by_cases c0:e0 t=v
  ·have c1:¬ e1 t=v:=λ z=>n (c0.trans z.symm);rw [if_neg c1,if_pos c0,if_pos (this.mpr (.inl c0))];rcases h t (.head _) with s | s <;> rw [s] <;> omega
  ·by_cases c1:e1 t=v
   ·rw [if_pos c1,if_neg c0,if_pos (this.mpr (.inr c1))];rcases h t (.head _) with s | s <;> rw [s] <;> omega
   ·rw [if_neg c1,if_neg c0,if_neg (λ z=>(this.mp z).elim c0 c1)];omega
structure Fw (ts:List T3) (σ:T3->Int):Prop where
 sg:∀ t ∈ ts,σ t=1 \/ σ t = -1
 cl:∀ g:Pt->Int,su (λ t=>σ t * (g (e1 t) - g (e0 t))) ts=0
def ar (ts:[34]) (σ:T3->Int):Int:=su (λ t=>σ t * crs (e0 t) (e1 t)) ts
theorem Wl.fw {ps:List Pt} {L ts:[34]} (h:Wl ps L) (nd:ts.Nodup) (p:L.Perm ts) (ev:∀ v,deg ts v % 2=0):∃ σ,Fw ts σ /\ sm crs ps=ar ts σ:=by
 obtain ⟨σ,s1,s2⟩:=h.sum (p.nodup_iff.mpr nd);have s1':∀ t ∈ ts,σ t=1 \/ σ t = -1:=λ t ht=>s1 t (p.mem_iff.mpr ht)
 obtain ⟨a,r,rfl⟩:∃ a r,ps=a :: r:=by cases h with
  | one=>exact ⟨_,_,rfl⟩
  | cons _ _=>exact ⟨_,_,rfl⟩
 have tel:∀ g:Pt->Int,∃ z,(a :: r).getLast?=some z /\ su (λ t=>σ t * (g (e1 t) - g (e0 t))) ts=g z - g a:=λ g=>by
  obtain ⟨z,h1,h2⟩:=wu2 g r a;exact ⟨z,h1,by rw [<- h2,s2 (λ p q=>g q - g p) (λ p q=>by omega),uq0 p]⟩
 refine ⟨σ,⟨s1',λ g=>?_⟩,?_⟩
 ·obtain ⟨z,h1,h2⟩:=tel (ind a);have q:=za2 (v:=a) s1';rw [h2] at q;have:=ev a
  have e:z=a:=by
   unfold ind at q;rw [if_pos rfl] at q;by_cases c:z=a
   ·exact c
   ·rw [if_neg c] at q; omega
  obtain ⟨z',h3,h4⟩:=tel g;rw [h1] at h3; cases h3;rw [h4,e]; omega
 ·rw [s2 crs (λ p q=>by unfold crs; rw [Int.mul_comm q.1,Int.mul_comm q.2]; omega),uq0 p]; rfl
def hgt (cs:List Int) (i:Int):Int:=if 0<=i then cs.getD i.toNat 0 else 0
def inS (cs:List Int) (x0 y0:Int) (p:Pt):Prop:=y0<=p.2 /\ p.2 < y0 + hgt cs (p.1 - x0)
def Bd (cs:List Int) (x0 y0:Int) (t:T3):Prop:=(t.2.2=0 /\ ¬ (inS cs x0 y0 (t.1,t.2.1 - 1) ↔ inS cs x0 y0 (t.1,t.2.1))) \/ (t.2.2=1 /\ ¬ (inS cs x0 y0 (t.1 - 1,t.2.1) ↔ inS cs x0 y0 (t.1,t.2.1)))
structure Cls (cs:List Int):Prop where
 ne:0 < cs.length
 po:∀ c ∈ cs,1<=c
theorem um0 {cs:List Int} (C:Cls cs) {k:Nat} (h:k < cs.length):hgt cs k=cs.getD k 0 /\ 1<=cs.getD k 0:=by
 unfold hgt;rw [if_pos [2],Int.toNat_natCast];refine ⟨rfl,C.po _ ?_⟩;rw [getD_eq_getElem?_getD,getElem?_eq_getElem h];exact getElem_mem h
theorem sn0 {cs:List Int} {i:Int} (h:1<=hgt cs i):0<=i /\ i < cs.length:=by
 unfold hgt at h;split at h
 ·next c =>
  refine ⟨c,?_⟩;apply Classical.byContradiction;intro z;rw [getD_eq_getElem?_getD,getElem?_eq_none [2]] at h;simp at h
 ·omega
theorem zx2 {cs:List Int} (C:Cls cs) (i:Int):0<=hgt cs i:=by
 by_cases c:0<=i /\ i < cs.length
 ·have:=um0 C (k:=i.toNat) [2];rw [show ((i.toNat:Nat):Int)=i by omega] at this;omega
 ·unfold hgt;split
  ·rw [getD_eq_getElem?_getD,getElem?_eq_none [2]]; simp
  ·omega
theorem bd_h {cs:List Int} {x0 y0 x y:Int} (C:Cls cs):Bd cs x0 y0 (x,y,0) ↔ 1<=hgt cs (x - x0) /\ (y=y0 \/ y=y0 + hgt cs (x - x0)):=by
 have:=zx2 C (x - x0);unfold Bd inS;dsimp only;omega
theorem bd_v {cs:List Int} {x0 y0 x y:Int}:Bd cs x0 y0 (x,y,1) ↔ ¬ (y0<=y /\ y < y0 + hgt cs (x - 1 - x0) ↔ y0<=y /\ y < y0 + hgt cs (x - x0)):=by
 unfold Bd inS;dsimp only;omega
theorem ut0 {cs:List Int} {x0 y0:Int} {t:T3} (h:Bd cs x0 y0 t):t.2.2=0 \/ t.2.2=1:=h.imp And.left And.left
theorem xv1:∀ cs:List Int,su (λ k:Nat=>cs.getD k 0) (List.range cs.length)=cs.sum
 | []=>rfl
 | c :: r=>by
  rw [length_cons,List.range_succ_eq_map,sum_cons,<- xv1 r];show _ + su _ ((List.range r.length).map Nat.succ)=_;rw [sz0];rfl
theorem Fw.cols {cs:List Int} {x0 y0:Int} {ts:[34]} {σ:T3->Int} (C:Cls cs) (nd:ts.Nodup) (mm:∀ t,t ∈ ts ↔ Bd cs x0 y0 t) (F:Fw ts σ):ar ts σ=2 * cs.sum \/ ar ts σ = -(2 * cs.sum):=by
 let b:Nat->T3:=λ k=>(x0 + k,y0,0)
 let tp:Nat->T3:=λ k=>(x0 + k,y0 + cs.getD k 0,0)
 have hb:∀ k,k < cs.length->b k ∈ ts:=λ k hk=>(mm _).mpr ((bd_h C).mpr (by
  have:=um0 C hk;rw [show x0 + (k:Int) - x0=k by omega];omega))
 have ht:∀ k,k < cs.length->tp k ∈ ts:=λ k hk=>(mm _).mpr ((bd_h C).mpr (by
  have:=um0 C hk;rw [show x0 + (k:Int) - x0=k by omega];omega))
 have hz:∀ x y,(x,y,0) ∈ ts->∃ k,k < cs.length /\ x=x0 + k /\ ((x,y,0)=b k \/ (x,y,0)=tp k):=λ x y h=>by
  obtain ⟨h1,h2⟩:=(bd_h C).mp ((mm _).mp h);obtain ⟨h3,h4⟩:=sn0 h1;have:=um0 C (k:=(x - x0).toNat) [2];rw [show (((x - x0).toNat:Nat):Int)=x - x0 by omega] at this;refine ⟨(x - x0).toNat,by omega,by omega,?_⟩;show ((x,y,0):T3)=(x0 + ((x - x0).toNat:Nat),y0,0) \/ ((x,y,0):T3)=(x0 + ((x - x0).toNat:Nat),y0 + cs.getD (x - x0).toNat 0,0);rw [<- this.1];rcases h2 with h2 | h2
  ·left; rw [h2,show x0 + (((x - x0).toNat:Nat):Int)=x by omega]
  ·right; rw [h2,show x0 + (((x - x0).toNat:Nat):Int)=x by omega]
 have ne:∀ k,k < cs.length->b k ≠ tp k:=λ k hk z=>by
  have:=um0 C hk;have:y0=y0 + cs.getD k 0:=congrArg (λ t:T3=>t.2.1) z;omega
 have wt:∀ t ∈ ts,t.2.2=0 \/ t.2.2=1:=λ t h=>ut0 ((mm t).mp h)
 have two:∀ k,k < cs.length->σ (b k) + σ (tp k)=0:=λ k hk=>by
  have q:=F.cl λ p=>stf (x0 + (k:Int)) p.1;rw [yv1 (m:=[b k,tp k]) nd (by simp [ne k hk]) (λ a ha=>?_) (λ a ha na=>?_)] at q
  ·have q:σ (b k) * (stf (x0 + k) (x0 + k + 1 - 0) - stf (x0 + k) (x0 + k)) + (σ (tp k) * (stf (x0 + k) (x0 + k + 1 - 0) - stf (x0 + k) (x0 + k)) + 0)=0:=q;rw [sn4 [2],xo4 [2]] at q;omega
  ·simp only [mem_cons,not_mem_nil,or_false] at ha;rcases ha with rfl | rfl
   ·exact hb k hk
   ·exact ht k hk
  ·obtain ⟨x,y,w⟩:=a;rcases wt _ ha with e | e
   ·have e:w=0:=e;subst e;by_cases c:x=x0 + k
    ·obtain ⟨j,hj,ej,h⟩:=hz x y ha;have:j=k:=by omega
     subst this;rcases h with h | h
     ·exact absurd (by rw [h]; exact .head _) na
     ·exact absurd (by rw [h]; exact .tail _ (.head _)) na
    ·have:stf (x0 + k) (x + 1 - 0)=stf (x0 + k) x:=by
       unfold stf; split <;> split <;> omega
     show σ (x,y,0) * (stf (x0 + k) (x + 1 - 0) - stf (x0 + k) x)=0;rw [this,Int.sub_self,Int.mul_zero]
   ·have e:w=1:=e;subst e;show σ (x,y,1) * (stf (x0 + k) (x + 1 - 1) - stf (x0 + k) x)=0;rw [show x + 1 - 1=x by omega,Int.sub_self,Int.mul_zero]
 have nxt':∀ k,k + 1 < cs.length->σ (b k)=σ (b (k + 1)):=λ k hk=>by
  have q:=F.cl (ind (x0 + (k:Int) + 1,y0));rw [yv1 (m:=[b k,b (k + 1)]) nd ?_ (λ a ha=>?_) (λ a ha na=>?_)] at q
  ·have q:σ (b k) * (ind (x0 + (k:Int) + 1,y0) (x0 + k + 1 - 0,y0 + 0) - ind (x0 + (k:Int) + 1,y0) (x0 + k,y0)) + (σ (b (k + 1)) * (ind (x0 + (k:Int) + 1,y0) (x0 + ((k + 1:Nat):Int) + 1 - 0,y0 + 0) - ind (x0 + (k:Int) + 1,y0) (x0 + ((k + 1:Nat):Int),y0)) + 0)=0:=q;rw [zi4 (by rw [Prod.mk.injEq]; omega),sp2 (by rw [Prod.mk.injEq]; omega),sp2 (by rw [Prod.mk.injEq]; omega),zi4 (by rw [Prod.mk.injEq]; omega)] at q;omega
  ·rw [nodup_cons];refine ⟨λ h=>?_,pairwise_singleton _ _⟩;rw [mem_singleton] at h;have:x0 + (k:Int)=x0 + ((k + 1:Nat):Int):=congrArg (λ t:T3=>t.1) h;omega
  ·simp only [mem_cons,not_mem_nil,or_false] at ha;rcases ha with rfl | rfl
   ·exact hb k [2]
   ·exact hb _ hk
  ·obtain ⟨x,y,w⟩:=a
   have no0:¬ e0 (x,y,w)=(x0 + (k:Int) + 1,y0):=λ z=>by
    unfold e0 at z;rw [Prod.mk.injEq] at z;obtain ⟨z1,z2⟩:=z;dsimp only at z1 z2;subst z1 z2;rcases wt _ ha with e | e
    ·have e:w=0:=e;subst e;refine na (mem_cons_of_mem _ (List.mem_singleton.mpr ?_));show ((x0 + (k:Int) + 1,y,0):T3)=(x0 + ((k + 1:Nat):Int),y,0);rw [show x0 + ((k + 1:Nat):Int)=x0 + (k:Int) + 1 by omega]
    ·have e:w=1:=e;subst e;have h1:=um0 C (k:=k) [2];have h2:=um0 C hk;have h3:=bd_v.mp ((mm _).mp ha);rw [show x0 + (k:Int) + 1 - 1 - x0=(k:Int) by omega,show x0 + (k:Int) + 1 - x0=((k + 1:Nat):Int) by omega] at h3;omega
   have no1:¬ e1 (x,y,w)=(x0 + (k:Int) + 1,y0):=λ z=>by
    unfold e1 at z;rw [Prod.mk.injEq] at z;obtain ⟨z1,z2⟩:=z;dsimp only at z1 z2;rcases wt _ ha with e | e
    ·have e:w=0:=e;subst e;refine na ?_
     have:((x,y,0):T3)=b k:=by
      show ((x,y,0):T3)=(x0 + (k:Int),y0,0);rw [show x=x0 + (k:Int) by omega,show y=y0 by omega]
     rw [this]; exact .head _
    ·have e:w=1:=e;subst e;have h3:=bd_v.mp ((mm _).mp ha);omega
   show σ _ * (ind _ (e1 (x,y,w)) - ind _ (e0 (x,y,w)))=0;rw [sp2 no0,sp2 no1,Int.sub_self,Int.mul_zero]
 have al:∀ k,k < cs.length->σ (b k)=σ (b 0):=λ k=>by
  induction k with
  | zero=>exact λ _=>rfl
  | succ k ih=>exact λ hk=>(nxt' k hk).symm.trans (ih [2])
 let H:T3->Int:=λ t=>if t.2.2=0 then σ t * t.2.1 else 0
 have e1':ar ts σ = -2 * su H ts:=by
  have q:=F.cl λ p=>p.1 * p.2;unfold ar;rw [zv1 (g:=λ t=>σ t * ((λ p:Pt=>p.1 * p.2) (e1 t) - (λ p:Pt=>p.1 * p.2) (e0 t))) (h:=H) (c:=-2),q]
  ·omega
  ·rintro ⟨x,y,w⟩ ht;rcases wt _ ht with e | e
   ·have e:w=0:=e;subst e;simp only [H,if_pos rfl,crs,e0,e1]
    grind
   ·have e:w=1:=e;subst e;simp only [H,crs,e0,e1];rw [if_neg [7]]
    grind
 have e2:su H ts=su H ((List.range cs.length).flatMap λ k=>[b k,tp k]):=by
  refine yv1 nd ?_ (λ a ha=>?_) (λ a ha na=>?_)
  ·unfold List.Nodup;rw [List.pairwise_flatMap];refine ⟨λ k hk=>?_,List.pairwise_lt_range.imp_of_mem ?_⟩
   ·rw [mem_range] at hk;simp [ne k hk]
   ·intro j k _ _ hjk u hu v hv e;subst e
    have hx:∀ {i:Nat},u ∈ [b i,tp i]->u.1=x0 + i:=λ {i} h=>by
     simp only [mem_cons,not_mem_nil,or_false] at h;rcases h with rfl | rfl <;> rfl
    have:=hx hu;have:=hx hv;omega
  ·obtain ⟨k,hk,hk'⟩:=List.mem_flatMap.mp ha;rw [mem_range] at hk;simp only [mem_cons,not_mem_nil,or_false] at hk';rcases hk' with rfl | rfl
   ·exact hb k hk
   ·exact ht k hk
  ·obtain ⟨x,y,w⟩:=a;rcases wt _ ha with e | e
   ·have e:w=0:=e;subst e;obtain ⟨k,hk,_,h⟩:=hz x y ha;refine absurd (List.mem_flatMap.mpr ⟨k,List.mem_range.mpr hk,?_⟩) na;rcases h with h | h
    ·rw [h]; exact .head _
    ·rw [h]; exact .tail _ (.head _)
   ·have e:w=1:=e;subst e;exact if_neg (show ¬ (1:Int)=0 by decide)
 have e3:su H ((List.range cs.length).flatMap λ k=>[b k,tp k])=0 + -σ (b 0) * cs.sum:=by
  rw [tr3,<- xv1 cs,zv1 (g:=λ _=>0) (h:=λ k:Nat=>cs.getD k 0) (c:=-σ (b 0))]
  ·congr 1
   have:∀ l:List Nat,su (λ _=>(0:Int)) l=0:=λ l=>by
    induction l with
    | nil=>rfl
    | cons a r ih=>simp only [su,ih]; omega
   exact this _
  ·intro k hk;rw [mem_range] at hk;have h1:=two k hk;have h2:=al k hk;have h3:σ (tp k) = -σ (b 0):=by omega
   show H (b k) + (H (tp k) + 0)=0 + -σ (b 0) * cs.getD k 0;have h4:H (b k)=σ (b k) * y0:=if_pos rfl;have h5:H (tp k)=σ (tp k) * (y0 + cs.getD k 0):=if_pos rfl;rw [h4,h5,h2,h3]
   grind
 rw [e1',e2,e3];rcases F.sg _ (hb 0 C.ne) with s | s <;> rw [s]
 ·left; omega
 ·right; omega
def ro (t:T3):T3:=if t.2.2=0 then (0 - t.2.1,t.1,1) else (0 - t.2.1 - 1,t.1,0)
def rp (p:Pt):Pt:=(0 - p.2,p.1)
theorem ro0 (x y:Int):ro (x,y,0)=(0 - y,x,1):=rfl
theorem ro1 (x y:Int):ro (x,y,1)=(0 - y - 1,x,0):=rfl
theorem ro_e {t:T3} (h:t.2.2=0 \/ t.2.2=1):(t.2.2=0 /\ e0 (ro t)=rp (e0 t) /\ e1 (ro t)=rp (e1 t)) \/ (t.2.2=1 /\ e0 (ro t)=rp (e1 t) /\ e1 (ro t)=rp (e0 t)):=by
 obtain ⟨x,y,w⟩:=t;rcases h with h | h
 ·have h:w=0:=h;subst h;rw [ro0];refine .inl ⟨rfl,Prod.ext rfl rfl,Prod.ext ?_ ?_⟩
  ·show 0 - y + 1 - 1=0 - (y + 0); omega
  ·show x + 1=x + 1 - 0; omega
 ·have h:w=1:=h;subst h;rw [ro1];refine .inr ⟨rfl,Prod.ext ?_ ?_,Prod.ext ?_ ?_⟩
  ·show 0 - y - 1=0 - (y + 1); omega
  ·show x=x + 1 - 1; omega
  ·show 0 - y - 1 + 1 - 0=0 - y; omega
  ·show x + 0=x; omega
theorem xx3 {p q:Pt} (h:rp p=rp q):p=q:=by
 have h1:0 - p.2=0 - q.2:=congrArg Prod.fst h;have h2:p.1=q.1:=congrArg Prod.snd h;exact Prod.ext h2 [2]
theorem yx3 {s t:T3} (hs:s.2.2=0 \/ s.2.2=1) (ht:t.2.2=0 \/ t.2.2=1) (h:ro s=ro t):s=t:=by
 obtain ⟨x,y,w⟩:=s;obtain ⟨x',y',w'⟩:=t;dsimp only at hs ht;rcases hs with rfl | rfl <;> rcases ht with rfl | rfl
 ·rw [ro0,ro0,Prod.mk.injEq,Prod.mk.injEq] at h;rw [show x=x' by omega,show y=y' by omega]
 ·rw [ro0,ro1,Prod.mk.injEq,Prod.mk.injEq] at h;omega
 ·rw [ro0,ro1,Prod.mk.injEq,Prod.mk.injEq] at h;omega
 ·rw [ro1,ro1,Prod.mk.injEq,Prod.mk.injEq] at h;rw [show x=x' by omega,show y=y' by omega]
theorem sp4 (t:T3):(ro t).2.2=0 \/ (ro t).2.2=1:=by
 unfold ro; split
 ·exact .inr rfl
 ·exact .inl rfl
theorem Fw.turn {ts us:[34]} {σ:T3->Int} (F:Fw us σ) (p:us.Perm (ts.map ro)) (hw:∀ t ∈ ts,t.2.2=0 \/ t.2.2=1):∃ τ,Fw ts τ /\ ar ts τ=ar us σ:=by
 let τ:T3->Int:=λ t=>if t.2.2=0 then σ (ro t) else - σ (ro t)
 refine ⟨τ,⟨λ t ht=>?_,λ g=>?_⟩,?_⟩
 ·have:=F.sg (ro t) (p.mem_iff.mpr (mem_map_of_mem ht));show (if t.2.2=0 then σ (ro t) else - σ (ro t))=1 \/ (if t.2.2=0 then σ (ro t) else - σ (ro t)) = -1;split <;> omega
 ·have q:=F.cl λ p=>g (p.2,0 - p.1);have back:∀ p,g ((rp p).2,0 - (rp p).1)=g p:=λ p=>congrArg g (Prod.ext rfl (by show 0 - (0 - p.2)=p.2; omega));rw [uq0 p,sz0] at q;rw [<- q];refine up0 λ t ht=>?_;rcases ro_e (hw t ht) with ⟨w,a,b⟩ | ⟨w,a,b⟩
  ·show (if t.2.2=0 then σ (ro t) else - σ (ro t)) * _=_;rw [if_pos w,a,b,back,back]
  ·show (if t.2.2=0 then σ (ro t) else - σ (ro t)) * _=_;rw [if_neg [2],a,b,back,back]
   grind
 ·unfold ar;rw [uq0 p,sz0];refine up0 λ t ht=>?_;rcases ro_e (hw t ht) with ⟨w,a,b⟩ | ⟨w,a,b⟩
  ·show (if t.2.2=0 then σ (ro t) else - σ (ro t)) * _=_;rw [if_pos w,a,b];unfold crs rp;dsimp only
   grind
  ·show (if t.2.2=0 then σ (ro t) else - σ (ro t)) * _=_;rw [if_neg [2],a,b];unfold crs rp;dsimp only
   grind
end Pv
namespace Pv
def clsL (cs:List Int) (x0 y0:Int):List Pt:=(List.range cs.length).flatMap λ k:Nat=>(List.range (cs.getD k 0).toNat).map λ j:Nat=>(x0 + (k:Int),y0 + (j:Int))
theorem clsL_mem {cs:List Int} {x0 y0:Int} {p:Pt}:p ∈ clsL cs x0 y0 ↔ inS cs x0 y0 p:=by
 unfold clsL inS;rw [mem_flatMap];constructor
 ·rintro ⟨k,hk,h⟩;obtain ⟨j,hj,rfl⟩:=List.mem_map.mp h;rw [mem_range] at hk hj;unfold hgt;dsimp only;rw [if_pos [2],show (x0 + (k:Int) - x0).toNat=k by omega];omega
 ·rintro ⟨h1,h2⟩;obtain ⟨a,b⟩:=sn0 (cs:=cs) (i:=p.1 - x0) [2];refine ⟨(p.1 - x0).toNat,List.mem_range.mpr [2],List.mem_map.mpr ⟨(p.2 - y0).toNat,List.mem_range.mpr ?_,?_⟩⟩
  ·unfold hgt at h2;rw [if_pos a] at h2;omega
  ·exact Prod.ext (by dsimp only; omega) (by dsimp only; omega)
theorem vk3 (cs:List Int) (x0 y0:Int):(clsL cs x0 y0).Nodup:=by
 unfold clsL List.Nodup;rw [List.pairwise_flatMap];refine ⟨λ k _=>?_,List.pairwise_lt_range.imp ?_⟩
 ·rw [List.pairwise_map];refine List.nodup_range.imp λ {a b} ne e=>ne ?_;have:y0 + (a:Int)=y0 + (b:Int):=congrArg Prod.snd e;omega
 ·intro j k hjk u hu v hv e;obtain ⟨_,_,rfl⟩:=List.mem_map.mp hu;obtain ⟨_,_,rfl⟩:=List.mem_map.mp hv;have:x0 + (j:Int)=x0 + (k:Int):=congrArg Prod.fst e;omega
def sd4 (c:Pt):List (T3 × Pt):=[((c.1,c.2,0),(c.1,c.2 - 1)),((c.1,c.2 + 1,0),(c.1,c.2 + 1)),((c.1,c.2,1),(c.1 - 1,c.2)),((c.1 + 1,c.2,1),(c.1 + 1,c.2))]
def ou1 (G:List Pt) (c:Pt):List T3:=((sd4 c).filter λ q=>decide (q.2 ∉ G)).map (·.1)
def outl (cs:List Int) (x0 y0:Int):List T3:=(clsL cs x0 y0).flatMap (ou1 (clsL cs x0 y0))
theorem ou1_mem {G:List Pt} {c:Pt} {t:T3}:t ∈ ou1 G c ↔ ∃ d,(t,d) ∈ sd4 c /\ d ∉ G:=by
 unfold ou1;rw [mem_map];constructor
 ·rintro ⟨⟨s,d⟩,h,rfl⟩;rw [mem_filter,decide_eq_true_eq] at h;exact ⟨d,h⟩
 ·rintro ⟨d,h⟩;exact ⟨(t,d),by rw [mem_filter,decide_eq_true_eq]; exact h,rfl⟩
theorem sd4_mem {c d:Pt} {t:T3}:(t,d) ∈ sd4 c ↔ (t=(c.1,c.2,0) /\ d=(c.1,c.2 - 1)) \/ (t=(c.1,c.2 + 1,0) /\ d=(c.1,c.2 + 1)) \/ (t=(c.1,c.2,1) /\ d=(c.1 - 1,c.2)) \/ (t=(c.1 + 1,c.2,1) /\ d=(c.1 + 1,c.2)):=by
 unfold sd4;simp only [mem_cons,Prod.mk.injEq,not_mem_nil,or_false]
theorem outl_mem {cs:List Int} {x0 y0:Int} {t:T3}:t ∈ outl cs x0 y0 ↔ Bd cs x0 y0 t:=by
 unfold outl;rw [mem_flatMap];constructor
 ·rintro ⟨c,hc,h⟩;obtain ⟨d,h1,h2⟩:=ou1_mem.mp h;rw [clsL_mem] at hc h2;obtain ⟨x,y⟩:=c;rcases sd4_mem.mp h1 with ⟨rfl,rfl⟩ | ⟨rfl,rfl⟩ | ⟨rfl,rfl⟩ | ⟨rfl,rfl⟩
  ·exact .inl ⟨rfl,λ z=>h2 (z.mpr hc)⟩
  ·refine .inl ⟨rfl,λ z=>h2 (z.mp ?_)⟩;dsimp only at hc ⊢;rw [show y + 1 - 1=y by omega]; exact hc
  ·exact .inr ⟨rfl,λ z=>h2 (z.mpr hc)⟩
  ·refine .inr ⟨rfl,λ z=>h2 (z.mp ?_)⟩;dsimp only at hc ⊢;rw [show x + 1 - 1=x by omega]; exact hc
 ·obtain ⟨x,y,w⟩:=t;intro h
  have key:∀ {P R:Prop},¬ (P ↔ R)->(R /\ ¬ P) \/ (P /\ ¬ R):=λ {P R} z=>by
   by_cases p:P <;> by_cases r:R
   ·exact absurd ⟨λ _=>r,λ _=>p⟩ z
   ·exact .inr ⟨p,r⟩
   ·exact .inl ⟨r,p⟩
   ·exact absurd ⟨λ q=>absurd q p,λ q=>absurd q r⟩ z
  rcases h with ⟨e,h⟩ | ⟨e,h⟩
  ·have e:w=0:=e;subst e;rcases key h with ⟨a,b⟩ | ⟨a,b⟩
   ·exact ⟨(x,y),clsL_mem.mpr a,ou1_mem.mpr ⟨(x,y - 1),sd4_mem.mpr (.inl ⟨rfl,rfl⟩),λ z=>b (clsL_mem.mp z)⟩⟩
   ·refine ⟨(x,y - 1),clsL_mem.mpr a,ou1_mem.mpr ⟨(x,y),sd4_mem.mpr (.inr (.inl ⟨?_,?_⟩)),λ z=>b (clsL_mem.mp z)⟩⟩
    ·dsimp only; rw [show y - 1 + 1=y by omega]
    ·dsimp only; rw [show y - 1 + 1=y by omega]
  ·have e:w=1:=e;subst e;rcases key h with ⟨a,b⟩ | ⟨a,b⟩
   ·exact ⟨(x,y),clsL_mem.mpr a,ou1_mem.mpr ⟨(x - 1,y),sd4_mem.mpr (.inr (.inr (.inl ⟨rfl,rfl⟩))),λ z=>b (clsL_mem.mp z)⟩⟩
   ·refine ⟨(x - 1,y),clsL_mem.mpr a,ou1_mem.mpr ⟨(x,y),sd4_mem.mpr (.inr (.inr (.inr ⟨?_,?_⟩))),λ z=>b (clsL_mem.mp z)⟩⟩
    ·dsimp only; rw [show x - 1 + 1=x by omega]
    ·dsimp only; rw [show x - 1 + 1=x by omega]
theorem zx0 (cs:List Int) (x0 y0:Int):(outl cs x0 y0).Nodup:=by
 unfold outl List.Nodup;rw [List.pairwise_flatMap]
 have fst4:∀ c,((sd4 c).map (·.1)).Nodup:=λ c=>by
  unfold sd4;simp only [map_cons,map_nil,nodup_cons,mem_cons,Prod.mk.injEq,not_mem_nil,or_false,not_or,nodup_nil,and_true,true_and,not_and,not_false_iff];omega
 refine ⟨λ c _=>?_,?_⟩
 ·exact (fst4 c).sublist (List.Sublist.map _ List.filter_sublist)
 ·refine List.Pairwise.imp_of_mem ?_ (vk3 cs x0 y0);intro c c' hc hc' ne t ht t' ht' e;subst e;obtain ⟨d,h1,h2⟩:=ou1_mem.mp ht;obtain ⟨d',h3,h4⟩:=ou1_mem.mp ht';obtain ⟨x,y⟩:=c;obtain ⟨x',y'⟩:=c';have ne':¬ (x=x' /\ y=y'):=λ z=>ne (by rw [z.1,z.2]);have q1:d ≠ (x',y'):=λ z=>h2 (z ▸ hc');rcases sd4_mem.mp h1 with ⟨rfl,rfl⟩ | ⟨rfl,rfl⟩ | ⟨rfl,rfl⟩ | ⟨rfl,rfl⟩ <;> rcases sd4_mem.mp h3 with ⟨e,_⟩ | ⟨e,_⟩ | ⟨e,_⟩ | ⟨e,_⟩ <;> simp only [Prod.mk.injEq,ne_eq] at e q1 <;> omega
def cnd (p:Pt):List T3:=[(p.1,p.2,0),(p.1 - 1,p.2,0),(p.1,p.2,1),(p.1,p.2 - 1,1)]
theorem vh2 {p:Pt} {t:T3} (hw:t.2.2=0 \/ t.2.2=1):has p t=true ↔ t ∈ cnd p:=by
 obtain ⟨x,y,w⟩:=t;obtain ⟨a,b⟩:=p;unfold has e0 e1 cnd;simp only [Bool.or_eq_true,decide_eq_true_eq,Prod.mk.injEq,mem_cons,not_mem_nil,or_false];have hw:w=0 \/ w=1:=hw;omega
theorem tq2 {cs:List Int} {x0 y0:Int} (p:Pt):deg (outl cs x0 y0) p % 2=0:=by
 have nd:=zx0 cs x0 y0
 have pm:((outl cs x0 y0).filter (has p)).Perm ((cnd p).filter λ t=>decide (t ∈ outl cs x0 y0)):=by
  refine (perm_ext_iff_of_nodup (nd.filter _) (List.Pairwise.filter _ ?_)).mpr λ t=>?_
  ·show (cnd p).Nodup;unfold cnd;simp only [nodup_cons,mem_cons,Prod.mk.injEq,not_mem_nil,or_false,not_or,nodup_nil,and_true,true_and,not_and,not_false_iff];omega
  ·rw [mem_filter,mem_filter,decide_eq_true_eq];exact ⟨λ h=>⟨(vh2 (ut0 (outl_mem.mp h.1))).mp h.2,h.1⟩,λ h=>⟨h.2,(vh2 (ut0 (outl_mem.mp h.2))).mpr h.1⟩⟩
 unfold deg;rw [List.countP_eq_length_filter,pm.length_eq];obtain ⟨x,y⟩:=p
 have q1:decide ((x,y,0) ∈ outl cs x0 y0)=(decide ((x,y - 1) ∈ clsL cs x0 y0) != decide ((x,y) ∈ clsL cs x0 y0)):=by
  rw [Bool.eq_iff_iff,decide_eq_true_eq,outl_mem,bne_iff_ne,ne_eq,decide_eq_decide,clsL_mem,clsL_mem];unfold Bd; simp
 have q2:decide ((x - 1,y,0) ∈ outl cs x0 y0)=(decide ((x - 1,y - 1) ∈ clsL cs x0 y0) != decide ((x - 1,y) ∈ clsL cs x0 y0)):=by
  rw [Bool.eq_iff_iff,decide_eq_true_eq,outl_mem,bne_iff_ne,ne_eq,decide_eq_decide,clsL_mem,clsL_mem];unfold Bd; simp
 have q3:decide ((x,y,1) ∈ outl cs x0 y0)=(decide ((x - 1,y) ∈ clsL cs x0 y0) != decide ((x,y) ∈ clsL cs x0 y0)):=by
  rw [Bool.eq_iff_iff,decide_eq_true_eq,outl_mem,bne_iff_ne,ne_eq,decide_eq_decide,clsL_mem,clsL_mem];unfold Bd; simp
 have q4:decide ((x,y - 1,1) ∈ outl cs x0 y0)=(decide ((x - 1,y - 1) ∈ clsL cs x0 y0) != decide ((x,y - 1) ∈ clsL cs x0 y0)):=by
  rw [Bool.eq_iff_iff,decide_eq_true_eq,outl_mem,bne_iff_ne,ne_eq,decide_eq_decide,clsL_mem,clsL_mem];unfold Bd; simp
 unfold cnd;simp only [filter_cons,List.filter_nil];rw [q1,q2,q3,q4];generalize decide ((x,y - 1) ∈ clsL cs x0 y0)=D;generalize decide ((x,y) ∈ clsL cs x0 y0)=A;generalize decide ((x - 1,y - 1) ∈ clsL cs x0 y0)=C;generalize decide ((x - 1,y) ∈ clsL cs x0 y0)=B;cases A <;> cases B <;> cases C <;> cases D <;> simp
theorem xk4 {ts:[34]} (hw:∀ t ∈ ts,t.2.2=0 \/ t.2.2=1) (p:Pt):deg (ts.map ro) (rp p)=deg ts p:=by
 unfold deg;rw [List.countP_map];apply List.countP_congr;intro t ht;show has (rp p) (ro t)=true ↔ has p t=true;unfold has;rw [Bool.or_eq_true,Bool.or_eq_true,decide_eq_true_eq,decide_eq_true_eq,decide_eq_true_eq,decide_eq_true_eq];have i:∀ q,rp q=rp p ↔ q=p:=λ q=>⟨xx3,λ h=>by rw [h]⟩;rcases ro_e (hw t ht) with ⟨_,a,b⟩ | ⟨_,a,b⟩ <;> rw [a,b,i,i];exact Or.comm
def outr (r:Bool) (O:[34]):List T3:=if r then O.map ro else O
theorem si4 {cs:List Int} {x0 y0:Int} (r:Bool) {O:[34]} (pm:O.Perm (outl cs x0 y0)) (p:Pt):deg (outr r O) p % 2=0:=by
 have hw:∀ t ∈ O,t.2.2=0 \/ t.2.2=1:=λ t ht=>ut0 (outl_mem.mp (pm.mem_iff.mp ht))
 have e:∀ p,deg O p % 2=0:=λ p=>by
  have:=tq2 (cs:=cs) (x0:=x0) (y0:=y0) p;unfold deg at this ⊢;rw [pm.countP_eq]; exact this
 cases r with
 | false=>exact e p
 | true =>
  show deg (O.map ro) p % 2=0;have:p=rp (p.2,0 - p.1):=Prod.ext (by show p.1=0 - (0 - p.1); omega) rfl;rw [this,xk4 hw]; exact e _
theorem va2 {cs:List Int} {x0 y0:Int} (r:Bool) {O:[34]} (pm:O.Perm (outl cs x0 y0)):(outr r O).Nodup /\ ∀ t ∈ outr r O,t.2.2=0 \/ t.2.2=1:=by
 have nd:O.Nodup:=pm.nodup_iff.mpr (zx0 cs x0 y0);have hw:∀ t ∈ O,t.2.2=0 \/ t.2.2=1:=λ t ht=>ut0 (outl_mem.mp (pm.mem_iff.mp ht));cases r with
 | false=>exact ⟨nd,hw⟩
 | true =>
  refine ⟨?_,λ t ht=>?_⟩
  ·show (O.map ro).Nodup;unfold List.Nodup;rw [List.pairwise_map];exact List.Pairwise.imp_of_mem (λ {a b} ha hb ne e=>ne (yx3 (hw a ha) (hw b hb) e)) nd
  ·obtain ⟨s,_,rfl⟩:=List.mem_map.mp ht;exact sp4 s
theorem Fw.outr {cs:List Int} {x0 y0:Int} (C:Cls cs) {r:Bool} {O ts:[34]} {σ:T3->Int} (pm:O.Perm (outl cs x0 y0)) (pt:ts.Perm (Pv.outr r O)) (F:Fw ts σ):ar ts σ=2 * cs.sum \/ ar ts σ = -(2 * cs.sum):=by
 have hw:∀ t ∈ O,t.2.2=0 \/ t.2.2=1:=λ t ht=>ut0 (outl_mem.mp (pm.mem_iff.mp ht));have nd:O.Nodup:=pm.nodup_iff.mpr (zx0 cs x0 y0);cases r with
 | false =>
  have pt:ts.Perm O:=pt;exact F.cols C (pt.nodup_iff.mpr nd) λ t=>(pt.trans pm).mem_iff.trans outl_mem
 | true =>
  obtain ⟨τ,G,e⟩:=F.turn pt hw;rw [<- e];exact G.cols C nd λ t=>pm.mem_iff.trans outl_mem
theorem apart {ts:[34]} {f:Pt->Int} {X:Int} (h:∀ t ∈ ts,(f (e0 t)<=X /\ f (e1 t)<=X) \/ (X < f (e0 t) /\ X < f (e1 t))) {a b:T3} (ha:a ∈ ts) (c:Conn ts a b) (fa:f (e0 a)<=X):f (e0 b)<=X:=by
 have key:∀ {b},Conn ts a b->b ∈ ts /\ f (e0 b)<=X /\ f (e1 b)<=X:=by
  intro b c
  induction c with
  | refl=>exact ⟨ha,by rcases h a ha with z | z <;> omega⟩
  | step _ hc ht ih =>
   obtain ⟨p,p1,p2⟩:=ht;refine ⟨hc,?_⟩;have q:f p<=X:=by rcases wl0 p1 with rfl | rfl <;> omega
   rcases h _ hc with z | z
   ·exact z
   ·rcases wl0 p2 with rfl | rfl <;> omega
 exact (key c).2.1
theorem xw2 {ts:[34]} {us:List (List T3)} (nd:ts.Nodup) (ip:IsP ts us) (ne:ts ≠ []):us.length=1 ↔ ∀ a ∈ ts,∀ b ∈ ts,Conn ts a b:=by
 constructor
 ·intro h a ha b hb;obtain ⟨u,rfl⟩:=List.length_eq_one_iff.mp h;have pm:u.Perm ts:=by have:=ip.perm; rwa [flatten_cons,List.flatten_nil,append_nil] at this
  exact ip.co u [16] a (pm.mem_iff.mpr ha) b (pm.mem_iff.mpr hb)
 ·intro h;have tw:=(ip.two nd).2
  match us,ip,tw with
  | [],ip,_=>exact absurd (List.Perm.eq_nil ip.perm.symm) ne
  | [u],_,_=>rfl
  | u :: v :: r,ip,tw =>
   obtain ⟨a,ha⟩:=List.exists_mem_of_ne_nil u (ip.ne u [16]);obtain ⟨b,hb⟩:=List.exists_mem_of_ne_nil v (ip.ne v [16]);have z:b ∈ u:=(h a (ip.mem [16] ha) b (ip.mem [16] hb)).cl (ip.cl u [16]) ha;rw [List.pairwise_cons] at tw;exact absurd rfl (tw.1 v [16] b z b hb)
theorem tf4 {α:Type} {R:α->α->Prop} (rf:∀ a,R a a) (sy:∀ a b,R a b->R b a) (tr:∀ a b c,R a b->R b c->R a c) {V:List α} (ne:V ≠ []):Nc R V=1 ↔ ∀ a ∈ V,∀ b ∈ V,R a b:=by
 constructor
 ·intro h
  induction V with
  | nil=>exact absurd rfl ne
  | cons v V ih =>
   by_cases c:∃ u ∈ V,R v u
   ·unfold Nc at h;rw [if_pos c] at h;obtain ⟨u,hu,r⟩:=c;have ih:=ih (λ z=>by subst z; exact nomatch hu) h;intro a ha b hb
    have q:∀ x ∈ v :: V,R u x:=λ x hx=>by
     rcases List.mem_cons.mp hx with rfl | hx
     ·exact sy _ _ r
     ·exact ih u hu x hx
    exact tr _ _ _ (sy _ _ (q a ha)) (q b hb)
   ·unfold Nc at h;rw [if_neg c] at h
    have e:V=[]:=by
     cases V with
     | nil=>rfl
     | cons w W=>have:=Nc.pos (R:=R) (V:=w :: W) [16]; omega
    subst e;intro a ha b hb;rw [List.mem_singleton.mp ha,List.mem_singleton.mp hb];exact rf v
 ·intro h;rw [Nc.vals (f:=λ _=>()) (D:=[()]) (λ a ha b hb=>⟨λ _=>rfl,λ _=>h a ha b hb⟩) (pairwise_singleton _ _) λ y=>?_]
  ·rfl
  ·obtain ⟨a,ha⟩:=List.exists_mem_of_ne_nil V ne;exact ⟨λ _=>List.mem_map.mpr ⟨a,ha,rfl⟩,λ _=>by simp⟩
theorem se3 {ts:[34]} {a:T3} (ha:a ∈ ts) {p q:Pt} (hp:has p a=true) (h:Pn (· ∈ ts) p q):∀ c ∈ ts,has q c=true->Conn ts a c:=by
 have st:∀ {q q':Pt} {s:T3},s ∈ ts->has q s=true->has q' s=true->(∀ c ∈ ts,has q c=true->Conn ts a c)->∀ c ∈ ts,has q' c=true->Conn ts a c:=λ {q q' s} hs h1 h2 ih c hc h3=>.step (ih s hs h1) hc ⟨q',h2,h3⟩;have E0:∀ x y w:Int,has (x,y) (x,y,w)=true:=λ x y w=>tj0 (x,y,w)
 have E1:∀ x y:Int,has (x + 1,y) (x,y,0)=true:=λ x y=>by
  have:=uo0 (x,y,0);unfold e1 at this;dsimp only at this
  rwa [show x + 1 - 0=x + 1 by omega,show y + 0=y by omega] at this
 have E2:∀ x y:Int,has (x,y + 1) (x,y,1)=true:=λ x y=>by
  have:=uo0 (x,y,1);unfold e1 at this;dsimp only at this
  rwa [show x + 1 - 1=x by omega] at this
 induction h with
 | refl=>exact λ c hc h=>.step .refl hc ⟨p,hp,h⟩
 | hr _ b ih=>exact st b (E0 _ _ _) (E1 _ _) ih
 | hl _ b ih=>exact st b (E1 _ _) (E0 _ _ _) ih
 | vu _ b ih=>exact st b (E0 _ _ _) (E2 _ _) ih
 | vd _ b ih=>exact st b (E2 _ _) (E0 _ _ _) ih
theorem ur1 {ts:[34]} {E:List Pt} (hw:∀ t ∈ ts,wy' t) (ne:ts ≠ []) (mm:∀ p,p ∈ E ↔ ∃ s ∈ ts,p=end0 s \/ p=end1 s):Nc (Pn (· ∈ ts)) E=1 ↔ ∀ a ∈ ts,∀ b ∈ ts,Conn ts a b:=by
 obtain ⟨a0,ha0⟩:=List.exists_mem_of_ne_nil ts ne
 have neE:E ≠ []:=λ z=>by
  have:=(mm (end0 a0)).mpr ⟨a0,ha0,.inl rfl⟩;rw [z] at this; exact nomatch this
 rw [tf4 (R:=Pn (· ∈ ts)) (λ _=>.refl) (λ _ _=>Pn.symm) (λ _ _ _=>Pn.trans) neE];constructor
 ·intro h a ha b hb;exact se3 ha (tj0 a) (h (end0 a) ((mm _).mpr ⟨a,ha,.inl rfl⟩) (end0 b) ((mm _).mpr ⟨b,hb,.inl rfl⟩)) b hb (tj0 b)
 ·intro h p hp q hq;obtain ⟨a,ha,ea⟩:=(mm p).mp hp;obtain ⟨b,hb,eb⟩:=(mm q).mp hq
  have own:∀ s ∈ ts,∀ x y:Pt,has x s=true->has y s=true->Pn (· ∈ ts) x y:=λ s hs x y hx hy=>by
   have c:=pn_s (B:=(· ∈ ts)) (hw s hs) hs;rcases wl0 hx with rfl | rfl <;> rcases wl0 hy with rfl | rfl
   ·exact .refl
   ·exact c
   ·exact c.symm
   ·exact .refl
  have hx:∀ {x:Pt} {s:T3},x=end0 s \/ x=end1 s->has x s=true:=λ {x s} e=>by
   rcases e with rfl | rfl
   ·exact tj0 s
   ·exact uo0 s
  have key:∀ {b},Conn ts a b->b ∈ ts /\ ∀ y,has y b=true->Pn (· ∈ ts) p y:=by
   intro b c
   induction c with
   | refl=>exact ⟨ha,λ y hy=>own a ha p y (hx ea) hy⟩
   | step _ hc ht ih =>
    obtain ⟨z,z1,z2⟩:=ht;exact ⟨hc,λ y hy=>(ih.2 z z1).trans (own _ hc z y z2 hy)⟩
  exact (key (h a ha b hb)).2 q (hx eb)
end Pv
namespace Pv
def Rg (ts:[34]):Prop:=ts ≠ [] /\ (∀ a ∈ ts,∀ b ∈ ts,Conn ts a b) /\ ∀ p,(∃ s ∈ ts,has p s=true)->deg ts p=2
theorem wm2 {ts:[34]} (h:Rg ts):∀ p,deg ts p % 2=0:=λ p=>by
 by_cases c:∃ s ∈ ts,has p s=true
 ·rw [h.2.2 p c]
 ·have:deg ts p=0:=by
    unfold deg;rw [List.countP_eq_zero];exact λ s hs z=>c ⟨s,hs,z⟩
  rw [this]
structure Cl4 (cs:List Int):Prop where
 c:Cls cs
 le:∀ c ∈ cs,c<=4
 ln:cs.length<=5
theorem Cl4.hg {cs:List Int} (C:Cl4 cs) (i:Int):0<=hgt cs i /\ hgt cs i<=4:=by
 refine ⟨zx2 C.c i,?_⟩;unfold hgt;split
 ·by_cases c:i.toNat < cs.length
  ·rw [getD_eq_getElem?_getD,getElem?_eq_getElem c];exact C.le _ (getElem_mem c)
  ·rw [getD_eq_getElem?_getD,getElem?_eq_none [2]]; simp
 ·omega
theorem o_at {cs:List Int} {x0 y0:Int} (C:Cl4 cs) {t:T3} (h:t ∈ outl cs x0 y0):(t.2.2=0 /\ x0<=t.1 /\ t.1 < x0 + cs.length /\ y0<=t.2.1 /\ t.2.1<=y0 + 4) \/ (t.2.2=1 /\ x0<=t.1 /\ t.1<=x0 + cs.length /\ y0<=t.2.1 /\ t.2.1 < y0 + 4):=by
 have hb:=outl_mem.mp h;obtain ⟨x,y,w⟩:=t;dsimp only;rcases ut0 hb with e | e
 ·have e:w=0:=e;subst e;obtain ⟨h1,h2⟩:=(bd_h C.c).mp hb;have:=sn0 h1;have:=C.hg (x - x0);left; omega
 ·have e:w=1:=e;subst e;have h1:=bd_v.mp hb;have a:=C.hg (x - 1 - x0);have b:=C.hg (x - x0);have c:1<=hgt cs (x - 1 - x0) \/ 1<=hgt cs (x - x0):=by omega
  right;rcases c with c | c
  ·have:=sn0 c; omega
  ·have:=sn0 c; omega
theorem o_pt {cs:List Int} {x0 y0:Int} (C:Cl4 cs) {t:T3} (h:t ∈ outl cs x0 y0):∀ p,p=e0 t \/ p=e1 t->p.1<=x0 + cs.length /\ p.2<=y0 + 4 /\ x0<=p.1 /\ y0<=p.2:=by
 have:=o_at C h;rintro p (rfl | rfl)
 ·unfold e0; dsimp only; omega
 ·unfold e1; dsimp only; omega
theorem ym1 {cs:List Int} {x0 y0:Int} (C:Cl4 cs):(outl cs x0 y0).length<=49:=by
 have cl:=C.ln
 have:=List.Nodup.length_le_of_subset (zx0 cs x0 y0) (l₂:=(gpt x0 y0 5 5).map (λ p=>(p.1,p.2,(0:Int))) ++ (gpt x0 y0 6 4).map λ p=>(p.1,p.2,(1:Int))) λ t ht=>by
  rw [mem_append,mem_map,mem_map];obtain ⟨x,y,w⟩:=t;rcases o_at C ht with ⟨e,h⟩ | ⟨e,h⟩
  ·have e:w=0:=e;subst e;dsimp only at h;exact .inl ⟨(x,y),gpt_mem.mpr (by unfold inF; dsimp only; omega),rfl⟩
  ·have e:w=1:=e;subst e;dsimp only at h;exact .inr ⟨(x,y),gpt_mem.mpr (by unfold inF; dsimp only; omega),rfl⟩
 rw [length_append,length_map,length_map,us0,us0] at this;exact this
theorem c1:Cl4 [1]:=⟨⟨by decide,by decide⟩,by decide,by decide⟩
theorem wx0 (x0 y0:Int):(outl [1] x0 y0).length<=4:=by
 have e:clsL [1] x0 y0=[(x0 + ((0:Nat):Int),y0 + ((0:Nat):Int))]:=rfl;unfold outl;rw [e,flatMap_cons,flatMap_nil,append_nil];unfold ou1;rw [length_map];exact length_filter_le _ (sd4 _)
theorem q_pt {x0 y0:Int} {t:T3} (h:t ∈ outl [1] x0 y0):∀ p,p=e0 t \/ p=e1 t->x0<=p.1 /\ y0<=p.2:=λ p hp=>(o_pt c1 h p hp).2.2
theorem ua2 (x0 y0:Int):(x0,y0,0) ∈ outl [1] x0 y0:=outl_mem.mpr ((bd_h c1.c).mpr (by rw [Int.sub_self]; exact ⟨by decide,.inl rfl⟩))
inductive Tn (os:List T3):List T3->Prop
 | rm {A B:List T3} {e:T3}:os=A ++ e :: B->Tn os (A ++ B)
 | ad {e:T3}:e ∈ os->Tn os (os ++ [(e.1 + 1,e.2.1,e.2.2)])
 | fr {q:List T3}:q.Perm (outl [1] 9 9)->Tn os (os ++ q)
 | nr {l:T3} {q:List T3}:os.getLast?=some l->q.Perm (outl [1] (l.1 + 1) (l.2.1 + 1))->Tn os (os ++ q)
 | id:Tn os os
structure Off (x0 y0:Int):Prop where
 x : -4<=x0 /\ x0<=4
 y : -4<=y0 /\ y0<=4
theorem degP {l m:[34]} (h:l.Perm m) (p:Pt):deg l p=deg m p:=h.countP_eq _
theorem th3 {a b:T3} (h:le3 a b):a.1<=b.1:=by
 simp only [le3,lt3,Bool.or_eq_false_iff,decide_eq_false_iff_not] at h;omega
theorem si1 {ts O' Q:[34]} (f:Pt->Int) (X:Int) (hO:∀ t ∈ O',f (e0 t)<=X /\ f (e1 t)<=X) (hQ:∀ t ∈ Q,X < f (e0 t) /\ X < f (e1 t)) (mm:∀ t,t ∈ ts ↔ t ∈ O' ++ Q) (R:Rg ts) {a b:T3} (ha:a ∈ O') (hb:b ∈ Q):False:=by
 have a':=(mm a).mpr (mem_append_left _ ha);have:=apart (f:=f) (X:=X) (λ t ht=>?_) a' (R.2.1 a a' b ((mm b).mpr (mem_append_right _ hb))) (hO a ha).1
 ·have:=hQ b hb; omega
 ·rcases List.mem_append.mp ((mm t).mp ht) with h | h
  ·exact .inl (hO t h)
  ·exact .inr (hQ t h)
theorem sz2 {cs:List Int} {x0 y0:Int} (C:Cl4 cs) (F:Off x0 y0) {r:Bool} {O L ts:[34]} (pm:O.Perm (outl cs x0 y0)) (so:O.Pairwise le3) (hT:Tn (outr r O) L) (nd:ts.Nodup) (mm:∀ t,t ∈ ts ↔ t ∈ L) (R:Rg ts):ts.Perm (outr r O):=by
 obtain ⟨no,wo⟩:=va2 r pm;have ev:=si4 r pm;have od:=wm2 R;obtain ⟨fx,fy⟩:=F;have cl:=C.ln;have pts:∀ t ∈ O,∀ p,p=e0 t \/ p=e1 t->p.1<=x0 + cs.length /\ p.2<=y0 + 4 /\ x0<=p.1 /\ y0<=p.2:=λ t ht=>o_pt C (pm.mem_iff.mp ht)
 have far:∃ s ∈ O,s.1=x0 + cs.length:=⟨(x0 + cs.length,y0,1),pm.mem_iff.mpr (outl_mem.mpr (bd_v.mpr (by
  have h1:=um0 C.c (k:=cs.length - 1) (by have:=C.c.ne; omega);have n0:=C.c.ne;rw [show x0 + (cs.length:Int) - 1 - x0=((cs.length - 1:Nat):Int) by omega,h1.1];have h2:¬ 1<=hgt cs (x0 + (cs.length:Int) - x0):=λ z=>by have:=sn0 z; omega
  omega))),rfl⟩
 obtain ⟨s0,hs0,es0⟩:=far
 have mo:∃ a,a ∈ outr r O:=by
  cases r with
  | false=>exact ⟨s0,hs0⟩
  | true=>exact ⟨ro s0,mem_map_of_mem hs0⟩
 obtain ⟨a0,ha0⟩:=mo
 have rot:∀ t ∈ O,∀ p,p=e0 (ro t) \/ p=e1 (ro t)->∃ q,(q=e0 t \/ q=e1 t) /\ p=rp q:=λ t ht p hp=>by
  rcases ro_e (ut0 (outl_mem.mp (pm.mem_iff.mp ht))) with ⟨_,a,b⟩ | ⟨_,a,b⟩
  ·rcases hp with h | h
   ·exact ⟨_,.inl rfl,h.trans a⟩
   ·exact ⟨_,.inr rfl,h.trans b⟩
  ·rcases hp with h | h
   ·exact ⟨_,.inr rfl,h.trans a⟩
   ·exact ⟨_,.inl rfl,h.trans b⟩
 cases hT with
 | id=>exact (perm_ext_iff_of_nodup nd no).mpr mm
 | @rm A B e ee =>
  rw [ee] at no ev;have nab:(A ++ B).Nodup:=no.sublist (List.Sublist.append (List.Sublist.refl A) (List.sublist_cons_self e B));have p:=(perm_ext_iff_of_nodup nd nab).mpr mm;have h1:=ev (e0 e);have h2:=od (e0 e);rw [degP p] at h2;unfold deg at h1 h2;rw [List.countP_append,countP_cons,tj0 e,if_pos rfl] at h1;rw [List.countP_append] at h2;omega
 | @ad e he =>
  by_cases c:(e.1 + 1,e.2.1,e.2.2) ∈ outr r O
  ·refine (perm_ext_iff_of_nodup nd no).mpr λ t=>(mm t).trans ?_;rw [mem_append,mem_singleton];exact ⟨λ h=>h.elim id λ e=>e ▸ c,.inl⟩
  ·have nab:(outr r O ++ [(e.1 + 1,e.2.1,e.2.2)]).Nodup:=List.nodup_append.mpr ⟨no,pairwise_singleton _ _,λ a ha b hb z=>by rw [List.mem_singleton.mp hb] at z; exact c (z ▸ ha)⟩;have p:=(perm_ext_iff_of_nodup nd nab).mpr mm;have h1:=ev (e0 (e.1 + 1,e.2.1,e.2.2));have h2:=od (e0 (e.1 + 1,e.2.1,e.2.2));rw [degP p] at h2;unfold deg at h1 h2;rw [List.countP_append,List.countP_singleton,tj0,if_pos rfl] at h2;omega
 | @fr q pq =>
  refine (?_:False).elim;have hb:=pq.mem_iff.mpr (ua2 9 9);have hq:∀ t ∈ q,∀ p,p=e0 t \/ p=e1 t->9<=p.1 /\ 9<=p.2:=λ t ht=>q_pt (pq.mem_iff.mp ht);cases r with
  | false =>
   refine si1 (f:=λ p=>p.2) (X:=8) (λ t ht=>?_) (λ t ht=>?_) mm R ha0 hb
   ·have h1:=pts t ht _ (.inl rfl);have h2:=pts t ht _ (.inr rfl);omega
   ·have h1:=hq t ht _ (.inl rfl);have h2:=hq t ht _ (.inr rfl);omega
  | true =>
   refine si1 (f:=λ p=>p.1) (X:=8) (λ t ht=>?_) (λ t ht=>?_) mm R ha0 hb
   ·obtain ⟨s,hs,rfl⟩:=List.mem_map.mp ht
    have key:∀ p,p=e0 (ro s) \/ p=e1 (ro s)->p.1<=8:=λ p hp=>by
     obtain ⟨u,hu,rfl⟩:=rot s hs p hp;have:=pts s hs u hu;show 0 - u.2<=8;omega
    exact ⟨key _ (.inl rfl),key _ (.inr rfl)⟩
   ·have h1:=hq t ht _ (.inl rfl);have h2:=hq t ht _ (.inr rfl);omega
 | @nr l q hl pq =>
  refine (?_:False).elim;have hb:=pq.mem_iff.mpr (ua2 (l.1 + 1) (l.2.1 + 1));have hq:∀ t ∈ q,∀ p,p=e0 t \/ p=e1 t->l.1 + 1<=p.1 /\ l.2.1 + 1<=p.2:=λ t ht=>q_pt (pq.mem_iff.mp ht)
  have last:∀ m,O.getLast?=some m->x0 + cs.length<=m.1:=λ m hm=>by
   obtain ⟨ys,rfl⟩:=List.getLast?_eq_some_iff.mp hm;rw [List.pairwise_append] at so;rcases List.mem_append.mp hs0 with h | h
   ·have:=th3 (so.2.2 s0 h m [16]); omega
   ·rw [mem_singleton] at h; rw [<- h]; omega
  cases r with
  | false =>
   have:=last l hl;refine si1 (f:=λ p=>p.1) (X:=l.1) (λ t ht=>?_) (λ t ht=>?_) mm R ha0 hb
   ·have h1:=pts t ht _ (.inl rfl);have h2:=pts t ht _ (.inr rfl);omega
   ·have h1:=hq t ht _ (.inl rfl);have h2:=hq t ht _ (.inr rfl);omega
  | true =>
   have hl:(O.map ro).getLast?=some l:=hl;rw [List.getLast?_map] at hl;obtain ⟨m,hm,e⟩:=Option.map_eq_some_iff.mp hl;have hm1:=last m hm;have e1':l.2.1=m.1:=by rw [<- e]; unfold ro; split <;> rfl
   refine si1 (f:=λ p=>p.2) (X:=l.2.1) (λ t ht=>?_) (λ t ht=>?_) mm R ha0 hb
   ·obtain ⟨s,hs,rfl⟩:=List.mem_map.mp ht
    have key:∀ p,p=e0 (ro s) \/ p=e1 (ro s)->p.2<=l.2.1:=λ p hp=>by
     obtain ⟨u,hu,rfl⟩:=rot s hs p hp;have:=pts s hs u hu;show u.1<=l.2.1;omega
    exact ⟨key _ (.inl rfl),key _ (.inr rfl)⟩
   ·have h1:=hq t ht _ (.inl rfl);have h2:=hq t ht _ (.inr rfl);omega
def Nr (ts:[34]):Prop:=∀ t ∈ ts,(-1000 < t.1 /\ t.1 < 1000) /\ -1000 < t.2.1 /\ t.2.1 < 1000
theorem vo3 {cs:List Int} {x0 y0:Int} (C:Cl4 cs) (F:Off x0 y0) {r:Bool} {O L:[34]} (pm:O.Perm (outl cs x0 y0)) (hT:Tn (outr r O) L):(∀ t ∈ L,t.2.2=0 \/ t.2.2=1) /\ Nr L /\ L.length<=54:=by
 obtain ⟨_,wo⟩:=va2 r pm;obtain ⟨fx,fy⟩:=F;have cl:=C.ln
 have lo:(outr r O).length<=49:=by
  have:=ym1 C (x0:=x0) (y0:=y0);rw [<- pm.length_eq] at this;cases r with
  | false=>exact this
  | true=>show (O.map ro).length<=49; rw [length_map]; exact this
 have nO:∀ t ∈ outr r O,(-20 < t.1 /\ t.1 < 20) /\ -20 < t.2.1 /\ t.2.1 < 20:=λ t ht=>by
  have hO:∀ t ∈ O,(-10 < t.1 /\ t.1 < 10) /\ -10 < t.2.1 /\ t.2.1 < 10:=λ t ht=>by
   have:=o_at C (pm.mem_iff.mp ht);omega
  cases r with
  | false=>have:=hO t ht; omega
  | true =>
   obtain ⟨s,hs,rfl⟩:=List.mem_map.mp ht;have:=hO s hs;unfold ro;split <;> dsimp only <;> omega
 have far:∀ {a b:Int} {q:[34]},(-30 < a /\ a < 30)->(-30 < b /\ b < 30)->q.Perm (outl [1] a b)->(∀ t ∈ outr r O ++ q,t.2.2=0 \/ t.2.2=1) /\ Nr (outr r O ++ q) /\ (outr r O ++ q).length<=54:=λ {a b q} ha hb pq=>by
  have l1:=wx0 a b;rw [<- pq.length_eq] at l1;refine ⟨λ t ht=>?_,λ t ht=>?_,by rw [length_append]; omega⟩
  ·rcases List.mem_append.mp ht with h | h
   ·exact wo t h
   ·exact ut0 (outl_mem.mp (pq.mem_iff.mp h))
  ·rcases List.mem_append.mp ht with h | h
   ·have:=nO t h; omega
   ·have:=o_at c1 (pq.mem_iff.mp h);have e:(([1]:List Int).length:Int)=1:=rfl;rw [e] at this;omega
 cases hT with
 | id=>exact ⟨wo,λ t ht=>(by have:=nO t ht; omega),by omega⟩
 | @rm A B e ee =>
  have sub:∀ t ∈ A ++ B,t ∈ outr r O:=λ t ht=>by
   rw [ee];rcases List.mem_append.mp ht with h | h
   ·exact mem_append_left _ h
   ·exact mem_append_right _ (.tail _ h)
  have ll:=congrArg List.length ee;rw [length_append,length_cons] at ll;exact ⟨λ t ht=>wo t (sub t ht),λ t ht=>(by have:=nO t (sub t ht); omega),by rw [length_append]; omega⟩
 | @ad e he =>
  refine ⟨λ t ht=>?_,λ t ht=>?_,by rw [length_append,length_singleton]; omega⟩
  ·rcases List.mem_append.mp ht with h | h
   ·exact wo t h
   ·rw [mem_singleton] at h; rw [h]; exact wo e he
  ·rcases List.mem_append.mp ht with h | h
   ·have:=nO t h; omega
   ·have:=nO e he; rw [mem_singleton] at h; rw [h]; dsimp only; omega
 | @fr q pq=>exact far [2] [2] pq
 | @nr l q hl pq =>
  have:=nO l (List.mem_of_getLast? hl);exact far [2] [2] pq
theorem uo3 {cs:List Int} {x0 y0:Int} (C:Cl4 cs) (F:Off x0 y0) {r:Bool} {O L:[34]} (pm:O.Perm (outl cs x0 y0)) (hT:Tn (outr r O) L) {E:List Pt} (nd:E.Nodup) (h:∀ p ∈ E,∃ s ∈ L,p=e0 s \/ p=e1 s):E.length<=38:=by
 have cl:=C.ln
 let B:List Pt:=if r then (gpt x0 y0 6 5).map rp else gpt x0 y0 6 5
 have lB:B.length=30:=by
  show (if r then (gpt x0 y0 6 5).map rp else gpt x0 y0 6 5).length=30;cases r
  ·exact us0 _ _ _ _
  ·show ((gpt x0 y0 6 5).map rp).length=30;rw [length_map]; exact us0 _ _ _ _
 have inB:∀ s ∈ outr r O,∀ p,p=e0 s \/ p=e1 s->p ∈ B:=λ s hs p hp=>by
  have g:∀ t ∈ O,∀ q,q=e0 t \/ q=e1 t->q ∈ gpt x0 y0 6 5:=λ t ht q hq=>by
   have:=o_pt C (pm.mem_iff.mp ht) q hq;rw [gpt_mem]; unfold inF; omega
  cases r with
  | false=>exact g s hs p hp
  | true =>
   obtain ⟨t,ht,rfl⟩:=List.mem_map.mp hs;show p ∈ (gpt x0 y0 6 5).map rp;rcases ro_e (ut0 (outl_mem.mp (pm.mem_iff.mp ht))) with ⟨_,a,b⟩ | ⟨_,a,b⟩
   ·rcases hp with rfl | rfl
    ·rw [a]; exact mem_map_of_mem (g t ht _ (.inl rfl))
    ·rw [b]; exact mem_map_of_mem (g t ht _ (.inr rfl))
   ·rcases hp with rfl | rfl
    ·rw [a]; exact mem_map_of_mem (g t ht _ (.inr rfl))
    ·rw [b]; exact mem_map_of_mem (g t ht _ (.inl rfl))
 have main:∀ X:List T3,X.length<=4->(∀ s ∈ L,s ∈ outr r O \/ s ∈ X)->E.length<=38:=λ X lX hX=>by
  have lf:(X.flatMap λ s=>[e0 s,e1 s]).length=2 * X.length:=by
   clear hX lX
   induction X with
   | nil=>rfl
   | cons s X ih=>rw [flatMap_cons,length_append,ih,length_cons]; simp only [length_cons,length_nil]; omega
  have:=List.Nodup.length_le_of_subset nd (l₂:=B ++ X.flatMap λ s=>[e0 s,e1 s]) λ p hp=>by
   obtain ⟨s,hs,e⟩:=h p hp;rcases hX s hs with z | z
   ·exact mem_append_left _ (inB s z p e)
   ·refine mem_append_right _ (List.mem_flatMap.mpr ⟨s,z,?_⟩);rcases e with rfl | rfl
    ·exact .head _
    ·exact .tail _ (.head _)
  rw [length_append,lB,lf] at this;omega
 cases hT with
 | id=>exact main [] [7] λ s hs=>.inl hs
 | @rm A B' e ee =>
  refine main [] [7] λ s hs=>.inl ?_;rw [ee];rcases List.mem_append.mp hs with z | z
  ·exact mem_append_left _ z
  ·exact mem_append_right _ (.tail _ z)
 | @ad e he=>exact main [_] [16] λ s hs=>List.mem_append.mp hs
 | @fr q pq=>exact main q (by rw [pq.length_eq]; exact wx0 _ _) λ s hs=>List.mem_append.mp hs
 | @nr l q hl pq=>exact main q (by rw [pq.length_eq]; exact wx0 _ _) λ s hs=>List.mem_append.mp hs
theorem yu2:∀ {cs:List Int},(∀ c ∈ cs,1<=c)->0<=cs.sum
 | [],_=>Int.le_refl _
 | c :: r,h=>by
  have a:=h c (.head _);have b:=yu2 λ x hx=>h x (.tail _ hx);rw [sum_cons]; omega
theorem xa3 {cs:List Int} {x0 y0 n:Int} (C:Cl4 cs) (F:Off x0 y0) {r:Bool} {O L ts:[34]} {σ:T3->Int} (pm:O.Perm (outl cs x0 y0)) (so:O.Pairwise le3) (hT:Tn (outr r O) L) (nd:ts.Nodup) (mm:∀ t,t ∈ ts ↔ t ∈ L) (R:Rg ts) (W:Fw ts σ) (h:n=ar ts σ \/ n = - ar ts σ) (h0:0<=n):n / 2=cs.sum:=by
 have:=W.outr C.c pm (sz2 C F pm so hT nd mm R);have:=yu2 C.c.po;omega
end Pv
namespace Pv
open PySem Mw
theorem tc2 {l:List D} {i:Int} {d:D} {μ:Mu} {Q:VK3} (e:atI l i=some d) (h:Q d μ):ixR (.tup l) (.int i) μ Q:=by
 unfold ixR;simp only [e];exact h
theorem uf0 {p:Addr} {l:List D} {i:Int} {d:D} {μ:Mu} {K:VK3} (h:μ p=some (.lst l)) (e:atI l i=some d) (k:K d μ):ixR (.ref p) (.int i) μ K:=by
 unfold ixR;simp only [h,e];exact k
theorem ix_f {l:List D} {i:Int} {d:D} {μ:Mu} {K:VK3} (e:atI l i=some d) (k:K d μ):ixR (.fls l) (.int i) μ K:=by
 unfold ixR;simp only [e];exact k
theorem z2:2<=sizeLine:=by decide
theorem z3:3<=sizeLine:=by decide
def ye0:Sp3:=λ ds μ Q=>∃ (ns:List Int) (k:Int),ds=[.fls (ns.map D.int),.int k] /\ 0<=k /\ ∀ a b p,0<=a->μ p=none->Q (.ref p) (updM μ p (.lst [.int a,.int b]))
theorem st_t {o0:Option D} {k i:Int} {μ:Mu} {Q:VK3} (q:∀ a b p,0<=a->μ p=none->Q (.ref p) (updM μ p (.lst [.int a,.int b]))) :
    (seq3 (ifs3 (b3 (o3 geR (v3 2) (o3 powR (c3 (.int 10)) (c3 (.int 18))))) (ret3 (lst3 (va0 (o3 subR (v3 2) (o3 powR (c3 (.int 10)) (c3 (.int 18)))) (va0 [8] nil3)))) sh0) (ret3 (lst3 (va0 (o3 modR (o3 addR (v3 2) (o3 mulR (c3 (.int 7919)) (v3 1))) (c3 (.int 2147483647))) (va0 [15] nil3))))) { nx:=λ _ μ'=>Q .non μ',rt:=Q } [o0,some (.int k),some (.int i)] μ:=by
 have c:CPow 10 18:=⟨by decide,by decide,by decide⟩;refine ⟨c,?_⟩;show if decide ((10:Int) ^ (18:Int).toNat<=i)=true then _ else _;by_cases h:(10:Int) ^ (18:Int).toNat<=i
 ·rw [if_pos (decide_eq_true h)];exact ⟨c,z2,λ p hp=>q _ _ p [2] hp⟩
 ·rw [if_neg (λ z=>h (of_decide_eq_true z))];exact ⟨.inl (.inl [7]),(show (0:Int) < 2147483647 by decide),z2,λ p hp=>q _ _ p (Int.emod_nonneg _ [7]) hp⟩
theorem uq4 (ds:List D) (μ:Mu) (Q:VK3) (h:ye0 ds μ Q):t_q5 { nx:=λ _ μ'=>Q .non μ',rt:=Q } (xd0 N_q5 ds) μ:=by
 obtain ⟨ns,k,rfl,hk,q⟩:=h;show if decide (k < ((ns.map D.int).length:Int))=true then _ else _;by_cases h:k < ((ns.map D.int).length:Int)
 ·rw [if_pos (decide_eq_true h)];obtain ⟨d,hd,e⟩:=wl4 (l:=ns.map D.int) hk h;obtain ⟨i,_,rfl⟩:=List.mem_map.mp hd;exact ix_f e (st_t (o0:=some (.fls (ns.map D.int))) q)
 ·rw [if_neg (λ z=>h (of_decide_eq_true z))];exact st_t (o0:=some (.fls (ns.map D.int))) q
def spTk:Sp3:=λ ds μ Q=>∃ (p:Addr) (m a b:Int),ds=[.ref p,.int m] /\ 0 < m /\ m < 2 ^ 80 /\ μ p=some (.lst [.int a,.int b]) /\ 0<=a ∧
 ∀ r a' b',0<=r->r < m->0<=a'->Q (.int r) (updM μ p (.lst [.int a',.int b']))
theorem za3 {p:Addr} {l:List D} {i:Int} {j n:Nat} {d:D} {ρ:St3} {μ:Mu} {K:St3->Mu->Prop} (hp:getI ρ n=some (.ref p)) (h:μ p=some (.lst l)) (e:ixN l.length i=some j) (k:K ρ (updM μ p (.lst (l.set j d)))):sub3 (v3 n) (c3 (.int i)) d ρ μ K:=by
 unfold sub3 v3 c3;rw [hp];dsimp only;rw [h];dsimp only;rw [e];exact k
theorem tk_t {p:Addr} {m a b:Int} {o2:Option D} {μ:Mu} {Q:VK3} (h1:0 < m) (h3:μ p=some (.lst [.int a,.int b])) (q:∀ r a' b',0<=r->r < m->0<=a'->Q (.int r) (updM μ p (.lst [.int a',.int b']))) :
    (seq3 (asg3 [15] (sub3 (v3 0) [8])) [21]) { nx:=λ _ μ'=>Q .non μ',rt:=Q } [some (.ref p),some (.int m),o2,none] μ:=by
 have ix:∀ {a b:Int} {μ:Mu} {K:VK3},μ p=some (.lst [.int a,.int b])->K (.int a) μ->ixR (.ref p) (.int 0) μ K:=λ h k=>uf0 h atI0 k;show sub3 (v3 0) [8] (.int 0) [some (.ref p),some (.int m),o2,none] μ (λ ρ1 μ1=>_);refine za3 (p:=p) (i:=1) (j:=1) rfl h3 ixN1 ?_;have e1:updM μ p (.lst ([D.int a,.int b].set 1 (.int 0))) p=some (.lst [.int a,.int 0]):=za0;show ixR (.ref p) (.int 0) (updM μ p (.lst ([D.int a,.int b].set 1 (.int 0)))) (λ x μ1=>_);refine ix e1 ⟨.inl (.inr [7]),(show (0:Int) < 2147483647 by decide),?_⟩;show sub3 (v3 0) [15] (.int ((a * 48271 + 69621) % 2147483647)) [some (.ref p),some (.int m),o2,none] (updM μ p (.lst ([D.int a,.int b].set 1 (.int 0)))) (λ ρ1 μ1=>_);refine za3 (p:=p) (i:=0) (j:=0) rfl e1 ixN0 ?_;rw [sf0];generalize hc:(a * 48271 + 69621) % 2147483647=c;have n1:0<=c:=by rw [<- hc]; exact Int.emod_nonneg _ [7]
 have n2:c < 2147483647:=by rw [<- hc]; exact Int.emod_lt_of_pos _ [7]
 have e2:updM μ p (.lst ([D.int a,.int 0].set 0 (.int c))) p=some (.lst [.int c,.int 0]):=za0;show ixR (.ref p) (.int 0) (updM μ p (.lst ([D.int a,.int 0].set 0 (.int c)))) (λ x μ1=>_);refine ix e2 ?_;show ixR (.ref p) (.int 0) (updM μ p (.lst ([D.int a,.int 0].set 0 (.int c)))) (λ x μ1=>_);refine ix e2 ⟨.inl (.inl [2]),?_⟩;show ixR (.ref p) (.int 0) (updM μ p (.lst ([D.int a,.int 0].set 0 (.int c)))) (λ x μ1=>_);refine ix e2 ⟨.inl (.inl [7]),(show (0:Int) < 2147483629 by decide),?_⟩;have n3:0<=(c * c + 16807 * c) % 2147483629:=Int.emod_nonneg _ [7];have n4:(c * c + 16807 * c) % 2147483629 < 2147483629:=Int.emod_lt_of_pos _ [7];exact ⟨.inl (.inl ⟨Int.lt_of_lt_of_le [7] n3,Int.lt_trans n4 [7]⟩),.inl (.inl [7]),(show (0:Int) < 2147483587 by decide),⟨by decide,by decide⟩,h1,q _ _ _ (Int.emod_nonneg _ [2]) (Int.emod_lt_of_pos _ h1) n1⟩
theorem vq4 (ds:List D) (μ:Mu) (Q:VK3) (h:spTk ds μ Q):t_q6 { nx:=λ _ μ'=>Q .non μ',rt:=Q } (xd0 N_q6 ds) μ:=by
 obtain ⟨p,m,a,b,rfl,h1,h2,h3,h4,q⟩:=h;show ixR (.ref p) (.int 1) μ (λ x μ1=>_);refine uf0 h3 atI1 ?_;show if decide (b=1)=true then _ else _;by_cases c1:b=1
 ·rw [if_pos (decide_eq_true c1)];show ixR (.ref p) (.int 0) μ (λ x μ1=>_);refine uf0 h3 atI0 ?_;show if decide (0 < a)=true then _ else _;by_cases c2:0 < a
  ·rw [if_pos (decide_eq_true c2)];show ixR (.ref p) (.int 0) μ (λ x μ1=>_);refine uf0 h3 atI0 ⟨h1,?_⟩;show ixR (.ref p) (.int 0) μ (λ x μ1=>_);refine uf0 h3 atI0 ⟨⟨h1,by omega⟩,?_⟩;show sub3 (v3 0) [15] (.int (a / m)) [some (.ref p),some (.int m),some (.int (a % m)),none] μ (λ ρ1 μ1=>_);refine za3 (p:=p) (i:=0) (j:=0) rfl h3 ixN0 ?_;exact q _ _ _ (Int.emod_nonneg _ [2]) (Int.emod_lt_of_pos _ h1) (Int.ediv_nonneg h4 [2])
  ·rw [if_neg (λ z=>c2 (of_decide_eq_true z))];exact tk_t h1 h3 q
 ·rw [if_neg (λ z=>c1 (of_decide_eq_true z))];exact tk_t h1 h3 q
def wy (s:T3):Prop:=s.2.2=0 \/ s.2.2=1
def gx (s:T3):Int:=s.1 + 1 - s.2.2
def gy (s:T3):Int:=s.2.1 + s.2.2
def encQ (p:Int × Int):D:=.tup [.int p.1,.int p.2]
def decT (d:D):T3:=(t3? d).getD (0,0,0)
def va1:Sp3:=λ ds μ Q=>∃ s,ds=[encT s] /\ wy s /\ Q (.tup [encQ (s.1,s.2.1),encQ (gx s,gy s)]) μ
theorem sz3 (ds:List D) (μ:Mu) (Q:VK3) (h:va1 ds μ Q):vq3 { nx:=λ _ μ'=>Q .non μ',rt:=Q } (xd0 yn3 ds) μ:=by
 obtain ⟨⟨x,y,w⟩,rfl,hw,q⟩:=h;rcases hw with e | e
 ·dsimp only at e; subst e;simp only [gx,gy,Int.sub_zero,Int.add_zero] at q;exact ⟨z2,z2,z2,q⟩
 ·dsimp only at e; subst e;simp only [gx,gy,Int.add_sub_cancel] at q;exact ⟨z2,z2,z2,q⟩
def sv1:Sp3:=λ ds μ Q=>∃ s,ds=[encT s] /\ wy s /\ Q .non μ
theorem in_w {w:Int} (h:w=0 \/ w=1) (μ:Mu) (K:VK3) (k:K (.bl false) μ):inR true (.int w) wc1 μ K:=by
 show ((PyData.int w).depth<=64 /\ (PyData.tuple [.int 0,.int 1]).depth<=64) /\ K (.bl (!([.int 0,.int 1]:List PyData).any λ e=>PyData.eqv e (.int w))) μ;refine ⟨⟨by simp [PyData.depth],by simp [PyData.depth,PyData.depthAll]⟩,?_⟩;have e:(([.int 0,.int 1]:List PyData).any λ e=>PyData.eqv e (.int w))=true:=by rcases h with rfl | rfl <;> simp [PyData.eqv]
 rw [e];exact k
theorem ya4 (ds:List D) (μ:Mu) (Q:VK3) (h:sv1 ds μ Q):tq3 { nx:=λ _ μ'=>Q .non μ',rt:=Q } (xd0 wn3 ds) μ:=by
 obtain ⟨⟨x,y,w⟩,rfl,hw,q⟩:=h
 show inR true (.int w) wc1 μ (λ d μ1=>match d with
  | .bl c=>(if c=true then _ else _)
  | _=>False)
 exact in_w hw μ _ q
def Lt (a b:T3):Prop:=lt3 a b=true
def Pc (ts:[34]):Prop:=ts.Pairwise Lt /\ (∀ t ∈ ts,wy t) /\ ts.length < 60
theorem xi1 {ts:[34]} {i:Int} (h0:0<=i) (h1:i < ts.length):∃ h:i.toNat < ts.length,atI (ts.map encT) i=some (encT ts[i.toNat]):=by
 have h2:i.toNat < ts.length:=by omega
 refine ⟨h2,?_⟩;unfold atI ixN;rw [if_pos h0,if_pos [18]];simp [getElem?_eq_getElem h2]
def vk1:Sp3:=λ ds μ Q=>∃ ts,ds=[.tup (ts.map encT)] /\ Pc ts /\ Q .non μ
theorem za4 (ds:List D) (μ:Mu) (Q:VK3) (h:vk1 ds μ Q):sq3 sv1 { nx:=λ _ μ'=>Q .non μ',rt:=Q } (xd0 vn3 ds) μ:=by
 obtain ⟨ts,rfl,⟨h1,h2,h3⟩,q⟩:=h;refine to0 (λ l ρ μ'=>μ'=μ /\ ∃ (us:[34]) (dd:Option D),l=us.map encT /\ (∀ t ∈ us,wy t) /\ ρ=[some [25],dd,none]) ?_ (λ _ _ _ _=>trivial) ?_ ?_
 ·exact ⟨rfl,ts,none,rfl,h2,rfl⟩
 ·rintro ρ μ' ⟨rfl,us,dd,e,_,rfl⟩;refine ⟨⟨by decide,by decide,by rw [length_map]; omega,by rw [length_map]; omega⟩,?_⟩;refine to0 (λ l ρ ν=>ν=μ' /\ ∃ (k:Nat) (pp:Option D),l=rngD (1 + (k:Int)) (ts.length - 1 - k) /\ ρ=[some [25],dd,pp]) ?_ (λ _ _ _ _=>trivial) ?_ ?_
  ·refine ⟨rfl,0,none,?_,rfl⟩;rw [length_map,show ((ts.length:Int) - 1).toNat=ts.length - 1 - 0 by omega];simp
  ·rintro ρ μ2 ⟨rfl,k,pp,_,rfl⟩;exact q
  ·rintro GG hG x rest ρ μ2 ⟨rfl,k,pp,e,rfl⟩;cases n:ts.length - 1 - k with
   | zero=>rw [n] at e; simp [rngD] at e
   | succ m =>
    rw [n,vh0] at e;injection e with e1 e2
    subst e1 e2;subst hG;obtain ⟨b1,e1⟩:=xi1 (ts:=ts) (i:=1 + (k:Int) - 1) [2] [2];obtain ⟨b2,e2⟩:=xi1 (ts:=ts) (i:=1 + (k:Int)) [2] [2];have lt:lt3 ts[(1 + (k:Int) - 1).toNat] ts[(1 + (k:Int)).toNat]=true:=List.pairwise_iff_getElem.mp h1 _ _ b1 b2 [2];show ixR [25] (.int (1 + (k:Int) - 1)) μ2 (λ x μ1=>_);refine tc2 e1 ?_;show ixR [25] (.int (1 + (k:Int))) μ2 (λ x μ1=>_);refine tc2 e2 ?_;show if (!lt3 ts[(1 + (k:Int) - 1).toNat] ts[(1 + (k:Int)).toNat])=true then _ else _;rw [lt,if_neg [7]];refine ⟨rfl,k + 1,_,?_,rfl⟩;rw [show ts.length - 1 - (k + 1)=m by omega];congr 1
 ·rintro GG hG x rest ρ μ' ⟨rfl,us,dd,e,hw,rfl⟩;cases us with
  | nil=>cases e
  | cons t us =>
   rw [map_cons] at e;injection e with e1 e2
   subst e1 e2;subst hG;exact ⟨t,rfl,hw t (mem_cons_self ..),rfl,us,_,rfl,λ s hs=>hw s (mem_cons_of_mem _ hs),rfl⟩
theorem ve4 {ks us:[34]} (hn:ks.Nodup) (hw:∀ t ∈ ks,wy t) (hl:ks.length < 60) (a1:us.Perm ks) (a2:us.Pairwise le3):Pc us:=by
 have hn':us.Nodup:=a1.nodup_iff.mpr hn;refine ⟨?_,λ t ht=>hw t (a1.mem_iff.mp ht),by rw [a1.length_eq]; exact hl⟩;have both:us.Pairwise λ a b=>le3 a b /\ a ≠ b:=List.Pairwise.and a2 hn';refine both.imp λ {a b} h=>?_;obtain ⟨x1,x2,x3⟩:=a;obtain ⟨y1,y2,y3⟩:=b;obtain ⟨h1,h2⟩:=h;unfold le3 at h1;unfold Lt;simp only [ne_eq,Prod.mk.injEq] at h2;simp only [lt3,Bool.or_eq_false_iff,Bool.and_eq_false_iff,decide_eq_false_iff_not,beq_eq_false_iff_ne,ne_eq] at h1;simp only [lt3,Bool.or_eq_true,Bool.and_eq_true,decide_eq_true_eq,beq_iff_eq];omega
theorem uu4 {a b:T3} (h:Lt a b):le3 a b:=by
 obtain ⟨x1,x2,x3⟩:=a;obtain ⟨y1,y2,y3⟩:=b;simp only [Lt,lt3,Bool.or_eq_true,Bool.and_eq_true,decide_eq_true_eq,beq_iff_eq] at h;simp only [le3,lt3,Bool.or_eq_false_iff,Bool.and_eq_false_iff,decide_eq_false_iff_not,beq_eq_false_iff_ne,ne_eq];omega
theorem ut4 {ts:[34]} (h:Pc ts):ts.Pairwise le3:=h.1.imp uu4
theorem tr1 {ts:[34]} (h:Pc ts):ts.Nodup:=h.1.imp λ {a b} h e=>by
 subst e;simp [Lt,lt3] at h
theorem uy0 {S:Mu->Prop} {p:Addr} {tc:TT3} {Q:VK3} {l:List D} {o:Option D} {rest:St3} {μ:Mu} (f:D->Bool) (hp:μ p=none) (hl:l.length<=sizeLine) (hS:∀ μ',Ext μ μ'->S μ')
    (hx:∀ x ∈ l,∀ μ' R,Ext μ μ'->R (f x) μ'->tc (some x :: rest) μ' R) (hQ:∀ μ',Ext μ μ'->μ' p=some (.lst (l.filter f))->Q (.ref p) μ'):yt1 S p (gn3 0) tc (v3 0) Q l (o :: rest) (updM μ p (.lst [])):=by
 refine ⟨λ r ys ρ μ'=>Ext μ μ' /\ μ' p=some (.lst ys) /\ (∃ o',ρ=o' :: rest) /\ ∃ a,a ++ r=l /\ ys=a.filter f,?_,?_,?_,?_⟩
 ·exact ⟨Ext.new hp,za0,⟨o,rfl⟩,[],rfl,rfl⟩
 ·rintro r ys ρ μ' ⟨h1,h2,_⟩;exact ⟨hS _ h1,h2⟩
 ·rintro ys ρ μ' ⟨h1,h2,_,a,e,rfl⟩;rw [append_nil] at e;subst e;exact hQ _ h1 h2
 ·rintro x r ys ρ μ' ⟨h1,h2,⟨o',rfl⟩,a,e,rfl⟩;refine ⟨?_,?_⟩
  ·have h3:=congrArg List.length e;rw [length_append,length_cons] at h3;have:=length_filter_le f a;omega
  ·refine hx x (by rw [<- e]; simp) μ' _ h1 ?_;have e2:(a ++ [x]) ++ r=l:=by rw [<- e]; simp
   cases c:f x with
   | true =>
    refine ⟨h2,λ b v hb=>?_,za0,⟨_,rfl⟩,a ++ [x],e2,?_⟩
    ·rw [sa0 (ub0 hb hp)];exact h1 b v hb
    ·rw [filter_append];simp [c]
   | false =>
    refine ⟨h1,h2,⟨_,rfl⟩,a ++ [x],e2,?_⟩;rw [filter_append];simp [c]
theorem zj3 (g:T3->Bool) (A:[34]):(A.map encT).filter (λ d=>g (decT d))=(A.filter g).map encT:=by
 rw [List.filter_map];rfl
theorem sv0 {p q:Addr} {l m:List D} {μ:Mu} {Q:VK3} (h1:μ p=some (.lst l)) (h2:μ q=some (.lst m)) (hz:l.length + m.length<=sizeLine) (k:∀ r,μ r=none->Q (.ref r) (updM μ r (.lst (l ++ m)))):addR (.ref p) (.ref q) μ Q:=by
 unfold addR;simp only [h1,h2];exact ⟨hz,k⟩
theorem uz2 {p:Addr} {l:List D} {μ:Mu} {Q:VK3} (h:μ p=some (.lst l)) (k:Q (.tup l) μ):tupR [.ref p] μ Q:=by
 unfold tupR;simp only [h];exact k
def tk3 (t:T3):List Int:=[t.1,t.2.1,t.2.2]
theorem yo4 {p:Addr} {ts:[34]} {μ:Mu} {Q:VK3} (h:μ p=some (.lst (ts.map encT))) (h64:ts.length < 64) (k:∀ us:List T3,us.Perm ts->us.Pairwise le3->∀ r,μ r=none->Q (.ref r) (updM μ r (.lst (us.map encT)))):srtR [.ref p] μ Q:=by
 have hz:(100:Nat) < sizeLine:=by decide
 have e:t3s? (ts.map encT)=some ts:=yf1 ts;simp only [srtR,h,e];exact ⟨by omega,k⟩
theorem yh1 {g:TG3} {tb:TS3} {D':Ends3} {x y:D} {ρ:St3} {μ:Mu} (N1 N2:St3->Mu->Prop) (h1:g x ρ μ λ ρ1 μ1=>tb { D' with nx:=N1,ct:=N1,bk:=D'.nx } ρ1 μ1)
    (h2:∀ ρ μ,N1 ρ μ->g y ρ μ λ ρ1 μ1=>tb { D' with nx:=N2,ct:=N2,bk:=D'.nx } ρ1 μ1) (h3:∀ ρ μ,N2 ρ μ->D'.nx ρ μ):yd1 (λ _=>True) g tb D' [x,y] ρ μ :=
 ⟨trivial,N1,λ ρ' μ' n=>⟨trivial,N2,λ ρ2 μ2 n2=>⟨trivial,h3 ρ2 μ2 n2⟩,h2 ρ' μ' n⟩,h1⟩
def ptk (p:Pt):List Int:=[p.1,p.2]
theorem ug1 (p:Pt):keyI (encQ p)=some (ptk p):=rfl
def atk (A:List (Pt × Addr)):List (List Int × D):=A.map λ x=>(ptk x.1,.ref x.2)
theorem vl0 {p q:Pt} (h:ptk p=ptk q):p=q:=by
 unfold ptk at h;injection h with h1 h2
 injection h2 with h2 _
 exact Prod.ext h1 h2
theorem vi1:∀ {A:List (Pt × Addr)} {p:Pt} {q:Addr},(A.map (·.1)).Nodup->(p,q) ∈ A->valL (atk A) (ptk p)=some (.ref q)
 | (p',q') :: A,p,q,hn,hm=>by
  rw [map_cons,nodup_cons] at hn;by_cases c:p'=p
  ·subst c;rcases List.mem_cons.mp hm with e | e
   ·cases e; simp [valL,atk]
   ·exact absurd (List.mem_map.mpr ⟨_,e,rfl⟩) hn.1
  ·rcases List.mem_cons.mp hm with e | e
   ·cases e; exact absurd rfl c
   ·have c':¬ ptk p'=ptk p:=λ z=>c (vl0 z);have:=vi1 hn.2 e;simp only [valL,atk,map_cons,find?_cons,c',decide_false] at this ⊢;exact this
theorem ss2:∀ {A:List (Pt × Addr)} {p:Pt},p ∉ A.map (·.1)->valL (atk A) (ptk p)=none
 | [],p,_=>rfl
 | (p',q') :: A,p,hm=>by
  rw [map_cons,mem_cons,not_or] at hm;have c':¬ ptk p'=ptk p:=λ z=>hm.1 (vl0 z).symm;have:=ss2 hm.2;simp only [valL,atk,map_cons,find?_cons,c',decide_false] at this ⊢;exact this
theorem tb4 {A:List (Pt × Addr)} {p:Pt} {y:D} (h:p ∉ A.map (·.1)):putL (atk A) (ptk p) y=atk A ++ [(ptk p,y)]:=by
 unfold putL;rw [if_neg];intro z;obtain ⟨kv,h1,h2⟩:=List.any_eq_true.mp z;obtain ⟨x,hx,rfl⟩:=List.mem_map.mp h1;exact h (List.mem_map.mpr ⟨x,hx,vl0 (of_decide_eq_true h2)⟩)
theorem xt3 {d:Addr} {kvs:List (List Int × D)} {p:Pt} {v:D} {μ:Mu} {Q:VK3} {o0 o2:Option D} (h:μ d=some (.dcl kvs)) (hl:kvs.length < 90000) (hv:valL kvs (ptk p)=some v) (k:∀ r,μ r=none->Q v (updM μ r (.lst []))) :
    sdf3 (v3 1) (va0 (v3 3) (va0 (lst3 nil3) nil3)) [o0,some (.ref d),o2,some (encQ p)] μ Q:=by
 conv=>whnf
 rw [h];refine ⟨Nat.zero_le _,λ r hr=>?_⟩;have hd:updM μ r (.lst []) d=some (.dcl kvs):=by rw [sa0 (ub0 h hr)]; exact h
 conv=>whnf
 rw [hd];refine ⟨hl,?_⟩;have hv':valL kvs [p.1,p.2]=some v:=hv;rw [hv'];exact k r hr
theorem yt3 {d:Addr} {kvs:List (List Int × D)} {p:Pt} {μ:Mu} {Q:VK3} {o0 o2:Option D} (h:μ d=some (.dcl kvs)) (hl:kvs.length < 90000) (hv:valL kvs (ptk p)=none) (k:∀ r,μ r=none->Q (.ref r) (updM (updM μ r (.lst [])) d (.dcl (putL kvs (ptk p) (.ref r))))) :
    sdf3 (v3 1) (va0 (v3 3) (va0 (lst3 nil3) nil3)) [o0,some (.ref d),o2,some (encQ p)] μ Q:=by
 conv=>whnf
 rw [h];refine ⟨Nat.zero_le _,λ r hr=>?_⟩;have hd:updM μ r (.lst []) d=some (.dcl kvs):=by rw [sa0 (ub0 h hr)]; exact h
 conv=>whnf
 rw [hd];refine ⟨hl,?_⟩;have hv':valL kvs [p.1,p.2]=none:=hv;rw [hv'];exact k r hr
theorem zt1 {q:Addr} {l:List D} {x:D} {μ:Mu} {Q:VK3} (h:μ q=some (.lst l)) (hl:l.length < sizeLine) (k:Q .non (updM μ q (.lst (l ++ [x])))):appR (.ref q) [x] μ Q:=by
 unfold appR;simp only [h];exact ⟨hl,k⟩
def here {α:Type} (L:List (Pt × α)) (p:Pt):List α:=(L.filter λ y=>decide (y.1=p)).map (·.2)
theorem sc1 {α:Type} (L:List (Pt × α)) (p:Pt) (t:α):here (L ++ [(p,t)]) p=here L p ++ [t]:=by
 unfold here; rw [filter_append]; simp
theorem we2 {α:Type} (L:List (Pt × α)) {p q:Pt} (t:α) (h:q ≠ p):here (L ++ [(p,t)]) q=here L q:=by
 unfold here; rw [filter_append];have:¬ p=q:=λ z=>h z.symm;simp [this]
theorem vi3 {α:Type} {L:List (Pt × α)} {p:Pt} (h:p ∉ L.map (·.1)):here L p=[]:=by
 unfold here;rw [List.filter_eq_nil_iff.mpr]; rfl;intro y hy z;exact h (List.mem_map.mpr ⟨y,hy,of_decide_eq_true z⟩)
theorem vq2 {α:Type} (L:List (Pt × α)) (p:Pt):(here L p).length<=L.length:=by
 unfold here; rw [length_map]; exact length_filter_le _ _
structure AtI {α:Type} (en:α->D) (μ0 μ:Mu) (d:Addr) (L:List (Pt × α)) (A:List (Pt × Addr)):Prop where
 ex:Ext μ0 μ
 fr:μ0 d=none
 dc:μ d=some (.dcl (atk A))
 nd:(A.map (·.1)).Nodup
 me:∀ p,p ∈ A.map (·.1) ↔ p ∈ L.map (·.1)
 le:A.length<=L.length
 n2:(A.map (·.2)).Nodup
 fr2:∀ x ∈ A,μ0 x.2=none
 ls:∀ x ∈ A,μ x.2=some (.lst ((here L x.1).map en))
theorem Ext.upd {μ0 μ:Mu} {p:Addr} {o:MO} (e:Ext μ0 μ) (h:μ0 p=none):Ext μ0 (updM μ p o):=λ a u q=>by
 rw [sa0 (ub0 q h)]; exact e a u q
theorem vr0 {α β γ:Type} {l:List γ} {f:γ->α} (h:(l.map f).Nodup):∀ {x y:γ},x ∈ l->y ∈ l->f x=f y->x=y:=by
 induction l with
 | nil=>intro x y hx; cases hx
 | cons z r ih =>
  intro x y hx hy e;rw [map_cons,nodup_cons] at h;rcases List.mem_cons.mp hx with x1 | x1
  ·rcases List.mem_cons.mp hy with y1 | y1
   ·rw [x1,y1]
   ·rw [x1] at e; exact absurd (List.mem_map.mpr ⟨y,y1,e.symm⟩) h.1
  ·rcases List.mem_cons.mp hy with y1 | y1
   ·rw [y1] at e; exact absurd (List.mem_map.mpr ⟨x,x1,e⟩) h.1
   ·exact ih h.2 x1 y1 e
theorem xb2 {A:List (Pt × Addr)} {p q:Pt} {a:Addr} (h:(A.map (·.2)).Nodup) (x:(p,a) ∈ A) (y:(q,a) ∈ A):p=q:=congrArg Prod.fst (vr0 (β:=Nat) h x y rfl)
theorem sb1 {A:List (Pt × Addr)} {p:Pt} {a b:Addr} (h:(A.map (·.1)).Nodup) (x:(p,a) ∈ A) (y:(p,b) ∈ A):a=b:=congrArg Prod.snd (vr0 (β:=Nat) h x y rfl)
theorem vz0 {α:Type} {en:α->D} {μ0 μ:Mu} {d:Addr} {L:List (Pt × α)} {A:List (Pt × Addr)} {p:Pt} {t:α} {o0:Option D} {Q:VK3} (I:AtI en μ0 μ d L A) (hL:L.length < 500) (q:∀ μ' A',AtI en μ0 μ' d (L ++ [(p,t)]) A'->Q .non μ') :
    mt3 appR (sdf3 (v3 1) (va0 (v3 3) (va0 (lst3 nil3) nil3))) (va0 (v3 2) nil3) [o0,some (.ref d),some (en t),some (encQ p)] μ Q:=by
 have hz:(1000:Nat) < sizeLine:=by decide
 have hA:(atk A).length < 90000:=by unfold atk; rw [length_map]; have:=I.le; omega
 by_cases c:p ∈ A.map (·.1)
 ·obtain ⟨⟨p',a⟩,ha,e⟩:=List.mem_map.mp c;dsimp only at e; subst e;refine xt3 I.dc hA (vi1 I.nd ha) λ r hr=>?_;have hl:=I.ls _ ha;have hla:updM μ r (.lst []) a=some (.lst ((here L p').map en)):=by rw [sa0 (ub0 hl hr)]; exact hl
  conv=>whnf
  rw [hla];refine zt1 hla (by rw [length_map]; have:=vq2 L p'; omega) (q _ A ⟨?_,I.fr,?_,I.nd,?_,?_,I.n2,I.fr2,?_⟩)
  ·exact (I.ex.trans (Ext.new hr)).upd (I.fr2 _ ha)
  ·rw [sa0 (λ z=>by subst z; rw [I.dc] at hl; cases hl),sa0 (ub0 I.dc hr)]; exact I.dc
  ·intro p;rw [I.me,map_append,mem_append];refine ⟨.inl,?_⟩;rintro (h | h)
   ·exact h
   ·have e:p=p':=by simpa using h
    subst e;exact (I.me _).mp c
  ·rw [length_append]; have:=I.le; omega
  ·rintro ⟨p2,a2⟩ h2;dsimp only;by_cases c2:a2=a
   ·subst c2
    have e:p2=p':=by
     exact xb2 I.n2 h2 ha
    subst e;rw [za0,sc1,map_append]; rfl
   ·have c3:p2 ≠ p':=λ z=>by subst z; exact c2 (sb1 I.nd h2 ha)
    rw [sa0 c2,sa0 (ub0 (I.ls _ h2) hr),we2 _ _ c3];exact I.ls _ h2
 ·refine yt3 I.dc hA (ss2 c) λ r hr=>?_;have hrd:r ≠ d:=λ z=>by subst z; rw [I.dc] at hr; cases hr
  have hla:updM (updM μ r (.lst [])) d (.dcl (putL (atk A) (ptk p) (.ref r))) r=some (.lst []):=by rw [sa0 hrd,za0]
  conv=>whnf
  rw [hla];have hL':here L p=[]:=vi3 λ z=>c ((I.me p).mpr z);refine zt1 hla (Nat.lt_of_lt_of_le (by decide:0 < 1000) (Nat.le_of_lt hz)) (q _ (A ++ [(p,r)]) ⟨?_,I.fr,?_,?_,?_,?_,?_,?_,?_⟩)
  ·exact ((I.ex.trans (Ext.new hr)).upd I.fr).upd (I.ex.free hr)
  ·rw [sa0 (Ne.symm hrd),za0,tb4 c];unfold atk; rw [map_append]; rfl
  ·rw [map_append,nodup_append];refine ⟨I.nd,by simp,λ a ha b hb e=>?_⟩;have:b=p:=by simpa using hb
   subst this; subst e;exact c ha
  ·intro p2;rw [map_append,map_append,mem_append,mem_append,I.me]; rfl
  ·rw [length_append,length_append]; have:=I.le; simp only [length_cons,length_nil]; omega
  ·rw [map_append,nodup_append];refine ⟨I.n2,by simp,λ a ha b hb e=>?_⟩;have:b=r:=by simpa using hb
   subst this; subst e;obtain ⟨x,hx,rfl⟩:=List.mem_map.mp ha;have:=I.ls x hx;rw [hr] at this; cases this
  ·intro x hx;rcases List.mem_append.mp hx with h | h
   ·exact I.fr2 x h
   ·have:x=(p,r):=by simpa using h
    subst this;exact I.ex.free hr
  ·intro x hx;rcases List.mem_append.mp hx with h | h
   ·have hl:=I.ls x h;have c3:x.1 ≠ p:=λ z=>c (List.mem_map.mpr ⟨x,h,z⟩);have c4:x.2 ≠ d:=λ z=>by rw [z,I.dc] at hl; cases hl
    rw [sa0 (ub0 hl hr),sa0 c4,sa0 (ub0 hl hr),we2 _ _ c3];exact hl
   ·have:x=(p,r):=by simpa using h
    subst this;dsimp only;rw [za0,sc1,hL']; rfl
def incs (ts:[34]):List (Pt × T3):=ts.flatMap λ t=>[(e0 t,t),(e1 t,t)]
theorem xe2 (ts:[34]) (s:T3):incs (ts ++ [s])=incs ts ++ [(e0 s,s)] ++ [(e1 s,s)]:=by
 unfold incs; rw [flatMap_append]; simp
theorem tx0 (ts:[34]):(incs ts).length=2 * ts.length:=by
 induction ts with
 | nil=>rfl
 | cons s r ih=>unfold incs at ih ⊢; rw [flatMap_cons,length_append,ih]; simp; omega
theorem vs0 (p:Pt):∀ ts:List T3,here (incs ts) p=ts.filter (has p)
 | []=>rfl
 | s :: r=>by
  have ih:=vs0 p r;have e:incs (s :: r)=(e0 s,s) :: (e1 s,s) :: incs r:=rfl;rw [e,filter_cons];unfold here at ih ⊢;rw [filter_cons,filter_cons];dsimp only;have ne:=e_ne s;have hh:has p s=(decide (e0 s=p) || decide (e1 s=p)):=rfl;rw [hh];by_cases c0:e0 s=p
  ·have c1:¬ e1 s=p:=λ z=>ne (c0.trans z.symm);simp only [c0,c1,decide_true,decide_false,if_true,Bool.true_or,map_cons,Bool.false_eq_true,if_false,ih]
  ·by_cases c1:e1 s=p
   ·simp only [c0,c1,decide_true,decide_false,if_true,Bool.false_or,map_cons,Bool.false_eq_true,if_false,ih]
   ·simp only [c0,c1,decide_false,Bool.or_self,Bool.false_eq_true,if_false,ih]
theorem incs_mem {ts:[34]} {p:Pt}:p ∈ (incs ts).map (·.1) ↔ ∃ s ∈ ts,has p s=true:=by
 constructor
 ·intro h;obtain ⟨⟨p',t⟩,h1,rfl⟩:=List.mem_map.mp h;obtain ⟨s,hs,h2⟩:=List.mem_flatMap.mp h1;rcases List.mem_cons.mp h2 with e | h2
  ·cases e; exact ⟨_,hs,tj0 _⟩
  ·have e:=List.mem_singleton.mp h2;cases e; exact ⟨_,hs,uo0 _⟩
 ·rintro ⟨s,hs,h⟩;rcases wl0 h with rfl | rfl
  ·exact List.mem_map.mpr ⟨(e0 s,s),List.mem_flatMap.mpr ⟨s,hs,by simp⟩,rfl⟩
  ·exact List.mem_map.mpr ⟨(e1 s,s),List.mem_flatMap.mpr ⟨s,hs,by simp⟩,rfl⟩
def spAt:Sp3:=λ ds μ Q=>∃ ts:List T3,ds=[.tup (ts.map encT)] /\ (∀ t ∈ ts,wy t) /\ ts.length < 60 /\ ∀ d A μ',AtI encT μ μ' d (incs ts) A->Q (.ref d) μ'
theorem ty3 (ds:List D) (μ:Mu) (Q:VK3) (h:spAt ds μ Q):wp3 va1 { nx:=λ _ μ'=>Q .non μ',rt:=Q } (xd0 xm3 ds) μ:=by
 obtain ⟨ts,rfl,hw,hl,q⟩:=h;intro d hd;refine sl0 (λ l ρ μ'=>∃ (us vs:[34]) (A:List (Pt × Addr)) (o2 o3:Option D),l=us.map encT /\ vs ++ us=ts /\ ρ=[some [25],some (.ref d),o2,o3] /\ AtI encT μ μ' d (incs vs) A) ?_ (λ _ _ _ _=>trivial) ?_ ?_
 ·exact ⟨ts,[],[],none,none,rfl,rfl,rfl,Ext.new hd,hd,za0,nodup_nil,λ p=>Iff.rfl,Nat.le_refl _,nodup_nil,λ _ h=>(nomatch h),λ _ h=>(nomatch h)⟩
 ·rintro ρ μ' ⟨us,vs,A,o2,o3',e,ev,rfl,I⟩;cases us with
  | cons _ _=>cases e
  | nil =>
   rw [append_nil] at ev;subst ev;exact q d A μ' I
 ·rintro x rest ρ μ' ⟨us,vs,A,o2,o3',e,ev,rfl,I⟩;cases us with
  | nil=>cases e
  | cons s us =>
   rw [map_cons] at e;injection e with e1 e2
   subst e1 e2;have hs:s ∈ ts:=by rw [<- ev]; simp
   have hl2:vs.length < 60:=by rw [<- ev,length_append] at hl; omega
   have ln:(incs vs).length < 400:=by rw [tx0]; omega
   refine ⟨s,rfl,hw s hs,?_⟩;refine yh1 (λ ρ μ'=>∃ A o3,ρ=[some [25],some (.ref d),some (encT s),o3] /\ AtI encT μ μ' d (incs vs ++ [(e0 s,s)]) A) (λ ρ μ'=>∃ A o3,ρ=[some [25],some (.ref d),some (encT s),o3] /\ AtI encT μ μ' d (incs vs ++ [(e0 s,s)] ++ [(e1 s,s)]) A) ?_ ?_ ?_
   ·exact vz0 (p:=e0 s) I [2] λ μ2 A2 I2=>⟨A2,_,rfl,I2⟩
   ·rintro ρ μ1 ⟨A1,o3'',rfl,I1⟩;exact vz0 (p:=e1 s) I1 (by rw [length_append]; simp only [length_cons,length_nil]; omega) λ μ2 A2 I2=>⟨A2,_,rfl,I2⟩
   ·rintro ρ μ1 ⟨A1,o3'',rfl,I1⟩;rw [<- xe2] at I1;exact ⟨us,vs ++ [s],A1,_,_,rfl,by rw [<- ev]; simp,rfl,I1⟩
theorem xh4 (t:T3):keyI (encT t)=some (tk3 t):=rfl
def snk (S:[34]):List (List Int × D):=S.map λ t=>(tk3 t,.bl true)
theorem uu1 {a b:T3} (h:tk3 a=tk3 b):a=b:=by
 unfold tk3 at h;injection h with h1 h2
 injection h2 with h2 h3
 injection h3 with h3 _
 exact Prod.ext h1 (Prod.ext h2 h3)
theorem ut1:∀ (S:[34]) (t:T3),(valL (snk S) (tk3 t)).isSome=decide (t ∈ S)
 | [],t=>by simp [valL,snk]
 | s :: S,t=>by
  have ih:=ut1 S t;by_cases c:s=t
  ·subst c; simp [valL,snk]
  ·have c':¬ tk3 s=tk3 t:=λ z=>c (uu1 z);have c2:¬ t=s:=λ z=>c z.symm;simp only [valL,snk,map_cons,find?_cons,c',decide_false,mem_cons,c2,false_or] at ih ⊢;exact ih
theorem ub4 {S:[34]} {t:T3} (h:t ∉ S):putL (snk S) (tk3 t) (.bl true)=snk (S ++ [t]):=by
 unfold putL;rw [if_neg]
 ·unfold snk; rw [map_append]; rfl
 ·intro z;obtain ⟨kv,h1,h2⟩:=List.any_eq_true.mp z;obtain ⟨x,hx,rfl⟩:=List.mem_map.mp h1;have e:=uu1 (of_decide_eq_true h2);exact h (e ▸ hx)
theorem uj4 {s:Addr} {S:[34]} {t:T3} {μ:Mu} {Q:VK3} (h:μ s=some (.dcl (snk S))) (k:Q (.bl (!decide (t ∈ S))) μ):dinR true (encT t) (.ref s) μ Q:=by
 unfold dinR;simp only [xh4,h,ut1];exact k
theorem sb4 {s:Addr} {S:[34]} {t:T3} {μ:Mu} {D':Ends3} {ρ:St3} {to ti:TE3} (h:μ s=some (.dcl (snk S))) (hl:S.length < 90000) (ht:t ∉ S) (h1:∀ R,R (.ref s) μ->to ρ μ R) (h2:∀ R,R (encT t) μ->ti ρ μ R) (k:D'.nx ρ (updM μ s (.dcl (snk (S ++ [t]))))):xo0 to ti (c3 (.bl true)) D' ρ μ:=by
 refine h1 _ (h2 _ ?_);simp only [xh4,h];refine ⟨by unfold snk; rw [length_map]; exact hl,?_⟩;rw [ub4 ht];exact k
def wk1:Sp3:=λ ds μ Q=>∃ (q s:Addr) (l S:[34]),ds=[.ref q,.ref s] /\ μ q=some (.lst (l.map encT)) /\ μ s=some (.dcl (snk S)) /\ l.Nodup /\ S.length + l.length < 500 ∧
 ∀ r μ',ExtB s μ μ'->μ r=none->μ' r=some (.lst ((l.filter λ t=>!decide (t ∈ S)).map encT))->μ' s=some (.dcl (snk (S ++ l.filter λ t=>!decide (t ∈ S))))->Q (.ref r) μ'
theorem uy3 (ds:List D) (μ:Mu) (Q:VK3) (h:wk1 ds μ Q):zp3 { nx:=λ _ μ'=>Q .non μ',rt:=Q } (xd0 tl3 ds) μ:=by
 obtain ⟨q,s,l,S,rfl,hq,hs,hn,hl,k⟩:=h;have hz:(1000:Nat) < sizeLine:=by decide
 have hqs:q ≠ s:=λ z=>by subst z; rw [hq] at hs; cases hs
 conv=>whnf
 rw [hq];intro p hp;refine uy0 (rest:=[some (.ref s)]) (λ d=>!decide (decT d ∈ S)) hp [18] (λ μ' ex=>ex _ _ hq) ?_ ?_
 ·intro x hx μ' R ex kk;obtain ⟨t,ht,rfl⟩:=List.mem_map.mp hx;exact uj4 (Q:=λ d μ1=>match d with | .bl c=>R c μ1 | _=>False) (ex _ _ hs) kk
 ·intro μ1 ex e1;rw [zj3 (λ t=>!decide (t ∈ S))] at e1;have hs1:=ex _ _ hs;have hps:p ≠ s:=λ z=>by subst z; rw [hs1] at e1; cases e1
  generalize hL:(l.filter λ t=>!decide (t ∈ S))=L at e1 k
  have LS:∀ t ∈ L,t ∉ S:=λ t ht=>by
   rw [<- hL,mem_filter] at ht;simpa using ht.2
  have Ln:L.Nodup:=by rw [<- hL]; exact hn.filter _
  have Ll:L.length<=l.length:=by rw [<- hL]; exact length_filter_le _ _
  conv=>whnf
  rw [e1];refine sl0 (λ l' ρ μ'=>∃ (us vs:[34]) (o:Option D),l'=us.map encT /\ vs ++ us=L /\ ρ=[some (.ref q),some (.ref s),some (.ref p),o] /\ ExtB s μ1 μ' /\ μ' s=some (.dcl (snk (S ++ vs)))) ?_ ?_ ?_ ?_
  ·exact ⟨L,[],none,rfl,rfl,rfl,ExtB.refl _ _,by rw [append_nil]; exact hs1⟩
  ·rintro l' ρ μ' ⟨us,vs,o,_,_,_,eb,_⟩;exact eb _ _ hps e1
  ·rintro ρ μ' ⟨us,vs,o,e,ev,rfl,eb,hs'⟩;cases us with
   | cons _ _=>cases e
   | nil =>
    rw [append_nil] at ev;subst ev;exact k p μ' ((ex.b s).trans eb) hp (eb _ _ hps e1) hs'
  ·rintro x rest ρ μ' ⟨us,vs,o,e,ev,rfl,eb,hs'⟩;cases us with
   | nil=>cases e
   | cons t us =>
    rw [map_cons] at e;injection e with e2 e3
    subst e2 e3
    have ht:t ∉ S ++ vs:=λ z=>by
     rcases List.mem_append.mp z with z | z
     ·exact LS t (by rw [<- ev]; simp) z
     ·rw [<- ev] at Ln;exact (List.nodup_append.mp Ln).2.2 t z t [16] rfl
    have ll:(S ++ vs).length < 90000:=by rw [length_append]; rw [<- ev,length_append] at Ll; omega
    refine sb4 (to:=v3 1) (ti:=v3 3) hs' ll ht (λ R r=>r) (λ R r=>r) ⟨us,vs ++ [t],_,rfl,by rw [<- ev]; simp,rfl,eb.trans ExtB.upd,?_⟩;rw [za0,append_assoc]
structure AtD (μ:Mu) (d:Addr) (ts:List T3) (A:List (Pt × Addr)):Prop where
 dc:μ d=some (.dcl (atk A))
 nd:(A.map (·.1)).Nodup
 me:∀ p,p ∈ A.map (·.1) ↔ ∃ s ∈ ts,has p s=true
 le:A.length<=2 * ts.length
 ls:∀ x ∈ A,μ x.2=some (.lst ((ts.filter (has x.1)).map encT))
theorem AtI.d {μ0 μ:Mu} {d:Addr} {ts:[34]} {A:List (Pt × Addr)} (I:AtI encT μ0 μ d (incs ts) A):AtD μ d ts A :=
 ⟨I.dc,I.nd,λ p=>(I.me p).trans incs_mem,by rw [<- tx0]; exact I.le,λ x hx=>by rw [I.ls x hx,vs0]⟩
theorem AtD.ext {μ μ':Mu} {d s:Addr} {ts:[34]} {A:List (Pt × Addr)} {S:List (List Int × D)} (a:AtD μ d ts A) (hs:μ s=some (.dcl S)) (ne:d ≠ s) (e:ExtB s μ μ'):AtD μ' d ts A :=
 ⟨e _ _ ne a.dc,a.nd,a.me,a.le,λ x hx=>e _ _ (λ z=>by have:=a.ls x hx; rw [z,hs] at this; cases this) (a.ls x hx)⟩
theorem AtD.mono {μ μ':Mu} {d:Addr} {ts:[34]} {A:List (Pt × Addr)} (a:AtD μ d ts A) (e:Ext μ μ'):AtD μ' d ts A:=⟨e _ _ a.dc,a.nd,a.me,a.le,λ x hx=>e _ _ (a.ls x hx)⟩
theorem sj4 {μ:Mu} {d:Addr} {ts:[34]} {A:List (Pt × Addr)} {p:Pt} {Q:VK3} (a:AtD μ d ts A) (h:∃ s ∈ ts,has p s=true) (k:∀ q,μ q=some (.lst ((ts.filter (has p)).map encT))->Q (.ref q) μ):dgR (.ref d) (encQ p) μ Q:=by
 obtain ⟨⟨p',q⟩,hx,e⟩:=List.mem_map.mp ((a.me p).mpr h);dsimp only at e; subst e;unfold dgR;simp only [ug1,a.dc,vi1 a.nd hx];exact k q (a.ls _ hx)
theorem uq2 {p q:Addr} {l m:List D} {μ:Mu} {Q:VK3} (h1:μ p=some (.lst l)) (h2:μ q=some (.lst m)) (hl:l.length + m.length<=sizeLine) (k:Q .non (updM μ p (.lst (l ++ m)))):extR (.ref p) [.ref q] μ Q:=by
 unfold extR;simp only [h1,h2];exact ⟨hl,k⟩
structure Mk (ts S:List T3) (a:T3) (P:List T3):Prop where
 nd:P.Nodup
 sub:∀ x ∈ P,x ∈ ts /\ x ∉ S
 hd:a ∈ P
 co:∀ x ∈ P,Conn ts a x
theorem Mk.len {ts S P:[34]} {a:T3} (m:Mk ts S a P):P.length<=ts.length:=List.Nodup.length_le_of_subset m.nd λ x hx=>(m.sub x hx).1
theorem Mk.add {ts S P:[34]} {a h:T3} {p:Pt} (hn:ts.Nodup) (m:Mk ts S a P) (hh:h ∈ P) (hp:has p h=true):Mk ts S a (P ++ (ts.filter (has p)).filter λ t=>!decide (t ∈ S ++ P)):=by
 refine ⟨?_,λ x hx=>?_,mem_append_left _ m.hd,λ x hx=>?_⟩
 ·rw [nodup_append];refine ⟨m.nd,(hn.filter _).filter _,λ x hx y hy e=>?_⟩;subst e;rw [mem_filter] at hy;simp [hx] at hy
 ·rcases List.mem_append.mp hx with hx | hx
  ·exact m.sub x hx
  ·rw [mem_filter,mem_filter] at hx;have:=hx.2;simp at this;exact ⟨hx.1.1,this.1⟩
 ·rcases List.mem_append.mp hx with hx | hx
  ·exact m.co x hx
  ·rw [mem_filter,mem_filter] at hx;exact .step (m.co h hh) hx.1.1 ⟨p,hp,hx.1.2⟩
structure Wp (μ μ':Mu) (ts S:List T3) (a:T3) (s pc:Addr) (P:List T3):Prop where
 eb:ExtB s μ μ'
 fr:μ pc=none
 pl:μ' pc=some (.lst (P.map encT))
 sn:μ' s=some (.dcl (snk (S ++ P)))
 mkk:Mk ts S a P
theorem ExtB.updn {μ0 μ:Mu} {s p:Addr} {o:MO} (e:ExtB s μ0 μ) (h:μ0 p=none):ExtB s μ0 (updM μ p o):=λ a u n q=>by
 rw [sa0 (ub0 q h)]; exact e a u n q
theorem sy1 {μ μ':Mu} {ts S P:[34]} {a h:T3} {d s pc:Addr} {A:List (Pt × Addr)} {p:Pt} {o0 o4 o5:Option D} {Q:VK3} (hn:ts.Nodup) (hl:ts.length < 60) (hS:S.length < 60) (hs:∃ S,μ s=some (.dcl S)) (hd:AtD μ d ts A) (ne:d ≠ s) (W:Wp μ μ' ts S a s pc P) (hh:h ∈ P) (hp:has p h=true)
    (k:∀ μ2 N,Wp μ μ2 ts S a s pc (P ++ N)->(∀ c ∈ ts,has p c=true->c ∈ S ++ (P ++ N))->Q .non μ2) :
    mt3 extR (v3 3) (va0 (vb0 wk1 (va0 (o3 dgR (v3 1) (v3 6)) (va0 (v3 2) nil3))) nil3) [o0,some (.ref d),some (.ref s),some (.ref pc),o4,o5,some (encQ p)] μ' Q:=by
 have hz:(1000:Nat) < sizeLine:=by decide
 obtain ⟨S0,hs0⟩:=hs;have a':=hd.ext hs0 ne W.eb;have lP:=W.mkk.len
 conv=>whnf
 rw [W.pl];show dgR (.ref d) (encQ p) μ' (λ x μ1=>_);refine sj4 a' ⟨h,(W.mkk.sub h hh).1,hp⟩ λ q hq=>?_;have lf:(ts.filter (has p)).length<=ts.length:=length_filter_le _ _;refine ⟨q,s,ts.filter (has p),S ++ P,rfl,hq,W.sn,hn.filter _,by rw [length_append]; omega,λ r μ2 eb hr er es=>?_⟩;have hps:pc ≠ s:=λ z=>by have:=W.pl; rw [z,W.sn] at this; cases this
 have hpr:pc ≠ r:=ub0 W.pl hr;refine uq2 (eb _ _ hps W.pl) er ?_ ?_
 ·rw [length_map,length_map];have:=length_filter_le (λ t=>!decide (t ∈ S ++ P)) (ts.filter (has p));omega
 ·rw [<- map_append];refine k _ _ ⟨(W.eb.trans eb).updn W.fr,W.fr,za0,?_,W.mkk.add hn hh hp⟩ λ c hc hpc=>?_
  ·rw [sa0 (Ne.symm hps),es,append_assoc]
  ·by_cases z:c ∈ S ++ P
   ·rw [<- append_assoc]; exact mem_append_left _ z
   ·rw [<- append_assoc];refine mem_append_right _ (List.mem_filter.mpr ⟨List.mem_filter.mpr ⟨hc,hpc⟩,?_⟩);simpa using z
def spPw:Sp3:=λ ds μ Q=>∃ (ts S:[34]) (a:T3) (d s:Addr) (A:List (Pt × Addr)),ds=[encT a,.ref d,.ref s] /\ Pc ts /\ AtD μ d ts A /\ μ s=some (.dcl (snk S)) /\ d ≠ s /\ a ∈ ts /\ a ∉ S /\ S.length < 60 ∧
 ∀ (P us:[34]) μ',ExtB s μ μ'->μ' s=some (.dcl (snk (S ++ P)))->Mk ts S a P->(∀ x ∈ P,∀ c ∈ ts,tch x c->c ∈ S ++ P)->us.Perm P->us.Pairwise le3->Q (.tup (us.map encT)) μ'
theorem sy3 (ds:List D) (μ:Mu) (Q:VK3) (h:spPw ds μ Q):vp3 va1 wk1 { nx:=λ _ μ'=>Q .non μ',rt:=Q } (xd0 ym3 ds) μ:=by
 obtain ⟨ts,S,a,d,s,A,rfl,hP,hd,hs,ne,ha,haS,hS,q⟩:=h;have hn:=tr1 hP;have hl:=hP.2.2;refine sb4 (t:=a) (to:=v3 2) (ti:=v3 0) (ρ:=[some (encT a),some (.ref d),some (.ref s),none,none,none,none]) hs [2] haS (λ R r=>r) (λ R r=>r) ?_;refine ⟨Z0,λ pc hpc=>?_⟩;have hps:pc ≠ s:=λ z=>by subst z; rw [za0] at hpc; cases hpc
 have hpf:μ pc=none:=by rw [sa0 hps] at hpc; exact hpc
 have m0:Mk ts S a [a]:=⟨by simp,λ x hx=>by rw [mem_singleton] at hx; subst hx; exact ⟨ha,haS⟩,by simp,λ x hx=>by rw [mem_singleton] at hx; subst hx; exact .refl⟩;refine ⟨λ m ρ μ'=>∃ (n:Nat) (P:[34]) (o5 o6:Option D),m=ts.length - n /\ n<=P.length /\ ρ=[some (encT a),some (.ref d),some (.ref s),some (.ref pc),some (.int n),o5,o6] /\ Wp μ μ' ts S a s pc P /\ ∀ j x,j < n->P[j]?=some x->∀ c ∈ ts,tch x c->c ∈ S ++ P,⟨ts.length - 0,0,[a],none,none,rfl,Nat.zero_le _,rfl,⟨ExtB.upd.updn hpf,hpf,za0,?_,m0⟩,λ j x hj=>absurd hj (Nat.not_lt_zero _)⟩,?_⟩
 ·rw [sa0 (Ne.symm hps),za0]
 ·rintro m ρ μ' ⟨n,P,o5,o6,rfl,hnP,rfl,W,cv⟩;have lP:=W.mkk.len
  conv=>whnf
  rw [W.pl];show if decide ((n:Int) < ((P.map encT).length:Int))=true then _ else _;by_cases cn:n < P.length
  ·rw [if_pos (decide_eq_true [18])];refine ⟨λ ρ1 μ1=>∃ (P1:[34]) (o5 o6:Option D),n + 1<=P1.length /\ ρ1=[some (encT a),some (.ref d),some (.ref s),some (.ref pc),some (.int ((n:Int) + 1)),o5,o6] /\ Wp μ μ1 ts S a s pc P1 /\ ∀ j x,j < n + 1->P1[j]?=some x->∀ c ∈ ts,tch x c->c ∈ S ++ P1,?_,?_⟩
   ·rintro ρ1 μ1 ⟨P1,o5',o6',hn1,rfl,W1,cv1⟩;exact ⟨ts.length - (n + 1),by omega,n + 1,P1,o5',o6',rfl,hn1,rfl,W1,cv1⟩
   ·obtain ⟨b1,ea⟩:=xi1 (ts:=P) (i:=(n:Int)) [2] [2];refine uf0 W.pl ea ?_;have ei:((n:Int)).toNat=n:=by omega
    have hg:P[n]?=some (P[n]'cn):=getElem?_eq_getElem cn;have eh:P[((n:Int)).toNat]=P[n]'cn:=by congr 1
    rw [eh];generalize P[n]'cn=h at hg;have hh:h ∈ P:=mem_of_getElem? hg;have hw:wy h:=hP.2.1 h (W.mkk.sub h hh).1;refine ⟨h,rfl,hw,?_⟩
    refine yh1 (λ ρ1 μ1=>∃ N o6,ρ1=[some (encT a),some (.ref d),some (.ref s),some (.ref pc),some (.int n),some (encT h),o6] /\ Wp μ μ1 ts S a s pc (P ++ N) /\ ∀ c ∈ ts,has (e0 h) c=true->c ∈ S ++ (P ++ N))
     (λ ρ1 μ1=>∃ N o6,ρ1=[some (encT a),some (.ref d),some (.ref s),some (.ref pc),some (.int n),some (encT h),o6] /\ Wp μ μ1 ts S a s pc (P ++ N) /\ (∀ c ∈ ts,has (e0 h) c=true->c ∈ S ++ (P ++ N)) /\ ∀ c ∈ ts,has (e1 h) c=true->c ∈ S ++ (P ++ N)) ?_ ?_ ?_
    ·exact sy1 (p:=e0 h) hn hl hS ⟨_,hs⟩ hd ne W hh (tj0 h) λ μ2 N W2 cv2=>⟨N,_,rfl,W2,cv2⟩
    ·rintro ρ1 μ1 ⟨N,o6',rfl,W1,cv1⟩;refine sy1 (p:=e1 h) hn hl hS ⟨_,hs⟩ hd ne W1 (mem_append_left _ hh) (uo0 h) λ μ2 N2 W2 cv2=>⟨N ++ N2,_,rfl,by rw [<- append_assoc]; exact W2,λ c hc hp=>?_,λ c hc hp=>by have z:=cv2 c hc hp; rw [append_assoc P] at z; exact z⟩;rw [<- append_assoc,<- append_assoc];refine mem_append_left _ ?_;rw [append_assoc];exact cv1 c hc hp
    ·rintro ρ1 μ1 ⟨N,o6',rfl,W1,cv0,cv1⟩;refine ⟨P ++ N,_,_,by rw [length_append]; omega,rfl,W1,λ j x hj ex c hc ht=>?_⟩;by_cases cj:j < n
     ·rw [getElem?_append_left [2]] at ex;rcases List.mem_append.mp (cv j x cj ex c hc ht) with z | z
      ·exact mem_append_left _ z
      ·exact mem_append_right _ (mem_append_left _ z)
     ·have ej:j=n:=by omega
      subst ej;rw [getElem?_append_left [2],hg] at ex;cases ex;obtain ⟨p,p1,p2⟩:=ht;rcases wl0 p1 with rfl | rfl
      ·exact cv0 c hc p2
      ·exact cv1 c hc p2
  ·rw [if_neg (λ z=>cn (by have:=of_decide_eq_true z; rw [length_map] at this; omega))];refine yo4 (Q:=λ d μ1=>tupR [d] μ1 Q) W.pl [2] λ us a1 a2 r hr=>uz2 za0 (q P us _ (W.eb.trans (Ext.b s (Ext.new hr))) ?_ W.mkk ?_ a1 a2)
   ·rw [sa0 (ub0 W.sn hr)]; exact W.sn
   ·intro x hx c hc ht;obtain ⟨j,hj,ej⟩:=List.getElem_of_mem hx;exact cv j x [2] (by rw [getElem?_eq_getElem hj,ej]) c hc ht
def encU (u:[34]):D:=.tup (u.map encT)
structure Wq (ts S:List T3) (us:List (List T3)):Prop where
 perm:us.flatten.Perm S
 nd:S.Nodup
 sub:∀ x ∈ S,x ∈ ts
 ne:∀ u ∈ us,u ≠ []
 up:∀ u ∈ us,u.Pairwise le3
 cl:∀ u ∈ us,∀ a ∈ u,∀ c ∈ ts,tch a c->c ∈ u
 co:∀ u ∈ us,∀ a ∈ u,∀ b ∈ u,Conn ts a b
theorem Wq.scl {ts S:[34]} {us:List (List T3)} (w:Wq ts S us) {x c:T3} (hx:x ∈ S) (hc:c ∈ ts) (ht:tch x c):c ∈ S:=by
 obtain ⟨u,hu,xu⟩:=List.mem_flatten.mp (w.perm.mem_iff.mpr hx);exact w.perm.mem_iff.mp (List.mem_flatten.mpr ⟨u,hu,w.cl u hu x xu c hc ht⟩)
theorem Wq.add {ts S P u:[34]} {us:List (List T3)} {a:T3} (ha:a ∈ ts) (w:Wq ts S us) (m:Mk ts S a P) (cv:∀ x ∈ P,∀ c ∈ ts,tch x c->c ∈ S ++ P) (hu:u.Perm P) (hs:u.Pairwise le3):Wq ts (S ++ P) (us ++ [u]):=by
 have clP:∀ x ∈ P,∀ c ∈ ts,tch x c->c ∈ P:=λ x hx c hc ht=>by
  rcases List.mem_append.mp (cv x hx c hc ht) with z | z
  ·exact absurd (w.scl z (m.sub x hx).1 ht.symm) (m.sub x hx).2
  ·exact z
 have each:∀ {C:List T3->Prop},(∀ v ∈ us,C v)->C u->∀ v ∈ us ++ [u],C v:=λ h k v hv=>by
  rcases List.mem_append.mp hv with hv | hv
  ·exact h v hv
  ·rw [mem_singleton] at hv; subst hv; exact k
 refine ⟨?_,?_,λ x hx=>?_,each w.ne ?_,each w.up hs,each w.cl ?_,each w.co ?_⟩
 ·rw [List.flatten_append];exact List.Perm.append w.perm (by simpa using hu)
 ·rw [nodup_append];exact ⟨w.nd,m.nd,λ x hx y hy e=>(m.sub y hy).2 (e ▸ hx)⟩
 ·rcases List.mem_append.mp hx with z | z
  ·exact w.sub x z
  ·exact (m.sub x z).1
 ·intro z; subst z; exact absurd (hu.symm.mem_iff.mp m.hd) [16]
 ·intro x hx c hc ht;exact hu.mem_iff.mpr (clP x (hu.mem_iff.mp hx) c hc ht)
 ·intro x hx y hy;exact ((m.co x (hu.mem_iff.mp hx)).symm ha).trans (m.co y (hu.mem_iff.mp hy))
def wm0:Sp3:=λ ds μ Q=>∃ ts:List T3,ds=[.tup (ts.map encT)] /\ Pc ts /\ ∀ r (us:List (List T3)) μ',Ext μ μ'->μ r=none->μ' r=some (.lst (us.map encU))->IsP ts us->Q (.ref r) μ'
theorem xz3 (ds:List D) (μ:Mu) (Q:VK3) (h:wm0 ds μ Q):up3 vk1 spPw spAt { nx:=λ _ μ'=>Q .non μ',rt:=Q } (xd0 zm3 ds) μ:=by
 obtain ⟨ts,rfl,hP,q⟩:=h;have hn:=tr1 hP;have hl:=hP.2.2;have hz:(1000:Nat) < sizeLine:=by decide
 refine ⟨ts,rfl,hP,ts,rfl,hP.2.1,hl,λ d A μ1 I=>?_⟩;intro s hs;refine ⟨Nat.zero_le _,λ pl hpl=>?_⟩;have hds:d ≠ s:=ub0 I.dc hs;have hpls:pl ≠ s:=λ z=>by subst z; rw [za0] at hpl; cases hpl
 have hpl1:μ1 pl=none:=by rw [sa0 hpls] at hpl; exact hpl
 refine sl0 (λ l ρ μ'=>∃ (ks js S:[34]) (us:List (List T3)) (o:Option D),l=ks.map encT /\ js ++ ks=ts /\ ρ=[some [25],some (.ref d),some (.ref s),some (.ref pl),o] /\ Ext μ1 μ' /\ μ' s=some (.dcl (snk S)) /\ μ' pl=some (.lst (us.map encU)) /\ Wq ts S us /\ us.length<=S.length /\ ∀ x ∈ js,x ∈ S) ?_ (λ _ _ _ _=>trivial) ?_ ?_
 ·refine ⟨ts,[],[],[],none,rfl,rfl,rfl,(Ext.new hs).trans (Ext.new hpl),?_,za0,⟨by simp,nodup_nil,λ _ h=>(nomatch h),λ _ h=>(nomatch h),λ _ h=>(nomatch h),λ _ h=>(nomatch h),λ _ h=>(nomatch h)⟩,Nat.le_refl _,λ _ h=>(nomatch h)⟩;rw [sa0 (Ne.symm hpls),za0]; rfl
 ·rintro ρ μ' ⟨ks,js,S,us,o,e,ej,rfl,ex,es,ep,w,lu,hj⟩;cases ks with
  | cons _ _=>cases e
  | nil =>
   rw [append_nil] at ej;subst ej;refine q pl us μ' (I.ex.trans ex) (I.ex.free hpl1) ep ⟨w.perm.trans ((perm_ext_iff_of_nodup w.nd hn).mpr λ x=>⟨w.sub x,hj x⟩),w.ne,w.up,w.cl,w.co⟩
 ·rintro x rest ρ μ' ⟨ks,js,S,us,o,e,ej,rfl,ex,es,ep,w,lu,hj⟩;cases ks with
  | nil=>cases e
  | cons a ks =>
   rw [map_cons] at e;injection e with e2 e3
   subst e2 e3;have ha:a ∈ ts:=by rw [<- ej]; simp
   have lS:S.length<=ts.length:=List.Nodup.length_le_of_subset w.nd w.sub
   conv=>whnf
   rw [es];show if (!(valL (snk S) (tk3 a)).isSome)=true then _ else _;rw [ut1];by_cases c:a ∈ S
   ·rw [decide_eq_true c];refine ⟨ks,js ++ [a],S,us,_,rfl,by rw [<- ej]; simp,rfl,ex,es,ep,w,lu,λ x hx=>?_⟩;rcases List.mem_append.mp hx with z | z
    ·exact hj x z
    ·rw [mem_singleton] at z; subst z; exact c
   ·rw [decide_eq_false c]
    conv=>whnf
    rw [ep];refine ⟨ts,S,a,d,s,A,rfl,hP,I.d.mono ex,es,hds,ha,c,by omega,λ P v μ2 eb es2 m cv v1 v2=>?_⟩;have ep2:=eb pl _ hpls ep;have lP:=m.len;have w2:=w.add ha m cv v1 v2;have lS2:(S ++ P).length<=ts.length:=List.Nodup.length_le_of_subset w2.nd w2.sub;have hP1:1<=P.length:=List.length_pos_of_mem m.hd
    conv=>whnf
    rw [ep2];refine ⟨by rw [length_map]; omega,?_⟩;refine ⟨ks,js ++ [a],S ++ P,us ++ [v],_,rfl,by rw [<- ej]; simp,rfl,?_,?_,?_,w2,?_,λ x hx=>?_⟩
    ·intro b o' hb;have n1:b ≠ s:=ub0 hb hs;have n2:b ≠ pl:=ub0 hb hpl1;rw [sa0 n2];exact eb b o' n1 (ex b o' hb)
    ·rw [sa0 (Ne.symm hpls)]; exact es2
    ·rw [za0,map_append]; rfl
    ·rw [length_append,length_append]; simp only [length_cons,length_nil]; omega
    ·rcases List.mem_append.mp hx with z | z
     ·exact mem_append_left _ (hj x z)
     ·rw [mem_singleton] at z; subst z; exact mem_append_right _ m.hd
def decQ (d:D):Pt:=match d with
 | .tup [.int a,.int b]=>(a,b)
 | _=>(0,0)
theorem wr2 (p:Pt):decQ (encQ p)=p:=rfl
theorem uv4 (g:Pt->Bool) (A:List Pt):(A.map encQ).filter (λ d=>g (decQ d))=(A.filter g).map encQ:=by
 rw [List.filter_map]; rfl
theorem ys3 {p:Addr} {ps:List Pt} {μ:Mu} {Q:VK3} (h:μ p=some (.lst (ps.map encQ))) (h64:ps.length < 64) (k:∀ us:List Pt,us.Perm ps->us.Pairwise le2->∀ r,μ r=none->Q (.ref r) (updM μ r (.lst (us.map encQ)))):tv1 [.ref p] μ Q:=by
 have e:t2s? (ps.map encQ)=some ps:=su1 ps;unfold tv1;simp only [h,e];exact ⟨h64,k⟩
def xb3:Sp3:=λ ds μ Q=>∃ ts:List T3,ds=[.tup (ts.map encT)] /\ Pc ts /\ (∀ p,deg ts p % 2=0) /\ ∀ r μ',Ext μ μ'->μ r=none->μ' r=some (.lst [])->Q (.ref r) μ'
theorem wz3 (ds:List D) (μ:Mu) (Q:VK3) (h:xb3 ds μ Q):xq3 vk1 spAt { nx:=λ _ μ'=>Q .non μ',rt:=Q } (xd0 um3 ds) μ:=by
 obtain ⟨ts,rfl,hP,ev,q⟩:=h;have hz:(1000:Nat) < sizeLine:=by decide
 have tl:=hP.2.2;refine ⟨ts,rfl,hP,ts,rfl,hP.2.1,hP.2.2,λ d A μ1 I=>?_⟩;have a:=I.d;have lA:=a.le
 conv=>whnf
 rw [I.dc];intro p hp
 have el:((atk A).map λ kv=>tupI kv.1)=(A.map (·.1)).map encQ:=by
  unfold atk; rw [map_map,map_map]; rfl
 rw [el];refine uy0 (rest:=[some (.ref d)]) (λ x=>decide (deg ts (decQ x) % 2=1)) hp (by rw [length_map,length_map]; omega) (λ μ' ex=>ex _ _ I.dc) ?_ ?_
 ·intro x hx μ' R ex kk;obtain ⟨p',hp',rfl⟩:=List.mem_map.mp hx;show dgR (.ref d) (encQ p') μ' (λ x μ1=>_);refine sj4 (a.mono ex) ((a.me p').mp hp') λ r hr=>?_
  conv=>whnf
  rw [hr];refine ⟨(show (0:Int) < 2 by decide),?_⟩
  have e:decide ((((ts.filter (has p')).map encT).length:Int) % 2=1)=decide (deg ts (decQ (encQ p')) % 2=1):=by
   rw [wr2,length_map];unfold deg;rw [List.countP_eq_length_filter];exact decide_eq_decide.mpr [2]
  show R (decide ((((ts.filter (has p')).map encT).length:Int) % 2=1)) μ';rw [e];exact kk
 ·intro μ2 ex e2;rw [uv4 (λ p=>decide (deg ts p % 2=1))] at e2;have en:(A.map (·.1)).filter (λ p=>decide (deg ts p % 2=1))=[]:=List.filter_eq_nil_iff.mpr λ p _=>by have:=ev p; simp; omega
  rw [en] at e2;refine ys3 (ps:=[]) e2 [7] λ us u1 u2 r hr=>?_;have eu:us=[]:=List.Perm.eq_nil u1;subst eu;exact q r _ (I.ex.trans (ex.trans (Ext.new hr))) ((I.ex.trans ex).free hr) za0
def gp (t:List Pt) (i:Nat):Pt:=t.getD i (0,0)
theorem at_q {t:List Pt} {i:Int} (h0:0<=i) (h1:i < t.length):atI (t.map encQ) i=some (encQ (gp t i.toNat)):=by
 have h2:i.toNat < t.length:=by omega
 unfold atI ixN gp;rw [if_pos h0,if_pos [18]];simp [getElem?_eq_getElem h2]
theorem ub2 {lo:Int} {n:Nat} {x:D} (h:x ∈ rngD lo n):∃ i:Nat,i < n /\ x=.int (lo + i):=by
 unfold rngD at h;obtain ⟨i,hi,rfl⟩:=List.mem_map.mp h;exact ⟨i,List.mem_range.mp hi,rfl⟩
def gI (g:Pt->Pt->D) (t:List Pt) (d:D):D:=match d with
 | .int i=>g (gp t (i - 1).toNat) (gp t i.toNat)
 | _=>.non
theorem vi4 (g:Pt->Pt->D) (t:List Pt) (n:Nat):(rngD 1 n).map (gI g t)=(List.range n).map λ i=>g (gp t i) (gp t (i + 1)):=by
 unfold rngD;rw [map_map];apply map_congr_left;intro i _;show g (gp t (1 + (i:Int) - 1).toNat) (gp t (1 + (i:Int)).toNat)=_;rw [show (1 + (i:Int) - 1).toNat=i by omega,show (1 + (i:Int)).toNat=i + 1 by omega]
theorem wi2:∀ bs:List Bool,bls? (bs.map D.bl)=some bs
 | []=>rfl
 | b :: r=>by simp only [map_cons,bls?,wi2 r]
theorem vw4 {p:Addr} {bs:List Bool} {μ:Mu} {Q:VK3} (h:μ p=some (.lst (bs.map D.bl))) (k:Q (.bl (bs.all id)) μ):allR [.ref p] μ Q:=by
 unfold allR;simp only [h,wi2];exact k
def encL (l:Lk2):D:=.tup [encQ l.1,encQ l.2]
def enN (n:Nat):D:=.int (n:Int)
def oD:Option Nat->D
 | none=>.non
 | some n=>.int (n:Int)
def encW (w:Wt):D:=.tup [encQ w.1,oD w.2]
def lkD (L:List Lk2) (n:Nat):Lk2:=L.getD n ((0,0),(0,0))
def incN (L:List Lk2) (k:Nat):List (Pt × Nat):=(List.range k).flatMap λ n=>[((lkD L n).1,n),((lkD L n).2,n)]
theorem tc1 (L:List Lk2) (k:Nat):incN L (k + 1)=incN L k ++ [((lkD L k).1,k)] ++ [((lkD L k).2,k)]:=by
 unfold incN; rw [List.range_succ,flatMap_append]; simp
theorem yq2 (L:List Lk2) (k:Nat):(incN L k).length=2 * k:=by
 induction k with
 | zero=>rfl
 | succ k ih=>rw [tc1,length_append,length_append,ih]; simp only [length_cons,length_nil]; omega
theorem sb2 {L:List Lk2} {n:Nat} {l:Lk2} (h:L[n]?=some l):lkD L n=l:=by
 unfold lkD; rw [getD_eq_getElem?_getD,h]; rfl
theorem sr0 {L:List Lk2} {n:Nat} (h:n < L.length):L[n]?=some (lkD L n):=by
 unfold lkD; rw [getD_eq_getElem?_getD,getElem?_eq_getElem h]; rfl
theorem xo1 {L:List Lk2} {p:Pt} {n:Nat} (h:n ∈ here (incN L L.length) p):∃ l,L[n]?=some l /\ ic l p:=by
 unfold here at h;obtain ⟨⟨q,m⟩,h1,rfl⟩:=List.mem_map.mp h;obtain ⟨h2,h3⟩:=List.mem_filter.mp h1;have e:=of_decide_eq_true h3;dsimp only at e ⊢;subst e;obtain ⟨k,hk,h4⟩:=List.mem_flatMap.mp h2;have hk':=List.mem_range.mp hk;rcases List.mem_cons.mp h4 with e | h4
 ·cases e; exact ⟨_,sr0 hk',.inl rfl⟩
 ·have e:=List.mem_singleton.mp h4;cases e; exact ⟨_,sr0 hk',.inr rfl⟩
theorem xq2 {L:List Lk2} {p:Pt} {n:Nat} {l:Lk2} (h:L[n]?=some l) (hp:ic l p):n ∈ here (incN L L.length) p:=by
 have hn:n < L.length:=(List.getElem?_eq_some_iff.mp h).1;have e:=sb2 h;unfold here;refine List.mem_map.mpr ⟨(p,n),List.mem_filter.mpr ⟨List.mem_flatMap.mpr ⟨n,List.mem_range.mpr hn,?_⟩,decide_eq_true rfl⟩,rfl⟩;rw [e];rcases hp with rfl | rfl <;> simp
theorem zi3 {L:List Lk2} {p:Pt} (h:∃ l ∈ L,ic l p):p ∈ (incN L L.length).map (·.1):=by
 obtain ⟨l,hl,hp⟩:=h;obtain ⟨n,hn,e⟩:=List.getElem_of_mem hl;have e1:L[n]?=some l:=by rw [getElem?_eq_getElem hn,e]
 have e2:=sb2 e1;refine List.mem_map.mpr ⟨(p,n),List.mem_flatMap.mpr ⟨n,List.mem_range.mpr hn,?_⟩,rfl⟩;rw [e2];rcases hp with rfl | rfl <;> simp
theorem at_L {L:List Lk2} {n:Nat} (h:n < L.length):atI (L.map encL) (n:Int)=some (encL (lkD L n)):=by
 unfold atI ixN;rw [if_pos [2],if_pos [18]];show (L.map encL)[((n:Int)).toNat]?=_;rw [show ((n:Int)).toNat=n by omega,getElem?_map,sr0 h]; rfl
def yb3:Sp3:=λ ds μ Q=>∃ (lr:Addr) (L:List Lk2),ds=[.ref lr] /\ μ lr=some (.lst (L.map encL)) /\ L.length < 200 /\ ∀ d A μ',AtI enN μ μ' d (incN L L.length) A->Q (.ref d) μ'
theorem vz3 (ds:List D) (μ:Mu) (Q:VK3) (h:yb3 ds μ Q):yq3 { nx:=λ _ μ'=>Q .non μ',rt:=Q } (xd0 tm3 ds) μ:=by
 obtain ⟨lr,L,rfl,hL,hl,q⟩:=h;intro d hd;have hL1:updM μ d (.dcl []) lr=some (.lst (L.map encL)):=by rw [sa0 (ub0 hL hd)]; exact hL
 conv=>whnf
 rw [hL1];refine ⟨⟨by omega,by rw [length_map]; omega⟩,?_⟩;refine sl0 (λ l ρ μ'=>∃ (k:Nat) (A:List (Pt × Addr)) (o2 o3:Option D),l=rngD (k:Int) (L.length - k) /\ k<=L.length /\ ρ=[some (.ref lr),some (.ref d),o2,o3] /\ AtI enN μ μ' d (incN L k) A) ?_ (λ _ _ _ _=>trivial) ?_ ?_
 ·refine ⟨0,[],none,none,?_,Nat.zero_le _,rfl,Ext.new hd,hd,za0,nodup_nil,λ p=>Iff.rfl,Nat.le_refl _,nodup_nil,λ _ h=>(nomatch h),λ _ h=>(nomatch h)⟩;rw [length_map]; rfl
 ·rintro ρ μ' ⟨k,A,o2,o3',e,hk,rfl,I⟩
  have e0:L.length - k=0:=by
   cases c:L.length - k with
   | zero=>rfl
   | succ c'=>rw [c,vh0] at e; cases e
  have ek:k=L.length:=by omega
  subst ek;exact q d A μ' I
 ·rintro x rest ρ μ' ⟨k,A,o2,o3',e,hk,rfl,I⟩;cases n:L.length - k with
  | zero=>rw [n] at e; simp [rngD] at e
  | succ m =>
   rw [n,vh0] at e;simp only [List.cons.injEq] at e;obtain ⟨rfl,rfl⟩:=e;have hk1:k < L.length:=by omega
   have ln:=yq2 L k;show ixR (.ref lr) (.int (k:Int)) μ' (λ x μ1=>_);refine uf0 (I.ex _ _ hL) (at_L hk1) ?_;refine yh1 (λ ρ μ'=>∃ A o3,ρ=[some (.ref lr),some (.ref d),some (enN k),o3] /\ AtI enN μ μ' d (incN L k ++ [((lkD L k).1,k)]) A) (λ ρ μ'=>∃ A o3,ρ=[some (.ref lr),some (.ref d),some (enN k),o3] /\ AtI enN μ μ' d (incN L k ++ [((lkD L k).1,k)] ++ [((lkD L k).2,k)]) A) ?_ ?_ ?_
   ·exact vz0 (en:=enN) (p:=(lkD L k).1) (t:=k) I [2] λ μ2 A2 I2=>⟨A2,_,rfl,I2⟩
   ·rintro ρ μ1 ⟨A1,o3'',rfl,I1⟩;exact vz0 (en:=enN) (p:=(lkD L k).2) (t:=k) I1 (by rw [length_append]; simp only [length_cons,length_nil]; omega) λ μ2 A2 I2=>⟨A2,_,rfl,I2⟩
   ·rintro ρ μ1 ⟨A1,o3'',rfl,I1⟩;rw [<- tc1] at I1;exact ⟨k + 1,A1,_,_,by rw [show L.length - (k + 1)=m by omega]; congr 1,by omega,rfl,I1⟩
def usd (U:List Nat):List (L2.Key × D):=U.map λ n:Nat=>(.inl (n:Int),.bl true)
theorem ts2 (n:Nat):∀ U:List Nat,(valK (usd U) (.inl (n:Int))).isSome=decide (n ∈ U)
 | []=>rfl
 | m :: r=>by
  have ih:=ts2 n r;unfold valK usd at ih ⊢;rw [map_cons,find?_cons];by_cases c:m=n
  ·subst c; simp
  ·have c1:¬ ((Sum.inl (m:Int):L2.Key)=.inl (n:Int)):=λ z=>c (by injection z with z; omega);have c2:¬ n=m:=λ z=>c z.symm;simp only [c1,decide_false];rw [ih];simp [c2]
theorem vb4 {U:List Nat} {n:Nat} (h:n ∉ U):putY (usd U) (.inl (n:Int)) (.bl true)=usd (U ++ [n]):=by
 unfold putY;rw [if_neg]
 ·unfold usd; rw [map_append]; rfl
 ·intro z;obtain ⟨x,hx,e⟩:=List.any_eq_true.mp z;obtain ⟨m,hm,rfl⟩:=List.mem_map.mp hx;have e:=of_decide_eq_true e;dsimp only at e;injection e with e
  have:m=n:=by omega
  subst this;exact h hm
theorem tc4 {to:TE3} {ρ:St3} {p:Addr} {l:List D} {x:D} {μ:Mu} {Q:VK3} (h1:∀ R:VK3,R (.ref p) μ->to ρ μ R) (h:μ p=some (.lst (l ++ [x]))) (k:Q x (updM μ p (.lst l))):pop3 to ρ μ Q:=by
 refine h1 _ ?_;have e:(l ++ [x]).reverse=x :: l.reverse:=by rw [List.reverse_append]; rfl
 simp only [h,e,List.reverse_reverse];exact k
def wk2:Sp3:=λ ds μ Q=>∃ (q s:Addr) (l U:List Nat),ds=[.ref q,.ref s] /\ μ q=some (.lst (l.map enN)) /\ μ s=some (.dck (usd U)) ∧
 ((∀ n ∈ l,n ∈ U)->∀ μ',(∀ a,a ≠ q->μ' a=μ a)->μ' q=some (.lst [])->Q .non μ') ∧
 (∀ r n z,l=r ++ n :: z->n ∉ U->(∀ m ∈ z,m ∈ U)->∀ μ',(∀ a,a ≠ q->μ' a=μ a)->μ' q=some (.lst (r.map enN))->Q (enN n) μ')
theorem vy3 (ds:List D) (μ:Mu) (Q:VK3) (h:wk2 ds μ Q):yp3 { nx:=λ _ μ'=>Q .non μ',rt:=Q } (xd0 ul3 ds) μ:=by
 obtain ⟨q,s,l,U,rfl,hq,hs,k1,k2⟩:=h;have ne:s ≠ q:=λ z=>by subst z; rw [hq] at hs; cases hs
 refine ⟨λ m ρ μ'=>∃ (r z:List Nat) (o:Option D),m=r.length /\ l=r ++ z /\ (∀ m ∈ z,m ∈ U) /\ ρ=[some (.ref q),some (.ref s),o] /\ (∀ a,a ≠ q->μ' a=μ a) /\ μ' q=some (.lst (r.map enN)),⟨l.length,l,[],none,rfl,by simp,λ _ h=>(nomatch h),rfl,λ _ _=>rfl,hq⟩,?_⟩;rintro m ρ μ' ⟨r,z,o,rfl,el,hz,rfl,eq,hr⟩
 conv=>whnf
 rw [hr];show if decide ((0:Int) < ((r.map enN).length:Int))=true then _ else _;rcases List.eq_nil_or_concat r with rfl | ⟨r',n,rfl⟩
 ·rw [if_neg [16]];rw [nil_append] at el;subst el;exact k1 hz μ' eq hr
 ·rw [List.concat_eq_append] at *;rw [if_pos (decide_eq_true (by rw [length_map,length_append]; simp only [length_cons,length_nil]; omega))];refine ⟨λ ρ1 μ1=>∃ o,n ∈ U /\ ρ1=[some (.ref q),some (.ref s),o] /\ (∀ a,a ≠ q->μ1 a=μ a) /\ μ1 q=some (.lst (r'.map enN)),?_,?_⟩
  ·rintro ρ1 μ1 ⟨o',hn,rfl,eq1,hr1⟩;refine ⟨r'.length,by simp,r',n :: z,o',rfl,by rw [el]; simp,λ m hm=>?_,rfl,eq1,hr1⟩;rcases List.mem_cons.mp hm with rfl | h
   ·exact hn
   ·exact hz m h
  ·show pop3 (v3 0) [some (.ref q),some (.ref s),o] μ' (λ d μ1=>_);refine tc4 (l:=r'.map enN) (x:=enN n) (λ R r=>r) (by rw [hr,map_append]; rfl) ?_;have hs1:updM μ' q (.lst (r'.map enN)) s=some (.dck (usd U)):=by rw [sa0 ne,eq s ne]; exact hs
   have eo:∀ a,a ≠ q->updM μ' q (.lst (r'.map enN)) a=μ a:=λ a ha=>by rw [sa0 ha]; exact eq a ha
   have hq1:updM μ' q (.lst (r'.map enN)) q=some (.lst (r'.map enN)):=za0
   conv=>whnf
   rw [hs1];show if (!(valK (usd U) (.inl (n:Int))).isSome)=true then _ else _;rw [ts2];by_cases c:n ∈ U
   ·rw [decide_eq_true c];exact ⟨_,c,rfl,eo,hq1⟩
   ·rw [decide_eq_false c];exact k2 r' n z (by rw [el]; simp) c hz _ eo hq1
def pQt (p:Pt):PyData:=.tuple [.int p.1,.int p.2]
theorem uj3 (p q:Pt):PyData.eqv (pQt p) (pQt q)=decide (p=q):=by
 obtain ⟨a,b⟩:=p;obtain ⟨c,d⟩:=q;simp [pQt,PyData.eqv,PyData.eqvAll];rfl
theorem sv4 (p q:Pt) (μ:Mu) (K:VK3):eqR (encQ p) (encQ q) μ K=K (.bl (decide (p=q))) μ:=by
 have hd:∀ p:Pt,(pQt p).depth<=64:=λ p=>by simp [pQt,PyData.depth,PyData.depthAll]
 rw [zh1 rfl (show datM μ (encQ p)=some (pQt p) from rfl) (show datM μ (encQ q)=some (pQt q) from rfl) (hd p) (hd q),uj3]
def vk2:Sp3:=λ ds μ Q=>∃ (l:Lk2) (p:Pt),ds=[encL l,encQ p] /\ Q (encQ (oth l p)) μ
theorem zz3 (ds:List D) (μ:Mu) (Q:VK3) (h:vk2 ds μ Q):sp3 { nx:=λ _ μ'=>Q .non μ',rt:=Q } (xd0 vm3 ds) μ:=by
 obtain ⟨l,p,rfl,k⟩:=h
 show eqR (encQ l.1) (encQ p) μ (λ d μ1=>match d with
  | .bl c=>(if c=true then _ else _)
  | _=>False)
 rw [sv4];dsimp only;unfold oth at k;by_cases c:l.1=p
 ·rw [decide_eq_true c]; rw [if_pos c] at k; exact k
 ·rw [decide_eq_false c]; rw [if_neg c] at k; exact k
theorem z1':1<=sizeLine:=by decide
theorem si2 {α:Type} (l:List α) (x:α):atI (l ++ [x]) (-1)=some x:=by
 unfold atI ixN;rw [if_neg [7],if_pos (by rw [length_append]; simp only [length_cons,length_nil]; omega)];show (l ++ [x])[((((l ++ [x]).length:Nat):Int) + -1).toNat]?=some x;rw [show ((((l ++ [x]).length:Nat):Int) + -1).toNat=l.length by rw [length_append]; simp only [length_cons,length_nil]; omega];simp
theorem dg_a {μ:Mu} {d:Addr} {A:List (Pt × Addr)} {p:Pt} {a:Addr} {Q:VK3} (h:μ d=some (.dcl (atk A))) (nd:(A.map (·.1)).Nodup) (ha:(p,a) ∈ A) (k:Q (.ref a) μ):dgR (.ref d) (encQ p) μ Q:=by
 have hv:=vi1 nd ha;unfold dgR;simp only [ug1,h,hv];exact k
structure WF (μ:Mu) (lr d u wt wy:Addr) (L:List Lk2) (A:List (Pt × Addr)):Prop where
 nd:(A.map (·.1)).Nodup
 n2:(A.map (·.2)).Nodup
 me:∀ p,(∃ l ∈ L,ic l p)->p ∈ A.map (·.1)
 hL:μ lr=some (.lst (L.map encL))
 fd:μ d=none
 fu:μ u=none
 fw:μ wt=none
 fy:μ wy=none
 fa:∀ x ∈ A,μ x.2=none
 n1:wt ≠ wy
 n3:∀ x ∈ A,x.2 ≠ wt /\ x.2 ≠ wy
structure WI (μ μ':Mu) (d u wt wy:Addr) (A:List (Pt × Addr)) (rem:Pt->List Nat) (U:List Nat) (st way:List Wt):Prop where
 ex:Ext μ μ'
 dc:μ' d=some (.dcl (atk A))
 ls:∀ x ∈ A,μ' x.2=some (.lst ((rem x.1).map enN))
 us:μ' u=some (.dck (usd U))
 st:μ' wt=some (.lst (st.map encW))
 wy:μ' wy=some (.lst (way.map encW))
theorem WI.cut {μ μ' μ2:Mu} {lr d u wt wy a:Addr} {L:List Lk2} {A:List (Pt × Addr)} {rem:Pt->List Nat} {U r:List Nat} {st way:List Wt} {p:Pt} (F:WF μ lr d u wt wy L A) (I:WI μ μ' d u wt wy A rem U st way) (ha:(p,a) ∈ A) (eo:∀ b,b ≠ a->μ2 b=μ' b) (ea:μ2 a=some (.lst (r.map enN))):WI μ μ2 d u wt wy A (upF rem p r) U st way:=by
 have hla:=I.ls _ ha;refine ⟨λ b o hb=>?_,?_,λ x hx=>?_,?_,?_,?_⟩
 ·rw [eo b (ub0 hb (F.fa _ ha))]; exact I.ex b o hb
 ·rw [eo d (λ z=>by subst z; rw [I.dc] at hla; cases hla)]; exact I.dc
 ·by_cases c:x.2=a
  ·have e:x=(p,a):=vr0 (β:=Nat) F.n2 hx ha c;subst e;unfold upF;rw [if_pos rfl];exact ea
  ·have c1:x.1 ≠ p:=λ z=>c (sb1 F.nd (show (p,x.2) ∈ A by rw [<- z]; exact hx) ha);unfold upF;rw [eo _ c,if_neg c1];exact I.ls x hx
 ·rw [eo u (λ z=>by subst z; rw [I.us] at hla; cases hla)]; exact I.us
 ·rw [eo wt (Ne.symm (F.n3 _ ha).1)]; exact I.st
 ·rw [eo wy (Ne.symm (F.n3 _ ha).2)]; exact I.wy
def zk2:Sp3:=λ ds μ Q=>∃ (lr:Addr) (L:List Lk2) (s:Pt),ds=[.ref lr,encQ s] /\ μ lr=some (.lst (L.map encL)) /\ L.length < 200 /\ (∃ l ∈ L,ic l s) ∧
 ∀ r rem U way μ',Ext μ μ'->μ r=none->μ' r=some (.lst (way.map encW))->Rch L s (here (incN L L.length)) rem U [] way->Wk L s rem U [] way->Q (.ref r) μ'
theorem tj2 {μ μ':Mu} {lr d u wt wy:Addr} {L:List Lk2} {A:List (Pt × Addr)} {rem:Pt->List Nat} {U:List Nat} {st way:List Wt} {w:Wt} {s:Pt} {o6 o7:Option D} {N:St3->Mu->Prop} {E:Ends3} (hE:E.nx=N)
    (hl:L.length < 200) (F:WF μ lr d u wt wy L A) (I:WI μ μ' d u wt wy A rem U (st ++ [w]) way) (R:Rch L s (here (incN L L.length)) rem U (st ++ [w]) way) (K:Wk L s rem U (st ++ [w]) way)
    (k1:∀ μ2 o6 o7,WI μ μ2 d u wt wy A (upF rem w.1 []) U st (way ++ [w])->Rch L s (here (incN L L.length)) (upF rem w.1 []) U st (way ++ [w])->N [some (.ref lr),some (encQ s),some (.ref d),some (.ref u),some (.ref wt),some (.ref wy),o6,o7] μ2)
    (k2:∀ μ2 r n l o6 o7,n ∉ U->L[n]?=some l->WI μ μ2 d u wt wy A (upF rem w.1 r) (U ++ [n]) (st ++ [w] ++ [(oth l w.1,some n)]) way->Rch L s (here (incN L L.length)) (upF rem w.1 r) (U ++ [n]) (st ++ [w] ++ [(oth l w.1,some n)]) way->N [some (.ref lr),some (encQ s),some (.ref d),some (.ref u),some (.ref wt),some (.ref wy),o6,o7] μ2) :
    (seq3 (set3 6 (o3 ixR (o3 ixR (v3 4) (un3 negR [8])) [15])) (seq3 (set3 7 (vb0 wk2 (va0 (o3 dgR (v3 2) (v3 6)) (va0 (v3 3) nil3)))) (ifs3 (b3 (o3 (isNR false) (v3 7) (c3 .non))) (tg0 (mt3 appR (v3 5) (va0 (pop3 (v3 4)) nil3))) (seq3 (tf2 (v3 3) (v3 7) (c3 (.bl true))) (tg0 (mt3 appR (v3 4) (va0 (tup3 (va0 (vb0 vk2 (va0 (o3 ixR (v3 0) (v3 7)) (va0 (v3 6) nil3))) (va0 (v3 7) nil3))) nil3)))))))
    E [some (.ref lr),some (encQ s),some (.ref d),some (.ref u),some (.ref wt),some (.ref wy),o6,o7] μ':=by
 have hz:(1000:Nat) < sizeLine:=by decide
 have hU:=K.small;have hln:=K.ln;rw [length_append] at hln;simp only [length_cons,length_nil] at hln;have est:(st ++ [w]).map encW=st.map encW ++ [encW w]:=by rw [map_append]; rfl
 have hst:=I.st;rw [est] at hst;show ixR (.ref wt) (.int (-1)) μ' (λ d μ1=>_);refine uf0 hst (si2 _ _) ?_;obtain ⟨⟨p,a⟩,ha,ep⟩:=List.mem_map.mp (F.me w.1 (K.pt w [16]));dsimp only at ep;subst ep;show dgR (.ref d) (encQ w.1) μ' (λ x μ1=>_);refine dg_a I.dc F.nd ha ?_;refine ⟨a,u,rem w.1,U,rfl,I.ls _ ha,I.us,λ al μ2 eo ea=>?_,λ r n z el hn hzz μ2 eo ea=>?_⟩
 ·have I2:=I.cut F ha eo (r:=[]) ea
  conv=>whnf
  rw [I2.wy];show pop3 (v3 4) [some (.ref lr),some (encQ s),some (.ref d),some (.ref u),some (.ref wt),some (.ref wy),some (encQ w.1),some .non] μ2 (λ d μ1=>_);refine tc4 (l:=st.map encW) (x:=encW w) (λ R r=>r) (by rw [I2.st,est]) ?_;have hw1:updM μ2 wt (.lst (st.map encW)) wy=some (.lst (way.map encW)):=by rw [sa0 (Ne.symm F.n1)]; exact I2.wy
  dsimp only [nil3];refine zt1 hw1 [18] ?_;rw [hE];refine k1 _ _ _ ⟨(I2.ex.upd F.fw).upd F.fy,?_,λ x hx=>?_,?_,?_,?_⟩ (R.pop al)
  ·rw [sa0 (λ z=>by have h:=I2.wy; subst z; rw [I2.dc] at h; cases h),sa0 (λ z=>by have h:=I2.st; subst z; rw [I2.dc] at h; cases h)]; exact I2.dc
  ·rw [sa0 (F.n3 x hx).2,sa0 (F.n3 x hx).1]; exact I2.ls x hx
  ·rw [sa0 (λ z=>by have h:=I2.wy; subst z; rw [I2.us] at h; cases h),sa0 (λ z=>by have h:=I2.st; subst z; rw [I2.us] at h; cases h)]; exact I2.us
  ·rw [sa0 F.n1,za0]
  ·rw [za0,map_append]; rfl
 ·have I2:=I.cut F ha eo (r:=r) ea;obtain ⟨l,hln2,hic⟩:=K.rm w.1 n (by rw [el]; simp);have hnl:n < L.length:=(List.getElem?_eq_some_iff.mp hln2).1;have elk:=sb2 hln2;have nu1:u ≠ wt:=λ z=>by have h:=I2.st; subst z; rw [I2.us] at h; cases h
  have nu2:u ≠ wy:=λ z=>by have h:=I2.wy; subst z; rw [I2.us] at h; cases h
  have nd1:d ≠ wt:=λ z=>by have h:=I2.st; subst z; rw [I2.dc] at h; cases h
  have nd2:d ≠ u:=λ z=>by have h:=I2.us; subst z; rw [I2.dc] at h; cases h
  conv=>whnf
  rw [I2.us];refine ⟨by unfold usd; rw [length_map]; omega,?_⟩;rw [vb4 hn];have hw1:updM μ2 u (.dck (usd (U ++ [n]))) wt=some (.lst ((st ++ [w]).map encW)):=by rw [sa0 (Ne.symm nu1)]; exact I2.st
  have hlr:updM μ2 u (.dck (usd (U ++ [n]))) lr=some (.lst (L.map encL)):=(I2.ex.upd F.fu) _ _ F.hL
  conv=>whnf
  rw [hw1];show ixR (.ref lr) (.int (n:Int)) _ (λ d μ1=>_);refine uf0 hlr (at_L hnl) ?_;rw [elk];refine ⟨l,w.1,rfl,(show 2<=sizeLine by decide),?_⟩;dsimp only [nil3];refine zt1 hw1 (by rw [length_map,length_append]; simp only [length_cons,length_nil]; omega) ?_;rw [hE];refine k2 _ r n l _ _ hn hln2 ⟨(I2.ex.upd F.fu).upd F.fw,?_,λ x hx=>?_,?_,?_,?_⟩ (R.push el hn hzz hln2)
  ·rw [sa0 nd1,sa0 nd2]; exact I2.dc
  ·rw [sa0 (F.n3 x hx).1,sa0 (λ z=>by have h:=I2.ls x hx; rw [z,I2.us] at h; cases h)]; exact I2.ls x hx
  ·rw [sa0 nu1,za0]
  ·rw [za0,map_append (l₁:=st ++ [w])]; rfl
  ·rw [sa0 (Ne.symm F.n1),sa0 (Ne.symm nu2)]; exact I2.wy
theorem yy3 (ds:List D) (μ:Mu) (Q:VK3) (h:zk2 ds μ Q):to3 yb3 vk2 wk2 { nx:=λ _ μ'=>Q .non μ',rt:=Q } (xd0 zl3 ds) μ:=by
 obtain ⟨lr,L,s,rfl,hL,hl,hs,q⟩:=h;have hz:(1000:Nat) < sizeLine:=by decide
 refine ⟨lr,L,rfl,hL,hl,λ d A μ1 I=>?_⟩;intro u hu;refine ⟨z2,z1',λ wt hwt=>?_⟩;refine ⟨Nat.zero_le _,λ wy hwy=>?_⟩;have nuw:wt ≠ u:=λ z=>by subst z; rw [za0] at hwt; cases hwt
 have hwt1:μ1 wt=none:=by rw [sa0 nuw] at hwt; exact hwt
 have nyw:wy ≠ wt:=λ z=>by subst z; rw [za0] at hwy; cases hwy
 have hwy0:updM μ1 u (.dck []) wy=none:=by rw [sa0 nyw] at hwy; exact hwy
 have nyu:wy ≠ u:=λ z=>by subst z; rw [za0] at hwy0; cases hwy0
 have hwy1:μ1 wy=none:=by rw [sa0 nyu] at hwy0; exact hwy0
 have F:WF μ lr d u wt wy L A:=⟨I.nd,I.n2,λ p hp=>(I.me p).mpr (zi3 hp),hL,I.fr,I.ex.free hu,I.ex.free hwt1,I.ex.free hwy1,I.fr2,Ne.symm nyw,λ x hx=>⟨(λ z=>by have h:=I.ls x hx; rw [z,hwt1] at h; cases h),(λ z=>by have h:=I.ls x hx; rw [z,hwy1] at h; cases h)⟩⟩;have h0:∀ p n,n ∈ here (incN L L.length) p->∃ l,L[n]?=some l /\ ic l p:=λ p n h=>xo1 h
 have e3:∀ {a:Addr} {o:MO},μ1 a=some o->updM (updM (updM μ1 u (.dck [])) wt (.lst [encW (s,none)])) wy (.lst []) a=some o:=λ {a o} h=>by
  rw [sa0 (ub0 h hwy1),sa0 (ub0 h hwt1),sa0 (ub0 h hu)]; exact h
 have I0:WI μ (updM (updM (updM μ1 u (.dck [])) wt (.lst [encW (s,none)])) wy (.lst [])) d u wt wy A (here (incN L L.length)) [] [(s,none)] []:=by
  refine ⟨λ b o hb=>e3 (I.ex b o hb),e3 I.dc,λ x hx=>e3 (I.ls x hx),?_,?_,za0⟩
  ·rw [sa0 (Ne.symm nyu),sa0 (Ne.symm nuw),za0]; rfl
  ·rw [sa0 (Ne.symm nyw),za0]; rfl
 refine ⟨λ m ρ μ'=>∃ rem U st way o6 o7,m=2 * (L.length - U.length) + st.length /\ ρ=[some (.ref lr),some (encQ s),some (.ref d),some (.ref u),some (.ref wt),some (.ref wy),o6,o7] /\ WI μ μ' d u wt wy A rem U st way /\ Rch L s (here (incN L L.length)) rem U st way,⟨_,_,[],[(s,none)],[],none,none,rfl,rfl,I0,.init⟩,?_⟩;rintro m ρ μ' ⟨rem,U,st,way,o6,o7,rfl,rfl,I,R⟩;have K:=R.wk hs h0;have hU:=K.small
 conv=>whnf
 rw [I.st];show if decide ((0:Int) < ((st.map encW).length:Int))=true then _ else _;rcases List.eq_nil_or_concat st with rfl | ⟨st',w,rfl⟩
 ·rw [if_neg [16]];exact q wy rem U way μ' I.ex F.fy I.wy R K
 ·rw [List.concat_eq_append] at *;rw [if_pos (decide_eq_true (by rw [length_map,length_append]; simp only [length_cons,length_nil]; omega))];refine ⟨λ ρ1 μ2=>∃ rem1 U1 st1 way1 o6 o7,2 * (L.length - U1.length) + st1.length < 2 * (L.length - U.length) + (st' ++ [w]).length /\ ρ1=[some (.ref lr),some (encQ s),some (.ref d),some (.ref u),some (.ref wt),some (.ref wy),o6,o7] /\ WI μ μ2 d u wt wy A rem1 U1 st1 way1 /\ Rch L s (here (incN L L.length)) rem1 U1 st1 way1,?_,?_⟩
  ·rintro ρ1 μ2 ⟨rem1,U1,st1,way1,o6',o7',lt,rfl,I1,R1⟩;exact ⟨_,lt,rem1,U1,st1,way1,o6',o7',rfl,rfl,I1,R1⟩
  ·refine tj2 rfl hl F I R K (λ μ2 o6 o7 I2 R2=>?_) (λ μ2 r n l o6 o7 hn hl2 I2 R2=>?_)
   ·exact ⟨_,U,st',_,o6,o7,by rw [length_append]; simp only [length_cons,length_nil]; omega,rfl,I2,R2⟩
   ·have K2:=(R2.wk hs h0).small;refine ⟨_,U ++ [n],_,way,o6,o7,?_,rfl,I2,R2⟩;rw [length_append] at K2;simp only [length_append,length_cons,length_nil] at K2 ⊢;omega
def wtD (W:List Wt) (k:Nat):Wt:=W.getD k ((0,0),none)
theorem ve1 {W:List Wt} {k:Nat} (h:k < W.length):W[k]?=some (wtD W k):=by
 unfold wtD; rw [getD_eq_getElem?_getD,getElem?_eq_getElem h]; rfl
theorem at_W {W:List Wt} {i:Int} {k:Nat} (e:i=k) (h:k < W.length):atI (W.map encW) i=some (encW (wtD W k)):=by
 subst e;unfold atI ixN;rw [if_pos [2],if_pos [18]];show (W.map encW)[((k:Int)).toNat]?=_;rw [show ((k:Int)).toNat=k by omega,getElem?_map,ve1 h]; rfl
theorem ixW0 (w:Wt) (μ:Mu) (K:VK3):ixR (encW w) (.int 0) μ K=K (encQ w.1) μ:=rfl
theorem ixW1 (w:Wt) (μ:Mu) (K:VK3):ixR (encW w) (.int 1) μ K=K (oD w.2) μ:=rfl
theorem zo2 {μ2:Mu} {wy tr c:Addr} {W:List Wt} {cur:List Pt} {k:Nat} {o1:Option D} {N:St3->Mu->Prop} {E:Ends3} (hE:E.nx=N) (hW:μ2 wy=some (.lst (W.map encW))) (ht:μ2 tr=some (.lst [.ref c])) (hcur:μ2 c=some (.lst (cur.map encQ))) (hk1:k + 1 < W.length) (hc:cur.length < 1000)
    (kk:N [some (.ref wy),o1,some (.ref tr),some (.int (1 + (k:Int)))] (updM μ2 c (.lst (cur.map encQ ++ [encQ (wtD W (k + 1)).1])))) :
    (tg0 (mt3 appR (o3 ixR (v3 2) (un3 negR [8])) (va0 (o3 ixR (o3 ixR (v3 0) (v3 3)) [15]) nil3))) E [some (.ref wy),o1,some (.ref tr),some (.int (1 + (k:Int)))] μ2:=by
 have hz:(1000:Nat) < sizeLine:=by decide
 show ixR (.ref tr) (.int (-1)) μ2 (λ d μ1=>_);refine uf0 (d:=.ref c) ht (si2 [] _) ?_
 conv=>whnf
 rw [hcur];show ixR (.ref wy) (.int (1 + (k:Int))) μ2 (λ d μ1=>_);refine uf0 hW (at_W (k:=k + 1) [2] hk1) ?_;dsimp only [c3];rw [ixW0];dsimp only [nil3];refine zt1 hcur [18] ?_;rw [hE];exact kk
def za1:Sp3:=λ ds μ Q=>∃ (wy:Addr) (ws:List Wt) (s:Pt) (fb:Nat),ds=[.ref wy,.int (fb:Int)] /\ μ wy=some (.lst ((ws ++ [(s,none)]).map encW)) /\ (∀ w ∈ ws,∃ n,w.2=some n /\ n < fb) /\ ws.length < 300 ∧
 ∀ r x μ',Ext μ μ'->μ' r=some (.lst [.ref x])->μ' x=some (.lst ((ws.map (·.1) ++ [s]).map encQ))->Q (.ref r) μ'
theorem yz3 (ds:List D) (μ:Mu) (Q:VK3) (h:za1 ds μ Q):tp3 { nx:=λ _ μ'=>Q .non μ',rt:=Q } (xd0 wm3 ds) μ:=by
 obtain ⟨wy,ws,s,fb,rfl,hW,hw,hl,q⟩:=h;have hz:(1000:Nat) < sizeLine:=by decide
 have hn:∀ k,k < ws.length->∃ n,(wtD (ws ++ [(s,none)]) k).2=some n /\ n < fb:=λ k hk=>by
  have e:(ws ++ [(s,none)])[k]?=some (ws[k]'hk):=by rw [getElem?_append_left hk,getElem?_eq_getElem hk]
  have e2:=ve1 (W:=ws ++ [(s,none)]) (k:=k) (by rw [length_append]; omega);rw [e] at e2;have e3:ws[k]'hk=wtD (ws ++ [(s,none)]) k:=Option.some.inj e2;rw [<- e3];exact hw _ (getElem_mem hk)
 have hlen:(ws ++ [(s,none)]).length=ws.length + 1:=by rw [length_append]; rfl
 have eW:ws.map (·.1) ++ [s]=(ws ++ [((s,none):Wt)]).map (·.1):=by simp
 rw [eW] at q;generalize hWW:ws ++ [(s,none)]=W at *;have h0:0 < W.length:=by omega
 show ixR (.ref wy) (.int 0) μ (λ d μ1=>_);refine uf0 hW (at_W rfl h0) ?_;refine ⟨z1',λ c hc=>⟨z1',λ tr ht=>?_⟩⟩;have ntc:c ≠ tr:=λ z=>by subst z; rw [za0] at ht; cases ht
 have ex1:Ext μ (updM (updM μ c (.lst [encQ (wtD W 0).1])) tr (.lst [.ref c])):=(Ext.new hc).trans (Ext.new ht);have ec:updM (updM μ c (.lst [encQ (wtD W 0).1])) tr (.lst [.ref c]) c=some (.lst [encQ (wtD W 0).1]):=by rw [sa0 ntc,za0]
 have hW1:=ex1 _ _ hW
 have tk:∀ k,k < W.length->(W.take (k + 1)).map (·.1)=(W.take k).map (·.1) ++ [(wtD W k).1]:=λ k hk=>by
  rw [List.take_succ,ve1 hk,map_append]; rfl
 conv=>whnf
 rw [hW1];refine ⟨⟨by decide,by decide,by rw [length_map]; omega,by rw [length_map]; omega⟩,?_⟩;refine sl0 (λ l ρ μ'=>∃ (k:Nat) (o3:Option D),l=rngD (1 + (k:Int)) (W.length - 1 - k) /\ k<=W.length - 1 /\ ρ=[some (.ref wy),some (.int (fb:Int)),some (.ref tr),o3] /\ Ext μ μ' /\ μ' tr=some (.lst [.ref c]) /\ μ' c=some (.lst (((W.take (k + 1)).map (·.1)).map encQ))) ?_ (λ _ _ _ _=>trivial) ?_ ?_
 ·refine ⟨0,none,?_,Nat.zero_le _,rfl,ex1,za0,?_⟩
  ·rw [length_map,show ((W.length:Int) - 1).toNat=W.length - 1 - 0 by omega]; simp
  ·rw [ec,tk 0 h0]; rfl
 ·rintro ρ μ' ⟨k,o3',e,hk,rfl,ex,et,ecc⟩
  have e0:W.length - 1 - k=0:=by
   cases c:W.length - 1 - k with
   | zero=>rfl
   | succ c'=>rw [c,vh0] at e; cases e
  rw [take_of_length_le [2]] at ecc;exact q tr c μ' ex et ecc
 ·rintro x rest ρ μ' ⟨k,o3',e,hk,rfl,ex,et,ecc⟩;cases n:W.length - 1 - k with
  | zero=>rw [n] at e; simp [rngD] at e
  | succ m =>
   rw [n,vh0] at e;simp only [List.cons.injEq] at e;obtain ⟨rfl,rfl⟩:=e;obtain ⟨b,eb,lb⟩:=hn k [2];have hWy:=ex _ _ hW;show ixR (.ref wy) (.int (1 + (k:Int) - 1)) μ' (λ d μ1=>_);refine uf0 hWy (at_W (k:=k) [2] [2]) ?_;dsimp only [c3];rw [ixW1,eb];show if decide ((fb:Int)<=(b:Int))=true then _ else _;rw [if_neg (λ z=>(by have:=of_decide_eq_true z; omega))];refine zo2 rfl hWy et ecc [2] (by rw [length_map]; have:=List.length_take_le (k + 1) W; omega) ?_;refine ⟨k + 1,_,by rw [show W.length - 1 - (k + 1)=m by omega]; congr 1,by omega,rfl,ex.upd hc,by rw [sa0 (Ne.symm ntc)]; exact et,?_⟩;rw [za0,tk (k + 1) [2],map_append];rfl
def stks (u:[34]):List Lk2:=u.map λ s=>(e0 s,e1 s)
def endD (d:D):D:=encL (e0 (decT d),e1 (decT d))
theorem tj3 (u:[34]):(u.map encT).map endD=(stks u).map encL:=by
 unfold stks;rw [map_map,map_map];rfl
theorem zg4 (L:List Lk2):L=(List.range L.length).map (lkD L):=by
 apply ext_getElem
 ·simp
 ·intro i h1 h2;rw [List.getElem_map,List.getElem_range];have:=sr0 h1;rw [getElem?_eq_getElem h1] at this;exact Option.some.inj this
def incb (v:Pt) (l:Lk2):Bool:=decide (l.1=v \/ l.2=v)
theorem wk4 (L:List Lk2) (v:Pt):cU L [] v=L.countP (incb v):=by
 have e:unu L []=List.range L.length:=by
  unfold unu;rw [List.filter_eq_self];intro n _; simp
 unfold cU;rw [e]
 conv=>rhs; rw [zg4 L]
 rw [List.countP_map];apply List.countP_congr;intro n hn;have:=sr0 (List.mem_range.mp hn);unfold isc incb;rw [this];simp
theorem yk2 (u:[34]) (v:Pt):(stks u).countP (incb v)=deg u v:=by
 unfold stks deg;rw [List.countP_map];apply List.countP_congr;intro s _;unfold has incb;simp
theorem ChG.ends {L:List Lk2} {g:Pt}:∀ {ws:List Wt},ChG L g ws->∀ x ∈ ws,∀ n,x.2=some n->∃ l q,L[n]?=some l /\ jn l x.1 q /\ (q=g \/ ∃ y ∈ ws,y.1=q)
 | [],_,x,hx,_,_=>(nomatch hx)
 | [w],h,x,hx,n,e=>by
  rw [mem_singleton] at hx; subst hx;obtain ⟨m,l,e1,e2,e3⟩:=h;rw [e] at e1; cases e1;exact ⟨l,g,e2,e3,.inl rfl⟩
 | w :: w' :: r,h,x,hx,n,e=>by
  rcases List.mem_cons.mp hx with rfl | hx
  ·obtain ⟨m,l,e1,e2,e3⟩:=h.1;rw [e] at e1; cases e1;exact ⟨l,w'.1,e2,e3,.inr ⟨w',by simp,rfl⟩⟩
  ·obtain ⟨l,q,a,b,c⟩:=ChG.ends (ws:=w' :: r) h.2 x hx n e;refine ⟨l,q,a,b,c.imp id λ ⟨y,hy,ey⟩=>⟨y,mem_cons_of_mem _ hy,ey⟩⟩
theorem us2 {L:List Lk2} {s g0:Pt} {rem:Pt->List Nat} {U:List Nat} {ws:List Wt} (H:Hz L s g0 rem U [] (ws ++ [(s,none)])) (cg:ChG L s ws)
    (hC:∀ V:Pt->Prop,V s->(∀ l ∈ L,(V l.1->V l.2) /\ (V l.2->V l.1))->∀ l ∈ L,V l.1):∀ n,n < L.length->n ∈ U:=by
 have V:=hC (λ p=>∃ w ∈ ws ++ [(s,none)],w.1=p) ⟨(s,none),by simp,rfl⟩ (λ l hl=>?_)
 ·intro n hn;have e:L[n]?=some (L[n]'hn):=getElem?_eq_getElem hn;obtain ⟨w,hw,ew⟩:=V _ (getElem_mem hn);exact H.dn w hw n _ e (.inl ew.symm)
 ·obtain ⟨n,hn,e⟩:=List.getElem_of_mem hl;have e1:L[n]?=some l:=by rw [getElem?_eq_getElem hn,e]
  have key:n ∈ U->(∃ w ∈ ws ++ [(s,none)],w.1=l.1) /\ ∃ w ∈ ws ++ [(s,none)],w.1=l.2:=λ hU=>by
   have hm:=H.num.mem_iff.mpr hU;rw [nil_append,List.mem_filterMap] at hm;obtain ⟨x,hx,ex⟩:=hm;rcases List.mem_append.mp hx with hx | hx
   ·obtain ⟨l',q,a,b,c⟩:=cg.ends x hx n ex;rw [e1] at a; cases a
    have hq:∃ w ∈ ws ++ [(s,none)],w.1=q:=by
     rcases c with rfl | ⟨y,hy,ey⟩
     ·exact ⟨(q,none),by simp,rfl⟩
     ·exact ⟨y,mem_append_left _ hy,ey⟩
    have hx':∃ w ∈ ws ++ [(s,none)],w.1=x.1:=⟨x,mem_append_left _ hx,rfl⟩;rcases b with ⟨b1,b2⟩ | ⟨b1,b2⟩
    ·rw [b1,b2]; exact ⟨hx',hq⟩
    ·rw [b1,b2]; exact ⟨hq,hx'⟩
   ·rw [mem_singleton] at hx; subst hx; cases ex
  refine ⟨λ ⟨w,hw,ew⟩=>(key (H.dn w hw n l e1 (.inl ew.symm))).2,λ ⟨w,hw,ew⟩=>(key (H.dn w hw n l e1 (.inr ew.symm))).1⟩
def stD (u:[34]) (n:Nat):T3:=u.getD n (0,0,0)
theorem vv1 {u:[34]} {n:Nat} (h:n < u.length):stD u n=u[n]'h:=by
 unfold stD; rw [getD_eq_getElem?_getD,getElem?_eq_getElem h]; rfl
theorem ua3 (u:[34]):(List.range u.length).map (stD u)=u:=by
 apply ext_getElem
 ·simp
 ·intro i h1 h2;rw [List.getElem_map,List.getElem_range,vv1 h2]
theorem zk1 {u:[34]} {n:Nat} {l:Lk2} (h:(stks u)[n]?=some l):n < u.length /\ l=(e0 (stD u n),e1 (stD u n)):=by
 unfold stks at h;rw [getElem?_map] at h;obtain ⟨s,h1,h2⟩:=Option.map_eq_some_iff.mp h;obtain ⟨hn,h3⟩:=List.getElem?_eq_some_iff.mp h1;exact ⟨hn,by rw [vv1 hn,h3]; exact h2.symm⟩
theorem zy2 {u:[34]} {g:Pt}:∀ {ws:List Wt},ChG (stks u) g ws->ws ≠ []->Wl (ws.map (·.1) ++ [g]) ((ws.filterMap (·.2)).map (stD u))
 | [],_,h=>absurd rfl h
 | [w],h,_=>by
  obtain ⟨n,l,e1,e2,e3⟩:=h;obtain ⟨_,rfl⟩:=zk1 e2;show Wl [w.1,g] (([w].filterMap (·.2)).map (stD u));rw [filterMap_cons,e1];exact .cons (e3.imp (λ z=>⟨z.1.symm,z.2.symm⟩) λ z=>⟨z.2.symm,z.1.symm⟩) .one
 | w :: w' :: r,h,_=>by
  obtain ⟨⟨n,l,e1,e2,e3⟩,h2⟩:=h;obtain ⟨_,rfl⟩:=zk1 e2;have ih:=zy2 h2 [16];show Wl (w.1 :: w'.1 :: (r.map (·.1) ++ [g])) (((w :: w' :: r).filterMap (·.2)).map (stD u));rw [filterMap_cons,e1];exact .cons (e3.imp (λ z=>⟨z.1.symm,z.2.symm⟩) λ z=>⟨z.2.symm,z.1.symm⟩) ih
theorem wv1 {u:[34]} {a:T3} (ha:a ∈ u) (hco:∀ b ∈ u,Conn u a b) (V:Pt->Prop) (hV:V (e0 a)) (cl:∀ l ∈ stks u,(V l.1->V l.2) /\ (V l.2->V l.1)):∀ l ∈ stks u,V l.1:=by
 have stk:∀ s ∈ u,(V (e0 s)->V (e1 s)) /\ (V (e1 s)->V (e0 s)):=λ s hs=>cl (e0 s,e1 s) (List.mem_map.mpr ⟨s,hs,rfl⟩)
 have both:∀ b,Conn u a b->b ∈ u /\ V (e0 b) /\ V (e1 b):=by
  intro b h
  induction h with
  | refl=>exact ⟨ha,hV,(stk a ha).1 hV⟩
  | step _ hc ht ih =>
   obtain ⟨hb,v0,v1⟩:=ih;obtain ⟨p,p1,p2⟩:=ht;have vp:V p:=by rcases wl0 p1 with rfl | rfl; exact v0; exact v1
   rcases wl0 p2 with rfl | rfl
   ·exact ⟨hc,vp,(stk _ hc).1 vp⟩
   ·exact ⟨hc,(stk _ hc).2 vp,vp⟩
 intro l hl;obtain ⟨s,hs,rfl⟩:=List.mem_map.mp hl;exact (both s (hco s hs)).2.1
theorem zm2 {u:[34]} {a:T3} {rem:Pt->List Nat} {U:List Nat} {ws:List Wt} (ha:a ∈ u) (hR:Rg u)
    (R:Rch (stks u) (e0 a) (here (incN (stks u) (stks u).length)) rem U [] (ws ++ [(e0 a,none)])):Wl (ws.map (·.1) ++ [e0 a]) ((ws.filterMap (·.2)).map (stD u)) /\ ((ws.filterMap (·.2)).map (stD u)).Perm u /\ ∀ w ∈ ws,∃ n,w.2=some n /\ n < u.length:=by
 have h0:∀ p n,n ∈ here (incN (stks u) (stks u).length) p->∃ l,(stks u)[n]?=some l /\ ic l p:=λ p n h=>xo1 h;have hsi:∃ l ∈ stks u,ic l (e0 a):=⟨(e0 a,e1 a),List.mem_map.mpr ⟨a,ha,rfl⟩,.inl rfl⟩;have ll:(stks u).length=u.length:=length_map _;have K:=R.wk hsi h0
 have H:=R.hz (g0:=e0 a) (λ l hl=>by obtain ⟨s,_,rfl⟩:=List.mem_map.mp hl; exact e_ne s) hsi h0 (λ n l p e h=>xq2 e h) (λ v=>by
  rw [wk4,yk2,wm2 hR v];simp)
 obtain ⟨ws',e',cg⟩:=H.en rfl;obtain ⟨rfl,_⟩:=append_inj' e' rfl;have al:=us2 H cg (wv1 ha (hR.2.1 a ha));have pU:U.Perm (List.range u.length):=(perm_ext_iff_of_nodup K.nd List.nodup_range).mpr λ n=>⟨λ h=>List.mem_range.mpr (ll ▸ K.us n h),λ h=>al n (ll ▸ List.mem_range.mp h)⟩;have efm:List.filterMap (λ w:Wt=>w.2) ([] ++ (ws ++ [(e0 a,none)]))=List.filterMap (λ w:Wt=>w.2) ws:=by rw [nil_append,List.filterMap_append]; simp
 have pN:(ws.filterMap (·.2)).Perm (List.range u.length):=by
  have:=H.num;rw [efm] at this;exact this.trans pU
 refine ⟨zy2 cg λ z=>?_,?_,λ w hw=>?_⟩
 ·rw [z] at pN;have:=pN.length_eq;rw [length_range] at this;have:=List.length_pos_of_mem ha;simp at *;omega
 ·have:=pN.map (stD u)
  rwa [ua3] at this
 ·obtain ⟨_,ws2,e2,hw2⟩:=K.bt.resolve_right (λ ⟨rs,e,_⟩=>by cases e);obtain ⟨rfl,_⟩:=append_inj' e2 rfl;obtain ⟨n,hn⟩:=hw2 w hw;exact ⟨n,hn,List.mem_range.mp (pN.mem_iff.mp (List.mem_filterMap.mpr ⟨w,hw,hn⟩))⟩
def spTp:Sp3:=λ ds μ Q=>∃ u:List T3,ds=[encU u] /\ Pc u /\ Rg u /\ ∀ r x t L μ',Ext μ μ'->μ' r=some (.lst [.ref x])->μ' x=some (.lst (t.map encQ))->Wl t L->L.Perm u->t.length=u.length + 1->Q (.ref r) μ'
theorem zy3 (ds:List D) (μ:Mu) (Q:VK3) (h:spTp ds μ Q):so3 va1 xb3 za1 zk2 { nx:=λ _ μ'=>Q .non μ',rt:=Q } (xd0 wl3 ds) μ:=by
 obtain ⟨u,rfl,hP,hR,q⟩:=h;have hz:(1000:Nat) < sizeLine:=by decide
 have ul:=hP.2.2;refine ⟨u,rfl,hP,wm2 hR,λ od μ1 ex1 _ eo=>?_⟩;intro sr hsr;refine wk0 (rest:=[]) endD hsr [18] (λ _ _=>trivial) ?_ ?_
 ·intro x hx μ2 R e2 kk;obtain ⟨s,hs,rfl⟩:=List.mem_map.mp hx;exact ⟨s,rfl,hP.2.1 s hs,kk μ2 (Ext.refl _)⟩
 intro μ2 e2 es;rw [tj3] at es;have eo2:=e2 _ _ eo
 conv=>whnf
 rw [eo2];refine ⟨rfl,⟨by decide,by decide,by decide,by decide⟩,λ br hbr=>?_⟩;refine wk0 (l:=[]) (rest:=[some (.ref od)]) (λ d=>d) hbr (Nat.zero_le _) (λ _ _=>trivial) (λ x hx=>nomatch hx) ?_;intro μ3 e3 eb;have eo3:=e3 _ _ eo2;have es3:=e3 _ _ es
 conv=>whnf
 rw [eo3]
 obtain ⟨s,r,rfl⟩:∃ s r,u=s :: r:=by
  cases u with
  | nil=>exact absurd rfl hR.1
  | cons s r=>exact ⟨s,r,rfl⟩
 show ixR (.ref sr) (.int 0) μ3 (λ d μ1=>_);refine uf0 (d:=encL (e0 s,e1 s)) es3 atI0 ?_;show (ret3 (vb0 za1 (va0 (vb0 zk2 (va0 (o3 addR (v3 2) (v3 3)) (va0 (v3 4) nil3))) (va0 (vb0 lenR (va0 (v3 2) nil3)) nil3)))) { nx:=λ _ μ'=>Q .non μ',rt:=Q } [some (encU (s :: r)),some (.ref od),some (.ref sr),some (.ref br),some (encQ (e0 s))] μ3;dsimp only [ret3,vb0,va0,o3,v3,getI,nil3];have sl:(stks (s :: r)).length=(s :: r).length:=length_map _;refine sv0 es3 eb (by rw [length_map]; simp only [map_nil,length_nil]; omega) λ lr hlr=>?_;rw [map_nil,append_nil];refine ⟨lr,stks (s :: r),e0 s,rfl,za0,by omega,⟨(e0 s,e1 s),.head _,.inl rfl⟩,λ wy rem U way μ4 ex4 _ ew R K=>?_⟩;obtain ⟨_,ws,rfl,hw⟩:=K.bt.resolve_right (λ ⟨rs,e,_⟩=>by cases e);obtain ⟨w1,w2,w3⟩:=zm2 (.head _) hR R
 have wl:ws.length=(s :: r).length:=by
  have a:=w2.length_eq
  have b:(ws.filterMap (·.2)).length=ws.length:=by
   clear w1 w2 a ew R K
   induction ws with
   | nil=>rfl
   | cons w ws ih =>
    obtain ⟨n,e⟩:=hw w (.head _);rw [filterMap_cons,e,length_cons,length_cons,ih (λ v hv=>hw v (.tail _ hv)) λ v hv=>w3 v (.tail _ hv)]
  rw [length_map,b] at a;exact a
 have es4:=ex4 _ _ ((Ext.new hlr) _ _ es3)
 conv=>whnf
 rw [es4];show za1 [.ref wy,.int (((stks (s :: r)).map encL).length:Int)] μ4 Q;rw [length_map,sl];refine ⟨wy,ws,e0 s,(s :: r).length,rfl,ew,w3,by omega,λ r2 x μ5 ex5 e5 e6=>?_⟩;exact q r2 x _ _ μ5 (((((ex1.trans e2).trans e3).trans (Ext.new hlr)).trans ex4).trans ex5) e5 e6 w1 w2 (by rw [length_append,length_map,length_singleton,wl])
def spTs:Sp3:=λ ds μ Q=>∃ ts:List T3,ds=[.tup (ts.map encT)] /\ Pc ts /\ Rg ts /\ ∀ r x t L μ',Ext μ μ'->μ' r=some (.lst [.ref x])->μ' x=some (.lst (t.map encQ))->Wl t L->L.Perm ts->t.length=ts.length + 1->Q (.ref r) μ'
theorem wy3 (ds:List D) (μ:Mu) (Q:VK3) (h:spTs ds μ Q):xp3 wm0 spTp { nx:=λ _ μ'=>Q .non μ',rt:=Q } (xd0 vl3 ds) μ:=by
 obtain ⟨ts,rfl,hP,hR,q⟩:=h;refine ⟨Nat.zero_le _,λ tr htr=>?_⟩;refine ⟨ts,rfl,hP,λ r us μ1 ex1 hr er ip=>?_⟩;have et1:=ex1 _ _ za0;have nrt:r ≠ tr:=λ z=>by subst z; rw [za0] at hr; cases hr
 obtain ⟨u,rfl⟩:=List.length_eq_one_iff.mp ((xw2 (tr1 hP) ip hR.1).mpr hR.2.1);have pm:u.Perm ts:=by have:=ip.perm; rwa [flatten_cons,List.flatten_nil,append_nil] at this
 have eu:u=ts:=uq pm (ip.up u [16]) (ut4 hP);subst eu
 conv=>whnf
 rw [er];have exA:Ext μ μ1:=(Ext.new htr).trans ex1;refine sl0 (λ l ρ μ'=>∃ o:Option D,ρ=[some (.tup (u.map encT)),some (.ref tr),o] /\ μ' r=some (.lst [encU u]) /\ (l=[encU u] /\ μ'=μ1 \/ l=[] /\ ∃ x t L,Ext μ μ' /\ μ' tr=some (.lst [.ref x]) /\ μ' x=some (.lst (t.map encQ)) /\ Wl t L /\ L.Perm u /\ t.length=u.length + 1)) ?_ ?_ ?_ ?_
 ·exact ⟨none,rfl,er,.inl ⟨rfl,rfl⟩⟩
 ·rintro l ρ μ' ⟨_,_,e,_⟩;exact e
 ·rintro ρ μ' ⟨o,rfl,_,⟨e,_⟩ | ⟨_,x,t,L,a1,a2,a3,a4,a5,a6⟩⟩
  ·cases e
  ·exact q tr x t L μ' a1 a2 a3 a4 a5 a6
 ·rintro y rest ρ μ' ⟨o,rfl,e2,⟨e,rfl⟩ | ⟨e,_⟩⟩
  ·injection e with f1 f2
   subst f1 f2
   conv=>whnf
   rw [et1];refine ⟨u,rfl,hP,hR,λ r2 x t L μ2 ex2 er2 ex' w1 w2 w3=>?_⟩;dsimp only [nil3];have et2:=ex2 _ _ et1;refine uq2 et2 er2 (show 0 + 1<=sizeLine by decide) ?_
   have nx':x ≠ tr:=λ z=>by
    subst z;rw [et2] at ex';have:=congrArg (λ o:Option MO=>match o with | some (.lst l)=>l.length | _=>0) ex';simp only [length_nil,length_map] at this;omega
   refine ⟨_,rfl,by rw [sa0 nrt]; exact ex2 _ _ e2,.inr ⟨rfl,x,t,L,(exA.trans ex2).upd htr,za0,by rw [sa0 nx']; exact ex',w1,w2,w3⟩⟩
  ·cases e
def mkd (G:List Pt) (M:Pt->Int):List (List Int × D):=G.map λ c=>(ptk c,.int (M c))
theorem yc1 {G:List Pt} {f g:Pt->Int} (h:∀ t ∈ G,f t=g t):mkd G f=mkd G g:=by
 unfold mkd;exact map_congr_left λ t ht=>by rw [h t ht]
theorem tf1 {M:Pt->Int} {c:Pt}:∀ {G:List Pt},c ∈ G->valL (mkd G M) (ptk c)=some (.int (M c))
 | x :: r,h=>by
  unfold valL mkd;rw [map_cons,find?_cons];by_cases e:x=c
  ·subst e; simp
  ·have e1:¬ ptk x=ptk c:=λ z=>e (vl0 z);simp only [e1,decide_false];exact tf1 (M:=M) ((List.mem_cons.mp h).resolve_left (Ne.symm e))
theorem zw2 (M:Pt->Int) (c:Pt):∀ G:List Pt,(valL (mkd G M) (ptk c)).isSome=decide (c ∈ G)
 | []=>by simp [valL,mkd]
 | d :: G=>by
  have ih:=zw2 M c G;by_cases e:d=c
  ·subst e; simp [valL,mkd]
  ·have e':¬ ptk d=ptk c:=λ z=>e (vl0 z);have e2:¬ c=d:=λ z=>e z.symm;simp only [valL,mkd,map_cons,find?_cons,e',decide_false,mem_cons,e2,false_or] at ih ⊢;exact ih
theorem wb2 {M:Pt->Int} {c:Pt} {m:Int} {G:List Pt} (h:c ∈ G):putL (mkd G M) (ptk c) (.int m)=mkd G (λ x=>if x=c then m else M x):=by
 unfold putL;rw [if_pos]
 ·unfold mkd;rw [map_map];apply map_congr_left;intro x _;show (if ptk x=ptk c then (ptk x,D.int m) else (ptk x,D.int (M x)))=_;by_cases e:x=c
  ·subst e; rw [if_pos rfl]; simp
  ·rw [if_neg (λ z=>e (vl0 z))]; dsimp only; rw [if_neg e]
 ·exact List.any_eq_true.mpr ⟨(ptk c,.int (M c)),List.mem_map.mpr ⟨c,h,rfl⟩,decide_eq_true rfl⟩
theorem vb2 {M:Pt->Int} {c:Pt} {G:List Pt} (h:c ∉ G):putL (mkd G M) (ptk c) (.int (M c))=mkd (G ++ [c]) M:=by
 unfold putL;rw [if_neg]
 ·unfold mkd; rw [map_append]; rfl
 ·intro z;obtain ⟨x,hx,e⟩:=List.any_eq_true.mp z;obtain ⟨y,hy,rfl⟩:=List.mem_map.mp hx;have:=vl0 (of_decide_eq_true e);subst this;exact h hy
theorem dg_k {d:Addr} {G:List Pt} {M:Pt->Int} {c:Pt} {μ:Mu} {Q:VK3} (h:μ d=some (.dcl (mkd G M))) (hc:c ∈ G) (k:Q (.int (M c)) μ):dgR (.ref d) (encQ c) μ Q:=by
 have hv:=tf1 (M:=M) hc;unfold dgR;simp only [ug1,h,hv];exact k
theorem xc4 {d:Addr} {G:List Pt} {M:Pt->Int} {c:Pt} {m:Int} {μ:Mu} {D':Ends3} {ρ:St3} {to ti tv:TE3} (h:μ d=some (.dcl (mkd G M))) (hl:G.length < 90000) (hc:c ∈ G) (h0:∀ R,R (.int m) μ->tv ρ μ R) (h1:∀ R,R (.ref d) μ->to ρ μ R) (h2:∀ R,R (encQ c) μ->ti ρ μ R) (k:D'.nx ρ (updM μ d (.dcl (mkd G λ x=>if x=c then m else M x)))):xo0 to ti tv D' ρ μ:=by
 refine h0 _ (h1 _ (h2 _ ?_));simp only [ug1,h];refine ⟨by unfold mkd; rw [length_map]; exact hl,?_⟩;rw [wb2 hc];exact k
theorem um1 (G:List Pt) (M:Pt->Int):((mkd G M).map λ kv=>tupI kv.1)=G.map encQ:=by
 unfold mkd;rw [map_map];rfl
def Sm (ts:[34]):Prop:=∀ s ∈ ts,-2<=s.1 /\ s.1 + 1 - s.2.2<=4 /\ -2<=s.2.1 /\ s.2.1 + s.2.2<=4
theorem vg4 {p:Addr} {l:List (List Int × D)} {μ:Mu} {Q:VK3} (h:μ p=some (.dcl l)) (k:Q (.int l.length) μ):zg1 [.ref p] μ Q:=by
 simp only [zg1,h];exact k
theorem us4 {d:Addr} {G:List Pt} {M:Pt->Int} {c:Pt} {μ:Mu} {D':Ends3} {ρ:St3} {to ti tv:TE3} (h:μ d=some (.dcl (mkd G M))) (hl:G.length < 90000) (hc:c ∉ G) (h0:∀ R,R (.int (M c)) μ->tv ρ μ R) (h1:∀ R,R (.ref d) μ->to ρ μ R) (h2:∀ R,R (encQ c) μ->ti ρ μ R) (k:D'.nx ρ (updM μ d (.dcl (mkd (G ++ [c]) M)))):xo0 to ti tv D' ρ μ:=by
 refine h0 _ (h1 _ (h2 _ ?_));simp only [ug1,h];refine ⟨by unfold mkd; rw [length_map]; exact hl,?_⟩;rw [vb2 hc];exact k
def dQ (d:D):Pt:=match d with
 | .tup [.int a,.int b]=>(a,b)
 | _=>(0,0)
theorem dq_e (c:Pt):dQ (encQ c)=c:=rfl
theorem xl4 {ns:List Int} (h:ns.length < 511):BI ns:=λ l nd hl=>Nat.lt_of_le_of_lt (List.Nodup.length_le_of_subset nd λ x hx=>hl x hx) h
theorem forR {S:Mu->Prop} {g:TG3} {tb:TS3} {D':Ends3} (V:Nat->St3->Mu->Prop) {n:Nat} {ρ:St3} {μ:Mu} (hS:∀ μ,S μ) (h0:V 0 ρ μ) (hn:∀ ρ μ,V n ρ μ->D'.nx ρ μ)
    (hs:∀ i ρ μ,i < n->V i ρ μ->g (.int (i:Int)) ρ μ λ ρ1 μ1=>tb { D' with nx:=V (i + 1),ct:=V (i + 1),bk:=D'.nx } ρ1 μ1):yd1 S g tb D' (rngD 0 n) ρ μ:=by
 have main:∀ k i ρ μ,i + k=n->V i ρ μ->yd1 S g tb D' (rngD (i:Int) k) ρ μ:=by
  intro k
  induction k with
  | zero =>
   intro i ρ μ e v;have e':i=n:=e;rw [e'] at v;exact ⟨hS μ,hn _ _ v⟩
  | succ k ih =>
   intro i ρ μ e v;rw [vh0];exact ⟨hS μ,V (i + 1),λ ρ' μ' v'=>ih (i + 1) ρ' μ' [2] v',hs i ρ μ [2] v⟩
 exact main n 0 ρ μ (Nat.zero_add n) h0
theorem sy2 {α:Type} {l:List α} {i:Nat} {v:α} (h:l[i]?=some v):atI l (i:Int)=some v:=by
 have hl:i < l.length:=(List.getElem?_eq_some_iff.mp h).1;unfold atI ixN;rw [if_pos [2],if_pos [2],Int.toNat_natCast];exact h
def pQ (c:Pt):PyData:=.tuple [.int c.1,.int c.2]
theorem xj4 (s t:Pt):PyData.eqv (pQ s) (pQ t)=decide (s=t):=by
 obtain ⟨a,b⟩:=s;obtain ⟨d,e⟩:=t;have q:∀ x y:Int,(x == y)=decide (x=y):=λ x y=>by by_cases h:x=y <;> simp [h]
 simp [pQ,PyData.eqv,PyData.eqvAll,q]
theorem tg2:∀ L:List Pt,dats (L.map encQ)=some (L.map pQ)
 | []=>rfl
 | t :: r=>by simp only [map_cons,dats,encQ,dat,tg2 r,pQ]
theorem vh1:∀ L:List Pt,PyData.depthAll (L.map pQ)<=2
 | []=>by simp [PyData.depthAll]
 | t :: r=>by
  have:=vh1 r;simp only [map_cons,PyData.depthAll,pQ,PyData.depth];omega
theorem vl4 (t:Pt):∀ A:List Pt,((A.map pQ).any λ e=>PyData.eqv e (pQ t))=decide (t ∈ A)
 | []=>by simp
 | a :: A=>by
  rw [map_cons,any_cons,vl4 t A,xj4];by_cases h:a=t
  ·subst h; simp
  ·simp [h,Ne.symm h]
theorem in_Q {neg:Bool} {t:Pt} {A:List Pt} {p:Addr} {μ:Mu} (h:μ p=some (.lst (A.map encQ))) (K:VK3):inR neg (encQ t) (.ref p) μ K=K (.bl (if neg then !decide (t ∈ A) else decide (t ∈ A))) μ:=by
 show inD neg (encQ t) (.ref p) μ K=_;unfold inD;rw [show datM μ (encQ t)=some (pQ t) from rfl,show datM μ (.ref p)=some (.list (A.map pQ)) from by simp only [datM,h,tg2]];dsimp only;rw [vl4];have d1:(pQ t).depth<=64:=by simp [pQ,PyData.depth,PyData.depthAll]
 have d2:(PyData.list (A.map pQ)).depth<=64:=by
  have:=vh1 A;simp only [PyData.depth];omega
 exact propext ⟨λ h=>h.2,λ h=>⟨⟨d1,d2⟩,h⟩⟩
def Sq (x y:Int):List T3:=[(x,y,0),(x,y,1),(x,y + 1,0),(x + 1,y,1)]
def spLn:Sp3:=λ ds μ Q=>∃ (p:Addr) (a b:Int),ds=[.ref p,.int 8] /\ μ p=some (.lst [.int a,.int b]) /\ 0<=a /\ ∀ (us:[34]) a' b' μ',Pc us->Sm us->0<=a'->μ' p=some (.lst [.int a',.int b'])->ExtB p μ μ'->Q (.tup (us.map encT)) μ'
def wz (t:T3):Prop:=wy t /\ -2<=t.1 /\ t.1 + 1 - t.2.2<=4 /\ -2<=t.2.1 /\ t.2.1 + t.2.2<=4
structure Wn (μ μ':Mu) (p f:Addr) (fs:List T3) (c:Nat):Prop where
 eb:ExtB p μ μ'
 st:∃ a b:Int,μ' p=some (.lst [.int a,.int b]) /\ 0<=a
 fl:μ' f=some (.lst (fs.map encT))
 nf:f ≠ p
 ff:μ f=none
 wa:∀ t ∈ fs,wz t
 le:fs.length + 4 * c<=48
theorem xr4 (ds:List D) (μ:Mu) (Q:VK3) (h:spLn ds μ Q):t_q2 spTk { nx:=λ _ μ'=>Q .non μ',rt:=Q } (xd0 N_q2 ds) μ:=by
 obtain ⟨p,a,b,rfl,hp,ha,q⟩:=h;have hz:(1000:Nat) < sizeLine:=by decide
 refine ⟨p,5,a,b,rfl,by decide,by decide,hp,ha,λ w a1 b1 w0 w1 h1=>?_⟩;refine ⟨p,5,a1,b1,rfl,by decide,by decide,za0,h1,λ hh a2 b2 h0 h5 h2=>?_⟩;rw [sf0];refine ⟨Nat.zero_le _,λ f hf=>?_⟩;have nf:f ≠ p:=λ z=>by subst z; rw [za0] at hf; cases hf
 have hf0:μ f=none:=by rw [sa0 nf] at hf; exact hf
 have hp3:updM (updM μ p (.lst [.int a2,.int b2])) f (.lst []) p=some (.lst [.int a2,.int b2]):=by rw [sa0 (Ne.symm nf),za0]
 have eb3:ExtB p μ (updM (updM μ p (.lst [.int a2,.int b2])) f (.lst [])):=λ c o n hc=>by rw [sa0 (ub0 hc hf0),sa0 n]; exact hc
 have hf3:updM (updM μ p (.lst [.int a2,.int b2])) f (.lst []) f=some (.lst []):=za0;generalize updM (updM μ p (.lst [.int a2,.int b2])) f (.lst [])=μ3 at hp3 eb3 hf3;refine ⟨p,9,a2,b2,rfl,by decide,by decide,hp3,h2,λ n a4 b4 n0 n7 h4=>?_⟩;refine ⟨⟨by omega,by omega⟩,?_⟩;refine to0 (λ l ρ μ'=>∃ (f:Addr) (fs:[34]) (o5 o6 o7 o8:Option D),ρ=[some (.ref p),some (.int 8),some (.int (2 + w)),some (.int (2 + hh)),some (.ref f),o5,o6,o7,o8] /\ Wn μ μ' p f fs l.length) ?_ (λ _ _ _ _=>trivial) ?_ ?_
 ·refine ⟨f,[],none,none,none,none,rfl,⟨eb3.trans ExtB.upd,⟨a4,b4,za0,h4⟩,by rw [sa0 nf]; exact hf3,nf,hf0,λ _ h=>(nomatch h),?_⟩⟩;unfold rngD;simp only [length_map,length_range,length_nil];omega
 ·rintro ρ μ' ⟨f,fs,o5,o6,o7,o8,rfl,W⟩;obtain ⟨a',b',e',h'⟩:=W.st;have le:=W.le;refine ⟨fs,W.fl,λ l nd hl=>?_,λ ks nd mk us pm su r hr=>?_⟩
  ·have:=List.Nodup.length_le_of_subset nd hl;omega
  ·dsimp only [nil3];have kl:=List.Nodup.length_le_of_subset nd λ x hx=>(mk x).mp hx;refine uz2 za0 (q us a' b' _ (ve4 nd (λ t ht=>(W.wa t ((mk t).mp ht)).1) [2] pm su) (λ t ht=>(W.wa t ((mk t).mp (pm.mem_iff.mp ht))).2) h' ?_ (W.eb.trans (Ext.b p (Ext.new hr))))
   ·rw [sa0 (ub0 e' hr)]; exact e'
 ·rintro GG hG x rest ρ μ' ⟨f,fs,o5,o6,o7,o8,rfl,W⟩;subst hG;obtain ⟨a',b',e',h'⟩:=W.st;have le:=W.le;rw [length_cons] at le;refine ⟨p,2 + w,a',b',rfl,by omega,by omega,e',h',λ x' a5 b5 x0 x1 h5'=>?_⟩;refine ⟨p,2 + hh,a5,b5,rfl,by omega,by omega,za0,h5',λ y' a6 b6 y0 y1 h6=>?_⟩;refine ⟨p,6,a6,b6,rfl,by decide,by decide,za0,h6,λ wa a7 b7 wa0 wa1 h7=>?_⟩;rw [sf0,sf0];have fl:updM μ' p (.lst [.int a7,.int b7]) f=some (.lst (fs.map encT)):=by rw [sa0 W.nf]; exact W.fl
  have ep:updM μ' p (.lst [.int a7,.int b7]) p=some (.lst [.int a7,.int b7]):=za0;have eb:ExtB p μ (updM μ' p (.lst [.int a7,.int b7])):=W.eb.trans ExtB.upd;generalize updM μ' p (.lst [.int a7,.int b7])=μ4 at fl ep eb;show if decide (wa < 4)=true then _ else _;by_cases c:wa < 4
  ·rw [decide_eq_true c,if_pos rfl]
   conv=>whnf
   rw [fl];refine ⟨(by decide:(0:Int) < 2),z3,?_⟩;dsimp only [nil3];refine zt1 fl [18] ?_;refine ⟨f,fs ++ [(x' - 2,y' - 2,wa % 2)],_,_,_,_,rfl,⟨λ c o n hc=>by rw [sa0 (ub0 hc W.ff)]; exact eb c o n hc,⟨a7,b7,by rw [sa0 (Ne.symm W.nf)]; exact ep,h7⟩,by rw [za0,map_append]; rfl,W.nf,W.ff,λ t ht=>?_,by rw [length_append,length_singleton]; omega⟩⟩;rcases List.mem_append.mp ht with ht | ht
   ·exact W.wa t ht
   ·rw [mem_singleton] at ht;subst ht;refine ⟨?_,?_⟩
    ·show wa % 2=0 \/ wa % 2=1;omega
    ·dsimp only;omega
  ·rw [decide_eq_false c,if_neg [7]];refine ⟨z3,z3,z3,z3,(show 4<=sizeLine by decide),λ g hg=>?_⟩;have fl2:=(Ext.new (o:=.lst ((Sq (x' - 2) (y' - 2)).map encT)) hg) _ _ fl;have eg:updM μ4 g (.lst ((Sq (x' - 2) (y' - 2)).map encT)) g=some (.lst ((Sq (x' - 2) (y' - 2)).map encT)):=za0;have ep2:=(Ext.new (o:=.lst ((Sq (x' - 2) (y' - 2)).map encT)) hg) _ _ ep;have eb2:=eb.trans (Ext.b p (Ext.new (o:=.lst ((Sq (x' - 2) (y' - 2)).map encT)) hg));show addR (.ref f) (.ref g) (updM μ4 g (.lst ((Sq (x' - 2) (y' - 2)).map encT))) (λ d μ1=>_);generalize updM μ4 g (.lst ((Sq (x' - 2) (y' - 2)).map encT))=μ5 at fl2 eg ep2 eb2;simp only [addR,fl2,eg];refine ⟨by simp only [length_map,Sq,length_cons,length_nil]; omega,λ h hh'=>?_⟩;have nhp:h ≠ p:=(ub0 ep2 hh').symm;refine ⟨h,fs ++ Sq (x' - 2) (y' - 2),_,_,_,_,rfl,⟨eb2.trans (Ext.b p (Ext.new hh')),⟨a7,b7,by rw [sa0 (Ne.symm nhp)]; exact ep2,h7⟩,by rw [za0,map_append],nhp,?_,λ t ht=>?_,by rw [length_append]; simp only [Sq,length_cons,length_nil]; omega⟩⟩
   ·cases z:μ h with
    | none=>rfl
    | some o=>have:=eb2 h o nhp z; rw [hh'] at this; cases this
   ·rcases List.mem_append.mp ht with ht | ht
    ·exact W.wa t ht
    ·simp only [Sq,mem_cons,not_mem_nil,or_false] at ht;unfold wz wy;rcases ht with rfl | rfl | rfl | rfl <;> dsimp only <;> omega
def enL (ts:[34]):List Pt:=ts.flatMap λ s=>[end0 s,end1 s]
theorem enL_mem {ts:[34]} {p:Pt}:p ∈ enL ts ↔ ∃ s ∈ ts,p=end0 s \/ p=end1 s:=by
 unfold enL;rw [mem_flatMap];refine exists_congr λ s=>and_congr_right λ _=>?_;rw [mem_cons,mem_singleton]
def spEn:Sp3:=λ ds μ Q=>∃ ts:List T3,ds=[.tup (ts.map encT)] /\ ts.length < 60 /\ ∀ d E μ',Ext μ μ'->μ d=none->E.Nodup->(∀ p,p ∈ E ↔ p ∈ enL ts)->μ' d=some (.dcl (mkd E λ p=>((enL ts).count p:Nat)))->Q (.ref d) μ'
theorem gd_k {d:Addr} {E:List Pt} {M:Pt->Int} {c:Pt} {ρ:St3} {μ:Mu} {Q:VK3} (h1:getI ρ 1=some (.ref d)) (h5:getI ρ 5=some (encQ c)) (h:μ d=some (.dcl (mkd E M))) (h0:c ∉ E->M c=0) (k:Q (.int (M c)) μ):gdf3 (v3 1) (va0 (v3 5) (va0 [15] nil3)) ρ μ Q:=by
 unfold gdf3 va0 v3 c3 nil3;rw [h1];dsimp only;rw [h];dsimp only;rw [h5];dsimp only;rw [ug1];dsimp only;by_cases e:c ∈ E
 ·rw [tf1 e]; exact k
 ·have:valL (mkd E M) (ptk c)=none:=by
    have:=zw2 M c E;rw [decide_eq_false e] at this;cases q:valL (mkd E M) (ptk c) with
    | none=>rfl
    | some v=>rw [q] at this; cases this
  rw [this];rw [h0 e] at k;exact k
theorem vs4 {d:Addr} {E:List Pt} {M:Pt->Int} {c:Pt} {m:Int} {μ:Mu} {D':Ends3} {ρ:St3} {to ti tv:TE3} (h:μ d=some (.dcl (mkd E M))) (hl:E.length < 90000) (h0:∀ R,R (.int m) μ->tv ρ μ R) (h1:∀ R,R (.ref d) μ->to ρ μ R) (h2:∀ R,R (encQ c) μ->ti ρ μ R)
    (k:∀ E',(E'=E /\ c ∈ E \/ E'=E ++ [c] /\ c ∉ E)->D'.nx ρ (updM μ d (.dcl (mkd E' λ x=>if x=c then m else M x)))):xo0 to ti tv D' ρ μ:=by
 refine h0 _ (h1 _ (h2 _ ?_));simp only [ug1,h];refine ⟨by unfold mkd; rw [length_map]; exact hl,?_⟩;by_cases e:c ∈ E
 ·rw [wb2 e];exact k E (.inl ⟨rfl,e⟩)
 ·have q:mkd E M=mkd E λ x=>if x=c then m else M x:=yc1 λ t ht=>by
    have z:¬ t=c:=λ z=>e (z ▸ ht);rw [if_neg z]
  have q2:=vb2 (M:=λ x=>if x=c then m else M x) e;rw [if_pos rfl] at q2;rw [q,q2];exact k _ (.inr ⟨rfl,e⟩)
theorem zr4 (ds:List D) (μ:Mu) (Q:VK3) (h:spEn ds μ Q):t_q0 { nx:=λ _ μ'=>Q .non μ',rt:=Q } (xd0 N_q0 ds) μ:=by
 obtain ⟨ts,rfl,tl,q⟩:=h;intro d hd;show (for3 (is3 (v3 0)) (vu0 3 (ze0 (gn3 2) (ze0 (gn3 3) (ze0 (gn3 4) uu0)))) _) _ [some [25],some (.ref d),none,none,none,none] (updM μ d (.dcl []));refine to0 (λ l ρ μ'=>∃ (js ks:[34]) (E:List Pt) (o2 o3' o4 o5:Option D),l=ks.map encT /\ js ++ ks=ts /\ ρ=[some [25],some (.ref d),o2,o3',o4,o5] /\ Ext μ μ' /\ E.Nodup /\ (∀ p,p ∈ E ↔ p ∈ enL js) /\ E.length<=2 * js.length /\ μ' d=some (.dcl (mkd E λ p=>((enL js).count p:Nat)))) ?_ (λ _ _ _ _=>trivial) ?_ ?_
 ·exact ⟨[],ts,[],none,none,none,none,rfl,rfl,rfl,Ext.new hd,nodup_nil,λ p=>Iff.rfl,Nat.zero_le _,za0⟩
 ·rintro ρ μ' ⟨js,ks,E,o2,o3',o4,o5,e,ej,rfl,ex,nd,mm,_,ed⟩;cases ks with
  | cons _ _=>cases e
  | nil =>
  rw [append_nil] at ej;subst ej;exact q d E μ' ex hd nd mm ed
 ·rintro GG hG x rest ρ μ' ⟨js,ks,E,o2,o3',o4,o5,e,ej,rfl,ex,nd,mm,ln,ed⟩;cases ks with
  | nil=>cases e
  | cons s ks =>
   rw [map_cons] at e;injection e with e1 e2
   subst e1 e2;subst hG;have jl:js.length + (ks.length + 1)=ts.length:=by rw [<- ej,length_append,length_cons]
   refine ⟨rfl,?_⟩;refine ⟨z2,z2,z2,λ p hp=>?_⟩;have np:d ≠ p:=ub0 ed hp
   conv=>whnf
   rw [za0];have er:enL (js ++ [s])=enL js ++ [end0 s,end1 s]:=by unfold enL; rw [flatMap_append]; simp
   refine to0 (λ l ρ μ2=>∃ (as bs E:List Pt) (o5:Option D),l=bs.map encQ /\ as ++ bs=[end0 s,end1 s] /\ ρ=[some [25],some (.ref d),some (.int s.1),some (.int s.2.1),some (.int s.2.2),o5] /\ Ext μ μ2 /\ E.Nodup /\ (∀ p,p ∈ E ↔ p ∈ enL js ++ as) /\ E.length<=2 * js.length + as.length /\ μ2 d=some (.dcl (mkd E λ p=>((enL js ++ as).count p:Nat))) /\ μ2 p=some (.lst ([end0 s,end1 s].map encQ))) ?_ ?_ ?_ ?_
   ·refine ⟨[],[end0 s,end1 s],E,_,rfl,rfl,rfl,λ a o ha=>?_,nd,by simpa using mm,by simpa using ln,?_,za0⟩
    ·have:=ex a o ha;rw [sa0 (ub0 this hp)]; exact this
    ·rw [sa0 np,append_nil]; exact ed
   ·rintro l ρ μ2 ⟨_,_,_,_,_,_,_,_,_,_,_,_,z⟩;exact z
   ·rintro ρ μ2 ⟨as,bs,E2,o5',e,ea,rfl,ex2,nd2,mm2,ln2,ed2,_⟩;cases bs with
    | cons _ _=>cases e
    | nil =>
    rw [append_nil] at ea;subst ea;rw [<- er] at mm2 ed2;refine ⟨js ++ [s],ks,E2,_,_,_,_,rfl,by rw [<- ej]; simp,rfl,ex2,nd2,mm2,?_,ed2⟩;rw [length_append,length_singleton];simp only [length_cons,length_nil] at ln2;omega
   ·rintro GG hG x rest ρ μ2 ⟨as,bs,E2,o5',e,ea,rfl,ex2,nd2,mm2,ln2,ed2,ep⟩;cases bs with
    | nil=>cases e
    | cons c bs =>
     rw [map_cons] at e;injection e with e1 e2
     subst e1 e2;subst hG;have al:as.length + (bs.length + 1)=2:=by have:=congrArg List.length ea; rw [length_append,length_cons] at this; exact this
     refine vs4 (c:=c) (m:=((enL js ++ as).count c:Nat) + 1) ed2 [2] (λ R r=>?_) (λ R r=>r) (λ R r=>r) λ E' hE=>?_
     ·refine gd_k (d:=d) (E:=E2) (c:=c) rfl rfl ed2 (λ z=>?_) r;rw [List.count_eq_zero.mpr (λ h=>z ((mm2 c).mpr h))]; rfl
     ·have ct:(λ x=>if x=c then (((enL js ++ as).count c:Nat):Int) + 1 else ((enL js ++ as).count x:Nat))=λ x=>(((enL js ++ (as ++ [c])).count x:Nat):Int):=by
        funext x;have h:(enL js ++ (as ++ [c])).count x=(enL js ++ as).count x + [c].count x:=by rw [<- append_assoc]; exact List.count_append
        rw [h];by_cases z:x=c
        ·rw [if_pos z,z,List.count_singleton_self]; push_cast; rfl
        ·rw [if_neg z,List.count_singleton,if_neg (by simpa using Ne.symm z),Nat.add_zero]
      rw [ct];refine ⟨as ++ [c],bs,E',_,rfl,by rw [<- ea]; simp,rfl,λ a o ha=>?_,?_,λ p=>?_,?_,za0,?_⟩
      ·rw [sa0 (ub0 ha hd)]; exact ex2 a o ha
      ·rcases hE with ⟨rfl,_⟩ | ⟨rfl,nc⟩
       ·exact nd2
       ·rw [nodup_append];exact ⟨nd2,pairwise_singleton _ _,λ a ha b hb e=>nc (by rw [List.mem_singleton.mp hb] at e; exact e ▸ ha)⟩
      ·rw [<- append_assoc,mem_append,<- mm2 p,mem_singleton];rcases hE with ⟨rfl,hc⟩ | ⟨rfl,_⟩
       ·exact ⟨.inl,λ z=>z.elim id λ e=>e ▸ hc⟩
       ·rw [mem_append,mem_singleton]
      ·rw [length_append,length_singleton];rcases hE with ⟨rfl,_⟩ | ⟨rfl,_⟩
       ·omega
       ·rw [length_append,length_singleton]; omega
      ·rw [sa0 (Ne.symm np)]; exact ep
theorem xs3 {p:Addr} {E:List Pt} {M:Pt->Int} {μ:Mu} {Q:VK3} (h:μ p=some (.dcl (mkd E M))) (h64:E.length < 64) (k:∀ us:List Pt,us.Perm E->us.Pairwise le2->∀ r,μ r=none->Q (.ref r) (updM μ r (.lst (us.map encQ)))):uv1 [.ref p] μ Q:=by
 simp only [uv1,h];refine ⟨E,?_,h64,k⟩;unfold mkd;rw [map_map];rfl
def ixU (us:List Pt):Pt->Int:=λ p=>(us.idxOf p:Nat)
theorem xi3 {us:List Pt}:∀ a ∈ us,∀ b ∈ us,ixU us a=ixU us b->a=b:=λ a ha b hb e=>by
 have e':us.idxOf a=us.idxOf b:=by unfold ixU at e; omega
 have h1:=List.getElem_idxOf (List.idxOf_lt_length_of_mem ha);have h2:=List.getElem_idxOf (List.idxOf_lt_length_of_mem hb);rw [<- h1,<- h2];congr 1
def spPi:Sp3:=λ ds μ Q=>∃ ts:List T3,ds=[.tup (ts.map encT)] /\ ts.length < 60 /\ (∀ s ∈ ts,wy s) /\ (∀ E:List Pt,E.Nodup->(∀ p ∈ E,p ∈ enL ts)->E.length < 64) /\ ∀ n us μ',Ext μ μ'->us.Nodup->(∀ p,p ∈ us ↔ p ∈ enL ts)->n=Nc (Pn (· ∈ ts)) us->Q (.int (n:Nat)) μ'
abbrev lowB:TS3:=[32]
theorem vo2 {us:List Pt} {M:Pt->Int} {s:T3} {d:Addr} {μ:Mu} {o0 o2 o3' o7:Option D} {D':Ends3} (hl:us.length < 90000) (h0:end0 s ∈ us) (h1:end1 s ∈ us) (hd:μ d=some (.dcl (mkd us M)))
    (k:D'.nx [o0,some (.ref d),o2,o3',some (.int s.1),some (.int s.2.1),some (.int s.2.2),some (.int (min (M (end1 s)) (M (end0 s))))] (updM μ d (.dcl (mkd us (low M (end0 s) (end1 s)))))) :
    lowB D' [o0,some (.ref d),o2,o3',some (.int s.1),some (.int s.2.1),some (.int s.2.2),o7] μ:=by
 refine ⟨z2,?_⟩;show dgR (.ref d) (encQ (end0 s)) μ (λ x μ1=>_);refine dg_k hd h0 ⟨z2,?_⟩;show dgR (.ref d) (encQ (end1 s)) μ (λ x μ1=>_);refine dg_k hd h1 ?_;have em:(if M (end1 s) < M (end0 s) then M (end1 s) else M (end0 s))=min (M (end1 s)) (M (end0 s)):=by split <;> omega
 have el:mkd us (λ x=>if x=end1 s then min (M (end1 s)) (M (end0 s)) else (λ x=>if x=end0 s then min (M (end1 s)) (M (end0 s)) else M x) x)=mkd us (low M (end0 s) (end1 s)):=yc1 λ x _=>by
  unfold low;by_cases q:x=end1 s
  ·rw [if_pos q,if_pos (.inr q)]
  ·rw [if_neg q];by_cases q2:x=end0 s
   ·rw [if_pos (.inl q2)]; exact if_pos q2
   ·rw [if_neg (λ z=>z.elim q2 q)]; exact if_neg q2
 rw [<- em] at k el;refine xc4 (to:=v3 1) (ti:=tup3 (va0 (v3 4) (va0 (v3 5) nil3))) (tv:=v3 7) (c:=end0 s) (m:=if M (end1 s) < M (end0 s) then M (end1 s) else M (end0 s)) (ρ:=[o0,some (.ref d),o2,o3',some (.int s.1),some (.int s.2.1),some (.int s.2.2),some (.int (if M (end1 s) < M (end0 s) then M (end1 s) else M (end0 s)))]) hd hl h0 (λ R r=>r) (λ R r=>r) (λ R r=>⟨z2,r⟩) ?_;refine xc4 (to:=v3 1) (ti:=tup3 (va0 (o3 subR (o3 addR (v3 4) [8]) (v3 6)) (va0 (o3 addR (v3 5) (v3 6)) nil3))) (tv:=v3 7) (c:=end1 s) (m:=if M (end1 s) < M (end0 s) then M (end1 s) else M (end0 s)) (ρ:=[o0,some (.ref d),o2,o3',some (.int s.1),some (.int s.2.1),some (.int s.2.2),some (.int (if M (end1 s) < M (end0 s) then M (end1 s) else M (end0 s)))]) za0 hl h1 (λ R r=>r) (λ R r=>r) (λ R r=>⟨z2,r⟩) ?_;rw [sf0,el];exact k
theorem wz1 {ts:[34]} {us:List Pt} {d:Addr} {μ0 μ:Mu} {Q:VK3} {o2:Option D} (hw:∀ s ∈ ts,wy s) (nd:us.Nodup) (mm:∀ p,p ∈ us ↔ p ∈ enL ts) (hl:us.length < 64) (hd0:μ0 d=none) (ex:Ext μ0 μ) (hd:μ d=some (.dcl (mkd us (ixU us))))
    (q:∀ n μ',Ext μ0 μ'->n=Nc (Pn (· ∈ ts)) us->Q (.int (n:Nat)) μ'):wg0 spEn { nx:=λ _ μ'=>Q .non μ',rt:=Q } [some [25],some (.ref d),o2,none,none,none,none,none] μ:=by
 have hz:(1000000:Nat) < sizeLine:=by decide
 have hE:∀ s ∈ ts,end0 s ∈ us /\ end1 s ∈ us:=λ s hs=>⟨(mm _).mpr (enL_mem.mpr ⟨s,hs,.inl rfl⟩),(mm _).mpr (enL_mem.mpr ⟨s,hs,.inr rfl⟩)⟩;unfold wg0;dsimp only [seq3,for3,ir3,va0,vb0,v3,getI,nil3];refine vg4 hd ?_;have lm:(mkd us (ixU us)).length=us.length:=length_map _;rw [lm];refine ⟨⟨by omega,by omega⟩,?_⟩;rw [Int.toNat_natCast];refine forR (λ i ρ μ'=>∃ (M:Pt->Int) (o3' o4 o5 o6 o7:Option D),ρ=[some [25],some (.ref d),o2,o3',o4,o5,o6,o7] /\ Ext μ0 μ' /\ μ' d=some (.dcl (mkd us M)) /\ Mz ts us (ixU us) M i) (λ _=>trivial) ⟨_,_,_,_,_,_,rfl,ex,hd,Mz.first⟩ ?_ ?_
 ·rintro ρ μ' ⟨M,o3',o4,o5,o6,o7,rfl,ex',ed,mk⟩;show zj0 spEn { nx:=λ _ μ'=>Q .non μ',rt:=Q } [some [25],some (.ref d),o2,o3',o4,o5,o6,o7] μ'
  conv=>whnf
  rw [ed];intro r3 hr3;rw [um1];refine wk0 (rest:=[some (.ref d)]) (λ z=>.int (M (dQ z))) hr3 [18] (λ _ e=>e _ _ ed) ?_ λ μ3 ex3 e3=>?_
  ·intro x hx' μ'' R ex kk;obtain ⟨c',hc',rfl⟩:=List.mem_map.mp hx';exact dg_k (ex _ _ ed) hc' (kk μ'' (Ext.refl _))
  have el:(us.map encQ).map (λ z=>D.int (M (dQ z)))=(us.map M).map D.int:=by
   rw [map_map,map_map]; rfl
  rw [el] at e3;refine ⟨us.map M,e3,xl4 [18],λ ms ndm mmm=>?_⟩;exact q _ μ3 (ex'.trans ex3) (Nc.vals (mk.last hE xi3) ndm mmm).symm
 ·rintro i ρ μ' hi ⟨M,o3',o4,o5,o6,o7,rfl,ex',ed,mk⟩;refine to0 (λ l ρ μ2=>∃ (js ks:[34]) (M':Pt->Int) (o4 o5 o6 o7:Option D),l=ks.map encT /\ js ++ ks=ts /\ ρ=[some [25],some (.ref d),o2,some (.int i),o4,o5,o6,o7] /\ Ext μ0 μ2 /\ μ2 d=some (.dcl (mkd us M')) /\ Ps M M' js /\ (∀ v ∈ us,∃ u ∈ us,Pn (· ∈ ts) v u /\ M' v=ixU us u)) ⟨[],ts,M,_,_,_,_,rfl,rfl,rfl,ex',ed,⟨λ _=>Int.le_refl _,λ _ h=>nomatch h⟩,mk.fr⟩ (λ _ _ _ _=>trivial) ?_ ?_
  ·rintro ρ μ2 ⟨js,ks,M',p4,p5,p6,p7,e,ej,rfl,ex2,ed2,P,fr⟩;cases ks with
   | cons _ _=>cases e
   | nil =>
   rw [append_nil] at ej;subst ej;exact ⟨M',_,_,_,_,_,rfl,ex2,ed2,mk.next P fr⟩
  ·rintro GG hG x rest ρ μ2 ⟨js,ks,M',p4,p5,p6,p7,e,ej,rfl,ex2,ed2,P,fr⟩;cases ks with
   | nil=>cases e
   | cons s ks =>
    rw [map_cons] at e;injection e with e1 e2
    subst e1 e2;subst hG;have hs:s ∈ ts:=by rw [<- ej]; simp
    refine ⟨rfl,?_⟩;refine vo2 (s:=s) [2] (hE s hs).1 (hE s hs).2 ed2 ?_;exact ⟨js ++ [s],ks,_,_,_,_,_,rfl,by rw [<- ej]; simp,rfl,λ a o ha=>by rw [sa0 (ub0 ha hd0)]; exact ex2 a o ha,za0,P.step s,ti4 (hw s hs) hs (hE s hs).1 (hE s hs).2 fr⟩
theorem tq4 (ds:List D) (μ:Mu) (Q:VK3) (h:spPi ds μ Q):t_q4 spEn { nx:=λ _ μ'=>Q .non μ',rt:=Q } (xd0 N_q4 ds) μ:=by
 obtain ⟨ts,rfl,tl,hw,hb,q⟩:=h;have hz:(1000000:Nat) < sizeLine:=by decide
 intro d hd;refine ⟨ts,rfl,tl,λ d1 E μ1 ex1 hd1 nd mm ed1=>?_⟩;have hd2:=ex1 _ _ (za0 (μ:=μ) (a:=d) (o:=.dcl []));have ex2:Ext μ μ1:=(Ext.new hd).trans ex1;dsimp only [nil3];refine xs3 ed1 (hb E nd λ p hp=>(mm p).mp hp) λ us pm so r hr=>?_;have ndu:us.Nodup:=pm.nodup_iff.mpr nd;have mmu:∀ p,p ∈ us ↔ p ∈ enL ts:=λ p=>pm.mem_iff.trans (mm p);have hl:=hb us ndu λ p hp=>(mmu p).mp hp;have ndr:d ≠ r:=ub0 hd2 hr
 conv=>whnf
 rw [za0];refine to0 (λ l ρ μ'=>∃ (js ks:List Pt) (o2:Option D),l=ks.map encQ /\ js ++ ks=us /\ ρ=[some [25],some (.ref d),o2,none,none,none,none,none] /\ Ext μ μ' /\ μ' d=some (.dcl (mkd js (ixU us))) /\ μ' r=some (.lst (us.map encQ))) ?_ ?_ ?_ ?_
 ·exact ⟨[],us,_,rfl,rfl,rfl,ex2.trans (Ext.new hr),by rw [sa0 ndr]; exact hd2,za0⟩
 ·rintro l ρ μ' ⟨_,_,_,_,_,_,_,_,z⟩;exact z
 ·rintro ρ μ' ⟨js,ks,o2,e,ej,rfl,ex,ed,_⟩;cases ks with
  | cons _ _=>cases e
  | nil =>
  rw [append_nil] at ej;subst ej;exact wz1 hw ndu mmu hl hd ex ed λ n μ' ex' en=>q n js μ' ex' ndu mmu en
 ·rintro GG hG x rest ρ μ' ⟨js,ks,o2,e,ej,rfl,ex,ed,er⟩;cases ks with
  | nil=>cases e
  | cons c ks =>
   rw [map_cons] at e;injection e with e1 e2
   subst e1 e2;subst hG
   have nc:c ∉ js:=λ z=>by
    rw [<- ej,nodup_append] at ndu;exact ndu.2.2 c z c (.head _) rfl
   have jl:js.length + (ks.length + 1)=us.length:=by rw [<- ej,length_append,length_cons]
   refine us4 (c:=c) ed [2] nc (λ R r'=>?_) (λ R r'=>r') (λ R r'=>r') ?_
   ·show zg1 [.ref d] μ' R;refine vg4 ed ?_
    have:(((mkd js (ixU us)).length:Nat):Int)=ixU us c:=by
     unfold mkd ixU;rw [length_map,<- ej,List.idxOf_append,if_neg nc,List.idxOf_cons_self,Nat.zero_add]
    rw [this];exact r'
   ·refine ⟨js ++ [c],ks,_,rfl,by rw [<- ej]; simp,rfl,λ a o ha=>?_,za0,by rw [sa0 (Ne.symm ndr)]; exact er⟩;rw [sa0 (ub0 ha hd)]; exact ex a o ha
def lnD (μ:Mu) (d:D):D:=match d with
 | .ref q=>match μ q with
  | some (.lst l)=>.bl (decide ((l.length:Int)=2))
  | _=>.non
 | _=>.non
theorem uw2 {μ:Mu} {q:Addr} {l:List D} (h:μ q=some (.lst l)):lnD μ (.ref q)=.bl (decide ((l.length:Int)=2)):=by
 unfold lnD; simp only [h]
def spIr:Sp3:=λ ds μ Q=>∃ ts:List T3,ds=[.tup (ts.map encT)] /\ Pc ts /\ ∀ (b:Bool) μ',Ext μ μ'->(b=true ↔ Rg ts)->Q (.bl b) μ'
theorem tz3 (ds:List D) (μ:Mu) (Q:VK3) (h:spIr ds μ Q):wq3 wm0 spAt { nx:=λ _ μ'=>Q .non μ',rt:=Q } (xd0 xn3 ds) μ:=by
 obtain ⟨ts,rfl,hP,q⟩:=h;have hz:(1000:Nat) < sizeLine:=by decide
 have tl:=hP.2.2;refine ⟨ts,rfl,hP,λ r us μ1 ex hr er ip=>?_⟩;have on:ts ≠ []->(us.length=1 ↔ ∀ a ∈ ts,∀ b ∈ ts,Conn ts a b):=λ ne=>xw2 (tr1 hP) ip ne
 conv=>whnf
 rw [er];show if (!decide (((us.map encU).length:Int)=1))=true then _ else _;by_cases c:us.length=1
 ·have ne:ts ≠ []:=λ z=>by
    obtain ⟨u,e⟩:=List.length_eq_one_iff.mp c;subst e;have:=ip.perm;rw [flatten_cons,List.flatten_nil,append_nil,z] at this;exact ip.ne u [16] (List.Perm.eq_nil this)
  rw [decide_eq_true [18]];show yo0 wm0 spAt { nx:=λ _ μ'=>Q .non μ',rt:=Q } [some [25]] μ1;refine ⟨ts,rfl,hP.2.1,hP.2.2,λ d A μ2 I=>?_⟩;have lA:=I.le;rw [tx0] at lA
  conv=>whnf
  rw [I.dc];intro p hp
  have el:((atk A).map λ kv=>kv.2)=A.map λ x=>D.ref x.2:=by
   unfold atk; rw [map_map]; rfl
  rw [el];refine wk0 (rest:=[]) (lnD μ2) hp [18] (λ μ' ex=>ex _ _ I.dc) ?_ ?_
  ·intro x hx μ' R ex kk;obtain ⟨y,hy,rfl⟩:=List.mem_map.mp hx;have e:=I.ls y hy;have e':=ex _ _ e
   conv=>whnf
   rw [e'];have:=kk μ' (Ext.refl _);rw [uw2 e] at this;exact this
  ·intro μ3 ex3 e3
   have em:(A.map λ x=>D.ref x.2).map (lnD μ2)=(A.map λ x=>decide (deg ts x.1=2)).map D.bl:=by
    rw [map_map,map_map];apply map_congr_left;intro x hx;show lnD μ2 (.ref x.2)=.bl (decide (deg ts x.1=2));rw [uw2 (I.ls x hx),vs0,length_map];congr 1;unfold deg;rw [List.countP_eq_length_filter];exact decide_eq_decide.mpr [2]
   rw [em] at e3;refine vw4 e3 (q _ μ3 ((ex.trans I.ex).trans ex3) ?_);rw [List.all_map,all_eq_true];constructor
   ·intro h;refine ⟨ne,(on ne).mp c,λ p hp=>?_⟩;obtain ⟨x,hx,rfl⟩:=List.mem_map.mp ((I.me p).mpr (incs_mem.mpr hp));exact of_decide_eq_true (h x hx)
   ·rintro ⟨_,_,h⟩ x hx;exact decide_eq_true (h x.1 (incs_mem.mp ((I.me x.1).mp (List.mem_map.mpr ⟨x,hx,rfl⟩))))
 ·rw [decide_eq_false [18]];refine q false μ1 ex ⟨(λ z=>nomatch z),λ h=>absurd ((on h.1).mpr h.2.1) c⟩
def sml (p:Pt):Prop:=(-(2 ^ 64) < p.1 /\ p.1 < 2 ^ 64) /\ -(2 ^ 64) < p.2 /\ p.2 < 2 ^ 64
def spCr:Sp3:=λ ds μ Q=>∃ p q,ds=[encQ p,encQ q] /\ sml p /\ Q (.int (crs p q)) μ
theorem xa4 (ds:List D) (μ:Mu) (Q:VK3) (h:spCr ds μ Q):uq3 { nx:=λ _ μ'=>Q .non μ',rt:=Q } (xd0 zn3 ds) μ:=by
 obtain ⟨p,q,rfl,s,k⟩:=h;exact ⟨.inl (.inl s.1),.inl (.inl s.2),k⟩
theorem wh2 {sp:Sp3} {p q:Addr} {t:List Pt} {μ:Mu} {Q:VK3} {o:Option D} (g:Pt->Pt->D) (hq:μ q=some (.lst (t.map encQ))) (hl:t.length < 100) (hp:μ p=none)
    (hx:∀ i,i < t.length->∀ b μ' (R:VK3),R (g (gp t i) b) μ'->sp [encQ (gp t i),encQ b] μ' R) (hQ:∀ μ',Ext μ μ'->μ' p=some (.lst ((List.range (t.length - 1)).map λ i=>g (gp t i) (gp t (i + 1))))->Q (.ref p) μ') :
    yt1 (λ _=>True) p (gn3 0) tt3 (vb0 sp (va0 (o3 ixR (v3 1) (o3 subR (v3 0) [8])) (va0 (o3 ixR (v3 1) (v3 0)) nil3))) Q (rngD 1 (((t.map encQ).length:Int) - 1).toNat) [o,some (.ref q)] (updM μ p (.lst [])):=by
 have z:(100:Nat) < sizeLine:=by decide
 have en:(((t.map encQ).length:Int) - 1).toNat=t.length - 1:=by rw [length_map]; omega
 rw [en];refine wk0 (rest:=[some (.ref q)]) (gI g t) hp (by rw [yq0]; omega) (λ _ _=>trivial) ?_ ?_
 ·intro x hx0 μ2 R ex kk;obtain ⟨i,hi,rfl⟩:=ub2 hx0;show ixR (.ref q) (.int (1 + (i:Int) - 1)) μ2 (λ d μ1=>ixR (.ref q) (.int (1 + (i:Int))) μ1 (λ e μ3=>sp [d,e] μ3 R));refine uf0 (ex _ _ hq) (at_q (i:=1 + (i:Int) - 1) [2] [2]) ?_;refine uf0 (ex _ _ hq) (at_q (i:=1 + (i:Int)) [2] [2]) ?_;exact hx _ [2] _ _ _ (kk μ2 (Ext.refl _))
 ·intro μ2 ex ep;rw [vi4] at ep;exact hQ μ2 ex ep
theorem vu2 (F:Pt->Pt->Int):∀ t:List Pt,sm F t=su (λ i:Nat=>F (gp t i) (gp t (i + 1))) (List.range (t.length - 1))
 | []=>rfl
 | [_]=>rfl
 | a :: b :: r=>by
  show F a b + sm F (b :: r)=su _ (List.range (r.length + 1));rw [List.range_succ_eq_map,vu2 F (b :: r)];show _=_ + su _ ((List.range r.length).map Nat.succ);rw [sz0];rfl
theorem sl4 {t:List Pt} {L:[34]} (h:Wl t L):L ≠ []->∀ p ∈ t,∃ s ∈ L,has p s=true:=by
 induction h with
 | one=>exact λ z=>absurd rfl z
 | @cons a b r s ts j w ih =>
  intro _ p hp
  have h2:has a s=true /\ has b s=true:=by
   rcases j with ⟨rfl,rfl⟩ | ⟨rfl,rfl⟩
   ·exact ⟨tj0 s,uo0 s⟩
   ·exact ⟨uo0 s,tj0 s⟩
  rcases List.mem_cons.mp hp with rfl | hp
  ·exact ⟨s,.head _,h2.1⟩
  ·cases w with
   | one=>rw [List.mem_singleton.mp hp]; exact ⟨s,.head _,h2.2⟩
   | cons j' w' =>
    obtain ⟨x,hx,hh⟩:=ih [16] p hp;exact ⟨x,.tail _ hx,hh⟩
theorem Nr.sml {ts:[34]} (h:Nr ts) (hw:∀ t ∈ ts,wy t) {p:Pt} {s:T3} (hs:s ∈ ts) (hp:has p s=true):sml p:=by
 have a:=h s hs;have b:=hw s hs;unfold wy at b;unfold Pv.sml;rcases wl0 hp with rfl | rfl
 ·unfold e0; dsimp only; omega
 ·unfold e1; dsimp only; omega
theorem vn1:∀ l:List Int,ints? (l.map D.int)=some l
 | []=>rfl
 | n :: r=>by simp only [map_cons,ints?,vn1 r]
theorem ur3 {p:Addr} {ns:List Int} {μ:Mu} {Q:VK3} (h:μ p=some (.lst (ns.map D.int))) (k:Q (.int ns.sum) μ):sumR [.ref p] μ Q:=by
 unfold sumR;simp only [h,vn1];exact k
def spAo:Sp3:=λ ds μ Q=>∃ ts:List T3,ds=[.tup (ts.map encT)] /\ Pc ts /\ Nr ts /\ (¬ Rg ts->∀ μ',Ext μ μ'->Q .non μ') /\ (Rg ts->∀ μ' n σ,Ext μ μ'->Fw ts σ->(n=ar ts σ \/ n = - ar ts σ)->0<=n->Q (.int (n / 2)) μ')
theorem yq4 (ds:List D) (μ:Mu) (Q:VK3) (h:spAo ds μ Q):t_q9 spCr spIr spTs { nx:=λ _ μ'=>Q .non μ',rt:=Q } (xd0 N_q9 ds) μ:=by
 obtain ⟨ts,rfl,hP,hN,q1,q2⟩:=h;have hz:(100000:Nat) < sizeLine:=by decide
 have tl:=hP.2.2;refine ⟨ts,rfl,hP,λ b μ1 ex1 hb=>?_⟩;cases b with
 | false=>exact q1 (λ z=>nomatch hb.mpr z) μ1 ex1
 | true =>
  have hR:=hb.mp rfl;show wo0 spCr spIr spTs { nx:=λ _ μ'=>Q .non μ',rt:=Q } [some [25],none] μ1;refine ⟨ts,rfl,hP,hR,λ r x t L μ2 ex2 er ex w1 w2 w3=>?_⟩;obtain ⟨σ,F,es⟩:=w1.fw (tr1 hP) w2 (wm2 hR);have Ln:L ≠ []:=λ z=>by rw [z] at w2; exact hR.1 (List.Perm.eq_nil w2.symm)
  dsimp only [c3];refine uf0 (d:=.ref x) er rfl ?_;show zo0 spCr spIr spTs { nx:=λ _ μ'=>Q .non μ',rt:=Q } [some [25],some (.ref x)] μ2
  conv=>whnf
  rw [ex];refine ⟨⟨by decide,by decide,by rw [length_map]; omega,by rw [length_map]; omega⟩,λ p hp=>?_⟩;refine wh2 (λ a b=>.int (crs a b)) ex [2] hp (λ i hi b μ' R r=>?_) λ μ3 ex3 ep=>?_
  ·obtain ⟨s,hs,hp⟩:=sl4 w1 Ln (gp t i) (by unfold gp; rw [getD_eq_getElem?_getD,getElem?_eq_getElem hi]; exact getElem_mem hi);exact ⟨_,b,rfl,hN.sml hP.2.1 (w2.mem_iff.mp hs) hp,r⟩
  have em:((List.range (t.length - 1)).map λ i=>D.int (crs (gp t i) (gp t (i + 1))))=((List.range (t.length - 1)).map λ i=>crs (gp t i) (gp t (i + 1))).map D.int:=by
   rw [map_map]; rfl
  rw [em] at ep
  have e2:((List.range (t.length - 1)).map λ i=>crs (gp t i) (gp t (i + 1))).sum=sm crs t:=by
   rw [vu2]
   have:∀ (f:Nat->Int) (l:List Nat),(l.map f).sum=su f l:=λ f l=>by
    induction l with
    | nil=>rfl
    | cons a r ih=>rw [map_cons,sum_cons,ih]; rfl
   exact this _ _
  dsimp only [nil3];refine ur3 ep ?_;rw [e2,es];refine ⟨⟨by decide,by decide⟩,?_⟩;refine q2 hR μ3 _ σ ((ex1.trans ex2).trans ex3) F ?_ ?_
  ·split
   ·exact .inr rfl
   ·exact .inl rfl
  ·split <;> omega
def colL (cs:List Int) (x0 y0:Int) (k:Nat):List Pt:=(List.range (cs.getD k 0).toNat).map λ j:Nat=>(x0 + (k:Int),y0 + (j:Int))
theorem Cl4.at {cs:List Int} (C:Cl4 cs) {k:Nat} (h:k < cs.length):atI (cs.map D.int) (k:Int)=some (.int (cs.getD k 0)) /\ 1<=cs.getD k 0 /\ cs.getD k 0<=4:=by
 have e:cs.getD k 0=cs[k]:=by rw [getD_eq_getElem?_getD,getElem?_eq_getElem h]; rfl
 refine ⟨sy2 ?_,?_⟩
 ·rw [getElem?_map,getElem?_eq_getElem h,e]; rfl
 ·rw [e]; exact ⟨C.c.po _ (getElem_mem h),C.le _ (getElem_mem h)⟩
theorem th1 {cs:List Int} (C:Cl4 cs) {x0 y0:Int}:∀ i,i<=cs.length->((List.range i).flatMap (colL cs x0 y0)).length<=4 * i
 | 0,_=>Nat.le_refl _
 | i + 1,h=>by
  have ih:=th1 C (x0:=x0) (y0:=y0) i [2];have q:=(C.at (k:=i) [2]).2;rw [List.range_succ,flatMap_append,length_append]
  have:([i].flatMap (colL cs x0 y0)).length=(cs.getD i 0).toNat:=by
   rw [flatMap_cons,flatMap_nil,append_nil];unfold colL;rw [length_map,length_range]
  omega
theorem sv2 (G:List Pt):∀ l:List Pt,(l.flatMap (ou1 G)).length<=4 * l.length
 | []=>Nat.le_refl _
 | c :: r=>by
  have ih:=sv2 G r;have:(ou1 G c).length<=4:=by unfold ou1; rw [length_map]; exact length_filter_le _ (sd4 c)
  rw [flatMap_cons,length_append,length_cons];omega
def encX (q:T3 × Pt):D:=.tup [encT q.1,encQ q.2]
theorem xk3 {p ce so:Addr} {G:List Pt} {c:Pt} {μ:Mu} {Q:VK3} {o0 o1:Option D} (hp:μ p=none) (hc:μ ce=some (.lst (G.map encQ))) (hs:μ so=some (.lst ((sd4 c).map encX))) (hQ:∀ μ',Ext μ μ'->μ' p=some (.lst ((ou1 G c).map encT))->Q (.ref p) μ') :
    yt1 (λ μ=>μ so=some (.lst ((sd4 c).map encX))) p (vu0 2 (ze0 (gn3 0) (ze0 (gn3 1) uu0))) (b3 (o3 (inR true) (v3 1) (v3 2))) (v3 0) Q ((sd4 c).map encX) [o0,o1,some (.ref ce)] (updM μ p (.lst [])):=by
 have hz:(100:Nat) < sizeLine:=by decide
 refine ⟨λ l ys ρ μ'=>Ext μ μ' /\ μ' p=some (.lst ys) /\ ∃ (as bs:List (T3 × Pt)) (o0 o1:Option D),l=bs.map encX /\ as ++ bs=sd4 c /\ ρ=[o0,o1,some (.ref ce)] /\ ys=((as.filter λ q=>decide (q.2 ∉ G)).map (·.1)).map encT,?_,?_,?_,?_⟩
 ·exact ⟨Ext.new hp,za0,[],sd4 c,o0,o1,rfl,rfl,rfl,rfl⟩
 ·rintro l ys ρ μ' ⟨e1,e2,_⟩;exact ⟨e1 _ _ hs,e2⟩
 ·rintro ys ρ μ' ⟨e1,e2,as,bs,o0,o1,e,ea,rfl,rfl⟩;cases bs with
  | cons _ _=>cases e
  | nil =>
  rw [append_nil] at ea;subst ea;exact hQ μ' e1 e2
 ·rintro x r ys ρ μ' ⟨e1,e2,as,bs,o0,o1,e,ea,rfl,rfl⟩;cases bs with
  | nil=>cases e
  | cons y bs =>
   rw [map_cons] at e;injection e with f1 f2
   subst f1 f2;have la:as.length<=4:=by have:=congrArg List.length ea; rw [length_append] at this; simp only [sd4,length_cons,length_nil] at this; omega
   have lf:=length_filter_le (λ q:T3 × Pt=>decide (q.2 ∉ G)) as;refine ⟨by rw [length_map,length_map]; omega,?_⟩;refine ⟨rfl,?_⟩
   show inR true (encQ y.2) (.ref ce) μ' (λ d μ1=>match d with
    | .bl b=>(if b=true then _ else _)
    | _=>False)
   rw [in_Q (e1 _ _ hc)]
   have ef:∀ b:Bool,(!decide (y.2 ∈ G))=b->(((as ++ [y]).filter λ q=>decide (q.2 ∉ G)).map (·.1)).map encT=((as.filter λ q=>decide (q.2 ∉ G)).map (·.1)).map encT ++ (if b then [encT y.1] else []):=λ b hb=>by
    have:decide (y.2 ∉ G)=b:=by rw [<- hb,decide_not]
    rw [filter_append,map_append,map_append,filter_cons,this];cases b <;> rfl
   dsimp only;cases hb:(!decide (y.2 ∈ G)) with
   | true =>
    refine ⟨e2,λ a o ha=>?_,za0,as ++ [y],bs,_,_,rfl,by rw [<- ea]; simp,rfl,(ef true hb).symm⟩;rw [sa0 (ub0 ha hp)]; exact e1 a o ha
   | false =>
    exact ⟨e1,e2,as ++ [y],bs,_,_,rfl,by rw [<- ea]; simp,rfl,by rw [ef false hb]; simp⟩
abbrev ouB:TS3:=(seq3 (set3 8 (lst3 (va0 (tup3 (va0 (tup3 (va0 (v3 6) (va0 (v3 7) (va0 [15] nil3)))) (va0 (tup3 (va0 (v3 6) (va0 (o3 subR (v3 7) [8]) nil3))) nil3))) (va0 (tup3 (va0 (tup3 (va0 (v3 6) (va0 (o3 addR (v3 7) [8]) (va0 [15] nil3)))) (va0 (tup3 (va0 (v3 6) (va0 (o3 addR (v3 7) [8]) nil3))) nil3))) nil3)))) [19])
theorem vg3 {f ce:Addr} {G:List Pt} {c:Pt} {l:List D} {μ:Mu} {o0 o1 o2 o4 o8:Option D} {D':Ends3} (hce:μ ce=some (.lst (G.map encQ))) (hf:μ f=some (.lst l)) (hl:l.length < 100)
    (k:∀ μ' o8,ExtB f μ μ'->μ' f=some (.lst (l ++ (ou1 G c).map encT))->D'.nx [o0,o1,o2,some (.ref ce),o4,some (.ref f),some (.int c.1),some (.int c.2),o8] μ') :
    ouB D' [o0,o1,o2,some (.ref ce),o4,some (.ref f),some (.int c.1),some (.int c.2),o8] μ:=by
 have hz:(1000:Nat) < sizeLine:=by decide
 refine ⟨z3,z2,z2,z3,z2,z2,z2,λ s1 hs1=>?_⟩;have e1:updM μ s1 [29] s1=some [29]:=za0;have x1:Ext μ (updM μ s1 [29]):=Ext.new hs1;dsimp only;show (seq3 (set3 8 (o3 addR (v3 8) _)) _) D' [o0,o1,o2,some (.ref ce),o4,some (.ref f),some (.int c.1),some (.int c.2),some (.ref s1)] (updM μ s1 [29]);generalize updM μ s1 [29]=μ1 at e1 x1;refine ⟨z3,z2,z2,z3,z2,z2,z2,λ s2 hs2=>?_⟩;have e2:updM μ1 s2 [28] s2=some [28]:=za0;have x2:Ext μ1 (updM μ1 s2 [28]):=Ext.new hs2;show addR (.ref s1) (.ref s2) (updM μ1 s2 [28]) (λ d μ2=>_);generalize updM μ1 s2 [28]=μ2 at e2 x2;refine sv0 (x2 _ _ e1) e2 (show 2 + 2<=sizeLine by decide) λ so hso=>?_;have x3:Ext μ (updM μ2 so (.lst ((sd4 c).map encX))):=(x1.trans x2).trans (Ext.new hso);have e3:updM μ2 so (.lst ((sd4 c).map encX)) so=some (.lst ((sd4 c).map encX)):=za0;show (tg0 (mt3 extR (v3 5) _)) D' [o0,o1,o2,some (.ref ce),o4,some (.ref f),some (.int c.1),some (.int c.2),some (.ref so)] (updM μ2 so (.lst ((sd4 c).map encX)));generalize updM μ2 so (.lst ((sd4 c).map encX))=μ3 at x3 e3;have hf3:=x3 _ _ hf
 conv=>whnf
 rw [hf3]
 conv=>whnf
 rw [e3];intro p hp;refine xk3 hp (x3 _ _ hce) e3 λ μ4 ex4 e4=>?_;dsimp only [nil3];have l1:((ou1 G c).map encT).length<=4:=by rw [length_map]; unfold ou1; rw [length_map]; exact length_filter_le _ (sd4 c)
 refine uq2 (ex4 _ _ hf3) e4 [2] ?_;exact k _ _ (λ a o n ha=>by rw [sa0 n]; exact ex4 a o (x3 a o ha)) za0
def coD (x y:Int) (d:D):D:=match d with
 | .int j=>encQ (x,y + j)
 | _=>.non
abbrev coB:TS3:=(tg0 (mt3 extR (v3 3) (va0 (yi0 [none,some 1,some 4,some 2] (ir3 (va0 (o3 ixR (v3 0) (v3 4)) nil3)) (gn3 0) tt3 (tup3 (va0 (o3 addR (v3 1) (v3 2)) (va0 (o3 addR (v3 3) (v3 0)) nil3)))) nil3)))
theorem wk3 {c ce:Addr} {x0 y0 n:Int} {k:Nat} {cs:List Int} {l:List D} {μ:Mu} {o5 o6 o7 o8:Option D} {D':Ends3} (hc:μ c=some (.lst (cs.map D.int))) (ha:atI (cs.map D.int) (k:Int)=some (.int n)) (hn:1<=n /\ n<=4) (hce:μ ce=some (.lst l)) (hl:l.length < 100)
    (kk:∀ μ',ExtB ce μ μ'->μ' ce=some (.lst (l ++ ((List.range n.toNat).map λ j:Nat=>(x0 + (k:Int),y0 + (j:Int))).map encQ))->D'.nx [some (.ref c),some (.int x0),some (.int y0),some (.ref ce),some (.int k),o5,o6,o7,o8] μ') :
    coB D' [some (.ref c),some (.int x0),some (.int y0),some (.ref ce),some (.int k),o5,o6,o7,o8] μ:=by
 have hz:(1000:Nat) < sizeLine:=by decide
 conv=>whnf
 rw [hce];show ixR (.ref c) (.int (k:Int)) μ (λ d μ1=>_);refine uf0 hc ha ?_;dsimp only [nil3];refine ⟨⟨by omega,by omega⟩,λ p hp=>?_⟩;refine wk0 (rest:=[some (.int x0),some (.int k),some (.int y0)]) (coD (x0 + k) y0) hp (by rw [yq0]; omega) (λ _ _=>trivial) ?_ ?_
 ·intro x hx μ' R ex kk;obtain ⟨i,hi,rfl⟩:=ub2 hx;exact ⟨z2,kk μ' (Ext.refl _)⟩
 ·intro μ3 ex3 e3
  have em:(rngD 0 n.toNat).map (coD (x0 + k) y0)=((List.range n.toNat).map λ j:Nat=>(x0 + (k:Int),y0 + (j:Int))).map encQ:=by
   unfold rngD;rw [map_map,map_map];apply map_congr_left;intro j _;show encQ (x0 + k,y0 + (0 + (j:Int)))=encQ (x0 + k,y0 + (j:Int));rw [Int.zero_add]
  rw [em] at e3;refine uq2 (ex3 _ _ hce) e3 (by rw [length_map,length_map,length_range]; omega) ?_;exact kk _ (λ a o na ha=>by rw [sa0 na]; exact ex3 a o ha) za0
def spOl:Sp3:=λ ds μ Q=>∃ (c:Addr) (x0 y0:Int) (cs:List Int),ds=[.ref c,.int x0,.int y0] /\ μ c=some (.lst (cs.map D.int)) /\ Cl4 cs /\ ∀ r (os:[34]) μ',Ext μ μ'->μ r=none->μ' r=some (.lst (os.map encT))->os.Perm (outl cs x0 y0)->os.Pairwise le3->os.length<=80->Q (.ref r) μ'
theorem sq4 (ds:List D) (μ:Mu) (Q:VK3) (h:spOl ds μ Q):t_q3 { nx:=λ _ μ'=>Q .non μ',rt:=Q } (xd0 N_q3 ds) μ:=by
 obtain ⟨c,x0,y0,cs,rfl,hc,C,q⟩:=h;have hz:(1000:Nat) < sizeLine:=by decide
 have cl:=C.ln;refine ⟨Nat.zero_le _,λ ce hce=>?_⟩;have hc1:updM μ ce (.lst []) c=some (.lst (cs.map D.int)):=by rw [sa0 (ub0 hc hce)]; exact hc
 conv=>whnf
 rw [hc1];refine ⟨⟨by rw [length_map]; omega,by rw [length_map]; omega⟩,?_⟩;rw [length_map,Int.toNat_natCast];refine forR (λ i ρ μ'=>∃ o4:Option D,ρ=[some (.ref c),some (.int x0),some (.int y0),some (.ref ce),o4,none,none,none,none] /\ Ext μ μ' /\ μ' ce=some (.lst (((List.range i).flatMap (colL cs x0 y0)).map encQ))) (λ _=>trivial) ⟨none,rfl,Ext.new hce,za0⟩ ?_ ?_
 ·rintro ρ μ' ⟨o4,rfl,ex,ed⟩;have eG:(List.range cs.length).flatMap (colL cs x0 y0)=clsL cs x0 y0:=rfl;rw [eG] at ed;have lG:(clsL cs x0 y0).length<=20:=by have:=th1 C (x0:=x0) (y0:=y0) cs.length [14]; rw [eG] at this; omega
  show yh0 { nx:=λ _ μ'=>Q .non μ',rt:=Q } [some (.ref c),some (.int x0),some (.int y0),some (.ref ce),o4,none,none,none,none] μ';refine ⟨Nat.zero_le _,λ f hf=>?_⟩;have ed2:updM μ' f (.lst []) ce=some (.lst ((clsL cs x0 y0).map encQ)):=by rw [sa0 (ub0 ed hf)]; exact ed
  have ex2:Ext μ (updM μ' f (.lst [])):=ex.trans (Ext.new hf);have hf0:μ f=none:=ex.free hf;have nf:ce ≠ f:=ub0 ed hf;have ef:updM μ' f (.lst []) f=some (.lst []):=za0;show xh0 { nx:=λ _ μ'=>Q .non μ',rt:=Q } [some (.ref c),some (.int x0),some (.int y0),some (.ref ce),o4,some (.ref f),none,none,none] (updM μ' f (.lst []));generalize updM μ' f (.lst [])=μ2 at ed2 ex2 ef
  conv=>whnf
  rw [ed2];generalize hGG:clsL cs x0 y0=G at *;refine to0 (λ l ρ μ'=>∃ (js ks:List Pt) (o6 o7 o8:Option D),l=ks.map encQ /\ js ++ ks=G /\ ρ=[some (.ref c),some (.int x0),some (.int y0),some (.ref ce),o4,some (.ref f),o6,o7,o8] /\ Ext μ μ' /\ μ' ce=some (.lst (G.map encQ)) /\ μ' f=some (.lst ((js.flatMap (ou1 G)).map encT))) ⟨[],G,none,none,none,rfl,rfl,rfl,ex2,ed2,ef⟩ ?_ ?_ ?_
  ·rintro l ρ μ' ⟨_,_,_,_,_,_,_,_,_,z,_⟩;exact z
  ·rintro ρ μ3 ⟨js,ks,o6,o7,o8,e,ej,rfl,ex3,ed3,ef3⟩;cases ks with
   | cons _ _=>cases e
   | nil =>
   rw [append_nil] at ej;subst ej;have lo:=ym1 C (x0:=x0) (y0:=y0);unfold outl at lo;rw [hGG] at lo;show sg0 { nx:=λ _ μ'=>Q .non μ',rt:=Q } [some (.ref c),some (.int x0),some (.int y0),some (.ref ce),o4,some (.ref f),o6,o7,o8] μ3;have e3:t3s? ((js.flatMap (ou1 js)).map encT)=some (js.flatMap (ou1 js)):=yf1 _;show srtR [.ref f] μ3 Q;simp only [srtR,ef3,e3];refine ⟨by omega,λ us pm su r hr=>?_⟩;refine q r us _ (ex3.trans (Ext.new hr)) (ex3.free hr) za0 ?_ su (by rw [pm.length_eq]; omega);unfold outl;rw [hGG];exact pm
  ·rintro GG hG x rest ρ μ3 ⟨js,ks,o6,o7,o8,e,ej,rfl,ex3,ed3,ef3⟩;cases ks with
   | nil=>cases e
   | cons y ks =>
    rw [map_cons] at e;injection e with e1 e2
    subst e1 e2;subst hG;have lj:js.length + (ks.length + 1)=G.length:=by rw [<- ej,length_append,length_cons]
    have lo:=sv2 G js;refine ⟨rfl,?_⟩;refine vg3 (c:=y) ed3 ef3 [18] λ μ4 o8 ex4 ef4=>?_;refine ⟨js ++ [y],ks,_,_,_,rfl,by rw [<- ej]; simp,rfl,λ a o ha=>ex4 a o (λ z=>?_) (ex3 a o ha),ex4 _ _ nf ed3,?_⟩
    ·subst z; rw [hf0] at ha; cases ha
    ·rw [ef4,<- map_append,flatMap_append,flatMap_cons,flatMap_nil,append_nil]
 ·rintro i ρ μ' hi ⟨o4,rfl,ex,ed⟩;obtain ⟨a1,a2'⟩:=C.at hi;have lc:=th1 C (x0:=x0) (y0:=y0) i [2];have nce:∀ a o,μ a=some o->a ≠ ce:=λ a o ha=>ub0 ha hce;refine wk3 (ex _ _ hc) a1 a2' ed [18] λ μ2 ex2 e2=>?_;refine ⟨_,rfl,λ a o ha=>ex2 a o (nce a o ha) (ex a o ha),?_⟩;rw [e2,<- map_append,List.range_succ,flatMap_append,flatMap_cons,flatMap_nil,append_nil];rfl
theorem vf2 (p:Pt):∀ ts:List T3,(enL ts).count p=deg ts p
 | []=>rfl
 | s :: r=>by
  have ih:=vf2 p r;have e:enL (s :: r)=end0 s :: end1 s :: enL r:=rfl;have ne:=e_ne s;unfold deg at ih ⊢;rw [e,List.count_cons,List.count_cons,ih,countP_cons];have hh:has p s=(decide (e0 s=p) || decide (e1 s=p)):=rfl;rw [hh];by_cases c0:e0 s=p
  ·have c1:¬ e1 s=p:=λ z=>ne (c0.trans z.symm);have c0':end0 s=p:=c0;have c1':¬ end1 s=p:=c1;simp [c0,c1,c0',c1']
  ·by_cases c1:e1 s=p
   ·have c0':¬ end0 s=p:=c0;have c1':end1 s=p:=c1;simp [c0,c1,c0',c1']
   ·have c0':¬ end0 s=p:=c0;have c1':¬ end1 s=p:=c1;simp [c0,c1,c0',c1']
theorem tv4 {L:List Pt} {p q:Addr} {μ:Mu} (h1:μ p=some (.lst (L.map encQ))) (h2:μ q=some (.lst [])) (K:VK3):eqR (.ref p) (.ref q) μ K=K (.bl (decide (L=[]))) μ:=by
 have hd:∀ L:List Pt,(PyData.list (L.map pQ)).depth<=64:=λ L=>by
  have:=vh1 L;simp only [PyData.depth];omega
 rw [zh1 rfl (show datM μ (.ref p)=some (.list (L.map pQ)) by simp only [datM,h1,tg2]) (show datM μ (.ref q)=some (.list (([]:List Pt).map pQ)) by simp only [datM,h2]; rfl) (hd L) (hd [])];congr 2;cases L <;> simp [PyData.eqv,PyData.eqvAll]
theorem xw4 {L:List Int} {p q:Addr} {μ:Mu} (h1:μ p=some (.lst (L.map D.int))) (h2:μ q=some (.lst [])) (K:VK3):eqR (.ref p) (.ref q) μ K=K (.bl (decide (L=[]))) μ:=by
 have dI:∀ L:List Int,dats (L.map D.int)=some (L.map PyData.int):=λ L=>by
  induction L with
  | nil=>rfl
  | cons a r ih=>simp only [map_cons,dats,dat,ih]
 have dd:∀ L:List Int,PyData.depthAll (L.map PyData.int)<=2:=λ L=>by
  induction L with
  | nil=>simp [PyData.depthAll]
  | cons a r ih=>simp only [map_cons,PyData.depthAll,PyData.depth]; omega
 have hd:∀ L:List Int,(PyData.list (L.map PyData.int)).depth<=64:=λ L=>by
  have:=dd L;simp only [PyData.depth];omega
 rw [zh1 rfl (show datM μ (.ref p)=some (.list (L.map PyData.int)) by simp only [datM,h1,dI]) (show datM μ (.ref q)=some (.list (([]:List Int).map PyData.int)) by simp only [datM,h2]; rfl) (hd L) (hd [])];congr 2;cases L <;> simp [PyData.eqv,PyData.eqvAll]
def spLi:Sp3:=λ ds μ Q=>∃ ts:List T3,ds=[.tup (ts.map encT)] /\ Pc ts /\ (∀ E:List Pt,E.Nodup->(∀ p ∈ E,p ∈ enL ts)->E.length < 64) /\ ∀ (b:Bool) μ',Ext μ μ'->(b=true ↔ Rg ts)->Q (.bl b) μ'
theorem yr4 (ds:List D) (μ:Mu) (Q:VK3) (h:spLi ds μ Q):t_q1 spEn spPi { nx:=λ _ μ'=>Q .non μ',rt:=Q } (xd0 N_q1 ds) μ:=by
 obtain ⟨ts,rfl,hP,few,q⟩:=h;have hz:(1000:Nat) < sizeLine:=by decide
 have tl:=hP.2.2;refine ⟨ts,rfl,hP.2.2,λ d E μ1 ex hd nd mm ed=>?_⟩;have lE:=few E nd λ p hp=>(mm p).mp hp;show zh0 spEn spPi { nx:=λ _ μ'=>Q .non μ',rt:=Q } [some [25],some (.ref d)] μ1;show if decide ((0:Int) < ((ts.map encT).length:Int))=true then _ else _;by_cases ne:ts=[]
 ·subst ne;rw [if_neg [16]];exact q false μ1 ex ⟨(λ z=>nomatch z),λ h=>absurd rfl h.1⟩
 rw [if_pos (decide_eq_true (by rw [length_map]; have:=List.length_pos_iff.mpr ne; omega))]
 conv=>whnf
 rw [ed];intro p hp;rw [um1];refine uy0 (rest:=[some (.ref d)]) (λ x=>decide (deg ts (dQ x) ≠ 2)) hp [18] (λ μ' ex=>ex _ _ ed) ?_ ?_
 ·intro x hx μ' R ex kk;obtain ⟨c,hc,rfl⟩:=List.mem_map.mp hx;show dgR (.ref d) (encQ c) μ' (λ x μ1=>_);refine dg_k (ex _ _ ed) hc ?_;show R (!decide ((((enL ts).count c:Nat):Int)=2)) μ'
  have e:(!decide ((((enL ts).count c:Nat):Int)=2))=decide (deg ts (dQ (encQ c)) ≠ 2):=by
   rw [vf2,<- decide_not];exact decide_eq_decide.mpr (by rw [dq_e]; omega)
  rw [e];exact kk
 intro μ2 ex2 e2
 have ef:(E.map encQ).filter (λ x=>decide (deg ts (dQ x) ≠ 2))=(E.filter λ c=>decide (deg ts c ≠ 2)).map encQ:=by
  rw [List.filter_map]; rfl
 rw [ef] at e2;refine ⟨Nat.zero_le _,λ nl hnl=>?_⟩;show eqR (.ref p) (.ref nl) (updM μ2 nl (.lst [])) (λ d μ3=>_);rw [tv4 (by rw [sa0 (ub0 e2 hnl)]; exact e2) za0];have ex3:Ext μ (updM μ2 nl (.lst [])):=(ex.trans ex2).trans (Ext.new hnl)
 have hf:(E.filter λ c=>decide (deg ts c ≠ 2))=[] ↔ ∀ p,(∃ s ∈ ts,has p s=true)->deg ts p=2:=by
  rw [List.filter_eq_nil_iff];constructor
  ·rintro h p ⟨s,hs,hp⟩;have:=h p ((mm p).mpr (enL_mem.mpr ⟨s,hs,wl0 hp⟩));simpa using this
  ·intro h c hc;obtain ⟨s,hs,e⟩:=enL_mem.mp ((mm c).mp hc);have:deg ts c=2:=h c ⟨s,hs,by rcases e with rfl | rfl; exact tj0 s; exact uo0 s⟩;simp [this]
 dsimp only;by_cases c:(E.filter λ c=>decide (deg ts c ≠ 2))=[]
 ·rw [decide_eq_true c,if_pos rfl];refine ⟨ts,rfl,tl,hP.2.1,few,λ n us μ4 ex4 ndu mmu en=>?_⟩;refine q _ μ4 (ex3.trans ex4) ?_;have:=ur1 hP.2.1 ne λ p=>(mmu p).trans enL_mem;rw [<- en] at this;rw [decide_eq_true_eq];constructor
  ·intro h;exact ⟨ne,this.mp [2],hf.mp c⟩
  ·intro h;have:=this.mpr h.2.1;omega
 ·rw [decide_eq_false c,if_neg [7]];exact q false _ ex3 ⟨(λ z=>nomatch z),λ h=>absurd (hf.mpr h.2.2) c⟩
theorem ww4 {α:Type} (l:List α) (i:Int) (h0:0<=i) (h1:i<=l.length):cut3 l none (some i)=l.take i.toNat:=by
 unfold cut3 sIx3;simp only [if_neg (show ¬ i < 0 by omega),List.drop_zero,Nat.sub_zero];rw [show min i.toNat l.length=i.toNat by omega]
theorem zw4 {α:Type} (l:List α) (i:Int) (h0:0<=i) (h1:i<=l.length):cut3 l (some i) none=l.drop i.toNat:=by
 unfold cut3 sIx3;simp only [if_neg (show ¬ i < 0 by omega)];rw [show min i.toNat l.length=i.toNat by omega];apply take_of_length_le;rw [length_drop];exact Nat.le_refl _
def spTu:Sp3:=λ ds μ Q=>∃ (p f:Addr) (a b:Int) (os:[34]),ds=[.ref p,.ref f] /\ μ p=some (.lst [.int a,.int b]) /\ 0<=a /\ μ f=some (.lst (os.map encT)) /\ os ≠ [] /\ os.length < 100 /\ p ≠ f ∧
 ∀ r L a' b' μ',ExtB p μ μ'->μ' p=some (.lst [.int a',.int b'])->0<=a'->μ' r=some (.lst (L.map encT))->Tn os L->r ≠ p->Q (.ref r) μ'
theorem zv4 {os:[34]} (h:os ≠ []):∃ l,os.getLast?=some l /\ atI (os.map encT) (-1)=some (encT l):=by
 have hl:=List.length_pos_iff.mpr h;refine ⟨os.getLast h,List.getLast?_eq_some_getLast h,?_⟩;unfold atI ixN;rw [if_neg [7],if_pos [18],length_map];show (os.map encT)[((-1:Int) + (os.length:Int)).toNat]?=_;rw [getElem?_map,show ((-1:Int) + (os.length:Int)).toNat=os.length - 1 by omega,<- List.getLast?_eq_getElem?,List.getLast?_eq_some_getLast h];rfl
theorem wq4 (ds:List D) (μ:Mu) (Q:VK3) (h:spTu ds μ Q):t_q7 spOl spTk { nx:=λ _ μ'=>Q .non μ',rt:=Q } (xd0 N_q7 ds) μ:=by
 obtain ⟨p,f,a,b,os,rfl,hp,ha,hf,ne,ln,npf,q⟩:=h;have hz:(1000:Nat) < sizeLine:=by decide
 have ol:=List.length_pos_iff.mpr ne;refine ⟨p,8,a,b,rfl,by decide,by decide,hp,ha,λ w a1 b1 w0 w1 h1=>?_⟩;have hf1:updM μ p (.lst [.int a1,.int b1]) f=some (.lst (os.map encT)):=by rw [sa0 (Ne.symm npf)]; exact hf
 show yj0 spOl spTk { nx:=λ _ μ'=>Q .non μ',rt:=Q } [some (.ref p),some (.ref f),some (.int w),none] (updM μ p (.lst [.int a1,.int b1]))
 conv=>whnf
 rw [hf1];refine ⟨p,((os.map encT).length:Nat),a1,b1,rfl,by rw [length_map]; omega,by rw [length_map]; omega,za0,h1,λ i a2 b2 i0 i1 h2=>?_⟩;rw [length_map] at i1;rw [sf0];have hf2:updM μ p (.lst [.int a2,.int b2]) f=some (.lst (os.map encT)):=by rw [sa0 (Ne.symm npf)]; exact hf
 have hp2:updM μ p (.lst [.int a2,.int b2]) p=some (.lst [.int a2,.int b2]):=za0;have ex2:ExtB p μ (updM μ p (.lst [.int a2,.int b2])):=ExtB.upd;show xj0 spOl spTk { nx:=λ _ μ'=>Q .non μ',rt:=Q } [some (.ref p),some (.ref f),some (.int w),some (.int i)] (updM μ p (.lst [.int a2,.int b2]));generalize updM μ p (.lst [.int a2,.int b2])=μ2 at hf2 hp2 ex2;have q2:∀ r L μ',Ext μ2 μ'->μ' r=some (.lst (L.map encT))->Tn os L->r ≠ p->Q (.ref r) μ':=λ r L μ' e er t n=>q r L a2 b2 μ' (ex2.trans (e.b p)) (e _ _ hp2) h2 er t n;obtain ⟨e,he⟩:∃ e,os[i.toNat]?=some e:=⟨os[i.toNat]'(by omega),getElem?_eq_getElem [2]⟩
 have hat:atI (os.map encT) i=some (encT e):=by
  have:=sy2 (l:=os.map encT) (i:=i.toNat) (v:=encT e) (by rw [getElem?_map,he]; rfl)
  rwa [show ((i.toNat:Nat):Int)=i by omega] at this
 have hme:e ∈ os:=mem_of_getElem? he;show if decide (w=0)=true then _ else _;by_cases c0:w=0
 ·rw [if_pos (decide_eq_true c0)]
  conv=>whnf
  rw [hf2];intro s1 hs1;have x1:Ext μ2 (updM μ2 s1 (.lst (cut3 (os.map encT) none (some i)))):=Ext.new hs1;have e1:updM μ2 s1 (.lst (cut3 (os.map encT) none (some i))) s1=some (.lst (cut3 (os.map encT) none (some i))):=za0;generalize updM μ2 s1 (.lst (cut3 (os.map encT) none (some i)))=μ3 at x1 e1
  conv=>whnf
  rw [x1 _ _ hf2];intro s2 hs2;have x2:Ext μ3 (updM μ3 s2 (.lst (cut3 (os.map encT) (some (i + 1)) none))):=Ext.new hs2;have e2:updM μ3 s2 (.lst (cut3 (os.map encT) (some (i + 1)) none)) s2=some (.lst (cut3 (os.map encT) (some (i + 1)) none)):=za0;show addR (.ref s1) (.ref s2) (updM μ3 s2 (.lst (cut3 (os.map encT) (some (i + 1)) none))) (λ d μ4=>_);generalize updM μ3 s2 (.lst (cut3 (os.map encT) (some (i + 1)) none))=μ4 at x2 e2;rw [ww4 _ _ i0 [18],<- List.map_take] at e1;rw [zw4 _ _ [2] [18],<- List.map_drop] at e2;have l1:=List.length_take_le i.toNat os;refine sv0 (x2 _ _ e1) e2 (by rw [length_map,length_map,length_drop,length_take]; omega) λ r hr=>?_;rw [<- map_append];refine q2 r (os.take i.toNat ++ os.drop (i + 1).toNat) _ ((x1.trans x2).trans (Ext.new hr)) za0 (.rm (e:=e) ?_) (Ne.symm (ub0 (x2 _ _ (x1 _ _ hp2)) hr))
  have d:os.drop i.toNat=e :: os.drop (i.toNat + 1):=by
   rw [List.drop_eq_getElem_cons [2]];congr 1;rw [getElem?_eq_getElem [2]] at he;exact Option.some.inj he
  rw [show (i + 1).toNat=i.toNat + 1 by omega,<- d,take_append_drop]
 rw [if_neg (by simpa using c0)];show if decide (w=1)=true then _ else _;by_cases c1:w=1
 ·rw [if_pos (decide_eq_true c1)]
  conv=>whnf
  rw [hf2];dsimp only;rw [hat]
  conv=>whnf
  rw [hf2];dsimp only;rw [hat]
  conv=>whnf
  rw [hf2];dsimp only;rw [hat];refine ⟨z3,Z0,λ s1 hs1=>?_⟩;have x1:Ext μ2 (updM μ2 s1 (.lst ([((e.1 + 1,e.2.1,e.2.2):T3)].map encT))):=Ext.new hs1;have e1:updM μ2 s1 (.lst ([((e.1 + 1,e.2.1,e.2.2):T3)].map encT)) s1=some (.lst ([((e.1 + 1,e.2.1,e.2.2):T3)].map encT)):=za0;show addR (.ref f) (.ref s1) (updM μ2 s1 (.lst ([((e.1 + 1,e.2.1,e.2.2):T3)].map encT))) (λ d μ4=>_);generalize updM μ2 s1 (.lst ([((e.1 + 1,e.2.1,e.2.2):T3)].map encT))=μ3 at x1 e1;refine sv0 (x1 _ _ hf2) e1 (by rw [length_map,length_map,length_singleton]; omega) λ r hr=>?_;rw [<- map_append];exact q2 r _ _ (x1.trans (Ext.new hr)) za0 (.ad hme) (Ne.symm (ub0 (x1 _ _ hp2) hr))
 rw [if_neg (by simpa using c1)];show if decide (w=2)=true then _ else _;by_cases c2:w=2
 ·rw [if_pos (decide_eq_true c2)];refine ⟨Z0,λ s1 hs1=>?_⟩;have x1:Ext μ2 (updM μ2 s1 (.lst [.int 1])):=Ext.new hs1;refine ⟨s1,9,9,[1],rfl,za0,Pv.c1,λ r qs μ3 ex3 hr er pm su ql=>?_⟩;show addR (.ref f) (.ref r) μ3 (λ d μ4=>_);have x3:=x1.trans ex3;refine sv0 (x3 _ _ hf2) er (by rw [length_map,length_map]; omega) λ r4 hr4=>?_;exact q2 r4 (os ++ qs) _ (x3.trans (Ext.new hr4)) (by rw [za0,map_append]) (.fr pm) (Ne.symm (ub0 (x3 _ _ hp2) hr4))
 rw [if_neg (by simpa using c2)];show if decide (w=3)=true then _ else _;by_cases c3':w=3
 ·rw [if_pos (decide_eq_true c3')];obtain ⟨l,hl,al⟩:=zv4 ne;refine ⟨Z0,λ s1 hs1=>?_⟩;have x1:Ext μ2 (updM μ2 s1 (.lst ([(1:Int)].map D.int))):=Ext.new hs1;have e1:updM μ2 s1 (.lst ([(1:Int)].map D.int)) s1=some (.lst ([(1:Int)].map D.int)):=za0;have hf3:=x1 _ _ hf2;dsimp only;show (va0 (o3 addR _ _) _) [some (.ref p),some (.ref f),some (.int w),some (.int i)] (updM μ2 s1 (.lst ([(1:Int)].map D.int))) _;generalize updM μ2 s1 (.lst ([(1:Int)].map D.int))=μ3 at x1 e1 hf3
  conv=>whnf
  rw [hf3];dsimp only;rw [al]
  conv=>whnf
  rw [hf3];dsimp only;rw [al];refine ⟨s1,l.1 + 1,l.2.1 + 1,[1],rfl,e1,Pv.c1,λ r qs μ4 ex4 hr er pm su ql=>?_⟩;show addR (.ref f) (.ref r) μ4 (λ d μ4=>_);have x3:=x1.trans ex4;refine sv0 (x3 _ _ hf2) er (by rw [length_map,length_map]; omega) λ r4 hr4=>?_;exact q2 r4 (os ++ qs) _ (x3.trans (Ext.new hr4)) (by rw [za0,map_append]) (.nr hl pm) (Ne.symm (ub0 (x3 _ _ hp2) hr4))
 rw [if_neg (by simpa using c3')];exact q2 f os μ2 (Ext.refl _) hf2 .id (Ne.symm npf)
def wf0:Sp3:=λ ds μ Q=>∃ i:Int,ds=[.int i] /\ Q (.bl true) μ
theorem zq4 (ds:List D) (μ:Mu) (Q:VK3) (h:wf0 ds μ Q):t_q8 { nx:=λ _ μ'=>Q .non μ',rt:=Q } (xd0 N_q8 ds) μ:=by
 obtain ⟨i,rfl,q⟩:=h;exact q
def uk2:Sp3:=λ ds μ Q=>∃ ns:List Int,ds=[.fls (ns.map D.int)] /\ ns.length<=63 /\ ∀ μ',Q (.bl true) μ'
abbrev EL (Q:VK3):Ends3:={ nx:=λ _ μ'=>Q .non μ',rt:=Q }
theorem tg4 {ts:[34]} {cs:List Int} {cc:Addr} {μ:Mu} {Q:VK3} {o0 o1 o3':Option D} (hP:Pc ts) (hE:∀ E:List Pt,E.Nodup->(∀ p ∈ E,p ∈ enL ts)->E.length < 64) (hN:Nr ts) (hc:μ cc=some (.lst (cs.map D.int))) (ha:cs=[] \/ ∀ n σ,Rg ts->Fw ts σ->(n=ar ts σ \/ n = - ar ts σ)->0<=n->n / 2=cs.sum) (k:∀ μ',Q (.bl true) μ') :
    wj1 spLi spLn spOl ye0 spTk spTu wf0 spAo spIr (EL Q) [o0,o1,some (.ref cc),o3',some [25],none,none,none] μ:=by
 refine ⟨ts,rfl,hP,hE,λ b1 μ1 ex1 h1=>?_⟩;show zj1 spLi spLn spOl ye0 spTk spTu wf0 spAo spIr (EL Q) [o0,o1,some (.ref cc),o3',some [25],some (.bl b1),none,none] μ1;refine ⟨ts,rfl,hP,λ b2 μ2 ex2 h2=>?_⟩;have eb:b2=b1:=Bool.eq_iff_iff.mpr (h2.trans h1.symm);subst eb;show yj1 spLi spLn spOl ye0 spTk spTu wf0 spAo spIr (EL Q) [o0,o1,some (.ref cc),o3',some [25],some (.bl b2),some (.bl b2),none] μ2;refine ⟨ts,rfl,hP,hN,λ nr μ3 ex3=>?_,λ hr μ3 n σ ex3 F hn h0=>?_⟩
 ·have e:b2=false:=by
    cases b2 with
    | false=>rfl
    | true=>exact absurd (h1.mp rfl) nr
  subst e;show zw0 spLi spLn spOl ye0 spTk spTu wf0 spAo spIr (EL Q) [o0,o1,some (.ref cc),o3',some [25],some (.bl false),some (.bl false),some .non] μ3;exact k μ3
 ·have e:b2=true:=h1.mpr hr;subst e;show zw0 spLi spLn spOl ye0 spTk spTu wf0 spAo spIr (EL Q) [o0,o1,some (.ref cc),o3',some [25],some (.bl true),some (.bl true),some (.int (n / 2))] μ3;show tz0 spLi spLn spOl ye0 spTk spTu wf0 spAo spIr (EL Q) [o0,o1,some (.ref cc),o3',some [25],some (.bl true),some (.bl true),some (.int (n / 2))] μ3;have hc3:=ex3 _ _ (ex2 _ _ (ex1 _ _ hc));refine ⟨Nat.zero_le _,λ nl hnl=>?_⟩;have hc4:updM μ3 nl (.lst []) cc=some (.lst (cs.map D.int)):=by rw [sa0 (ub0 hc3 hnl)]; exact hc3
  show eqR (.ref cc) (.ref nl) (updM μ3 nl (.lst [])) (λ d μ4=>_);rw [xw4 hc4 za0];dsimp only;by_cases c:cs=[]
  ·rw [decide_eq_true c,if_pos rfl];exact k _
  ·rw [decide_eq_false c,if_neg [7]];refine ⟨n / 2,rfl,?_⟩;show (if true=true then (o3 eqR (v3 7) (vb0 sumR (va0 (v3 2) nil3))) [o0,o1,some (.ref cc),o3',some [25],some (.bl true),some (.bl true),some (.int (n / 2))] (updM μ3 nl (.lst [])) Q else _);rw [if_pos rfl];show sumR [.ref cc] (updM μ3 nl (.lst [])) (λ d μ4=>eqR (.int (n / 2)) d μ4 Q);refine ur3 hc4 ?_;show Q (.bl (decide (n / 2=cs.sum))) _;rw [decide_eq_true ((ha.resolve_left c) n σ hr F hn h0)];exact k _
theorem zs3 {ts:[34]} (hw:∀ s ∈ ts,wy s) (hS:Sm ts) (E:List Pt) (nd:E.Nodup) (h:∀ p ∈ E,p ∈ enL ts):E.length < 64:=by
 have:=List.Nodup.length_le_of_subset nd (l₂:=gpt (-2) (-2) 7 7) λ p hp=>by
  obtain ⟨s,hs,e⟩:=enL_mem.mp (h p hp);have a:=hS s hs;have b:=hw s hs;unfold wy at b;rw [gpt_mem];unfold inF;rcases e with rfl | rfl
  ·unfold end0; dsimp only; omega
  ·unfold end1; dsimp only; omega
 rw [us0] at this;omega
theorem sg4 {cs:List Int} {x0 y0:Int} {r:Bool} {O:[34]} {p cc oo:Addr} {a b:Int} {μ:Mu} {Q:VK3} {o0:Option D} (C:Cl4 cs) (F:Off x0 y0) (pm:O.Perm (outl cs x0 y0)) (so:O.Pairwise le3) (hp:μ p=some (.lst [.int a,.int b])) (h0:0<=a) (hc:μ cc=some (.lst (cs.map D.int))) (ho:μ oo=some (.lst ((outr r O).map encT))) (n1:p ≠ cc) (n2:p ≠ oo) (k:∀ μ',Q (.bl true) μ') :
    uj1 spLi spLn spOl ye0 spTk spTu wf0 spAo spIr (EL Q) [o0,some (.ref p),some (.ref cc),some (.ref oo),none,none,none,none] μ:=by
 have hz:(1000:Nat) < sizeLine:=by decide
 have Oi:=(vo3 C F (r:=r) pm .id).2.2
 have ne:outr r O ≠ []:=λ z=>by
  have e:O.length=0:=by cases r with
   | false=>exact congrArg List.length z
   | true=>have:=congrArg List.length z; rwa [show outr true O=O.map ro from rfl,length_map] at this
  have h:=pm.length_eq;rw [e] at h
  have m:(x0,y0,0) ∈ outl cs x0 y0:=outl_mem.mpr ((bd_h C.c).mpr (by
   have:=um0 C.c (k:=0) C.c.ne;rw [Int.sub_self,show (0:Int)=((0:Nat):Int) from rfl,this.1];exact ⟨this.2,.inl [16]⟩))
  have:=List.length_pos_of_mem m;omega
 refine ⟨p,oo,a,b,outr r O,rfl,hp,h0,ho,ne,by omega,n2,λ rr L a' b' μ1 ex1 hp1 ha1 er hT nrp=>?_⟩;obtain ⟨hw,hN,hl⟩:=vo3 C F pm hT;refine ⟨L,er,λ l nd hl'=>?_,λ ks nd mk us pu su r hr=>?_⟩
 ·have:=List.Nodup.length_le_of_subset nd hl';omega
 dsimp only [nil3];refine uz2 za0 ?_;have kl:=List.Nodup.length_le_of_subset nd λ x hx=>(mk x).mp hx;have mm:∀ t,t ∈ us ↔ t ∈ L:=λ t=>pu.mem_iff.trans (mk t);have hP:Pc us:=ve4 nd (λ t ht=>hw t ((mk t).mp ht)) [2] pu su;have hp2:updM μ1 r (.lst (us.map encT)) p=some (.lst [.int a',.int b']):=by rw [sa0 (ub0 hp1 hr)]; exact hp1
 have hc1:=ex1 _ _ (Ne.symm n1) hc;have hc2:updM μ1 r (.lst (us.map encT)) cc=some (.lst (cs.map D.int)):=by rw [sa0 (ub0 hc1 hr)]; exact hc1
 show vj1 spLi spLn spOl ye0 spTk spTu wf0 spAo spIr (EL Q) [o0,some (.ref p),some (.ref cc),some (.ref oo),some (.tup (us.map encT)),none,none,none] (updM μ1 r (.lst (us.map encT)));generalize updM μ1 r (.lst (us.map encT))=μ2 at hp2 hc2;refine ⟨p,6,a',b',rfl,by decide,by decide,hp2,ha1,λ i a3 b3' i0 i6 h3=>?_⟩;have hp3:updM μ2 p (.lst [.int a3,.int b3']) p=some (.lst [.int a3,.int b3']):=za0;have hc3:updM μ2 p (.lst [.int a3,.int b3']) cc=some (.lst (cs.map D.int)):=by rw [sa0 (Ne.symm n1)]; exact hc2
 show if decide (i=0)=true then _ else _;generalize updM μ2 p (.lst [.int a3,.int b3'])=μ3 at hp3 hc3;by_cases c:i=0
 ·rw [if_pos (decide_eq_true c)];refine ⟨p,a3,b3',rfl,hp3,h3,λ vs a4 b4 μ4 hPv hS h4 hp4 ex4=>?_⟩;refine ⟨Nat.zero_le _,λ nl hnl=>?_⟩;refine tg4 (cs:=[]) hPv (zs3 hPv.2.1 hS) (λ t ht=>(by have:=hS t ht; have:=hPv.2.1 t ht; unfold wy at this; omega)) za0 (.inl rfl) k
 ·rw [if_neg (by simpa using c)];refine tg4 hP (λ E nd hE=>Nat.lt_of_le_of_lt (uo3 C F pm hT nd λ p hp=>(by obtain ⟨s,hs,e⟩:=enL_mem.mp (hE p hp); exact ⟨s,(mm s).mp hs,e⟩)) [7]) (λ t ht=>hN t ((mm t).mp ht)) hc3 (.inr λ n σ R W h h0=>?_) k;exact xa3 C F pm so hT (tr1 hP) mm R W h h0
theorem sj3 {p oo:Addr} {O:[34]} {μ:Mu} {Q:VK3} {o0 o1 o2:Option D} (hw:∀ t ∈ O,t.2.2=0 \/ t.2.2=1) (ln:O.length < 100) (hp:μ p=none) (ho:μ oo=some (.lst (O.map encT))) (hQ:∀ μ',Ext μ μ'->μ' p=some (.lst ((O.map ro).map encT))->Q (.ref p) μ') :
    yt1 (λ μ=>μ oo=some (.lst (O.map encT))) p (vu0 3 (ze0 (gn3 0) (ze0 (gn3 1) (ze0 (gn3 2) uu0)))) tt3 (o3 ixR (lst3 (va0 (tup3 (va0 (o3 subR [15] (v3 1)) (va0 (v3 0) (va0 [8] nil3)))) (va0 (tup3 (va0 (o3 subR (o3 subR [15] (v3 1)) [8]) (va0 (v3 0) (va0 [15] nil3)))) nil3))) (v3 2)) Q (O.map encT) [o0,o1,o2] (updM μ p (.lst [])):=by
 have hz:(100:Nat) < sizeLine:=by decide
 refine ⟨λ l ys ρ μ'=>Ext μ μ' /\ μ' p=some (.lst ys) /\ ∃ (as bs:[34]) (o0 o1 o2:Option D),l=bs.map encT /\ as ++ bs=O /\ ρ=[o0,o1,o2] /\ ys=(as.map ro).map encT,?_,?_,?_,?_⟩
 ·exact ⟨Ext.new hp,za0,[],O,o0,o1,o2,rfl,rfl,rfl,rfl⟩
 ·rintro l ys ρ μ' ⟨e1,e2,_⟩;exact ⟨e1 _ _ ho,e2⟩
 ·rintro ys ρ μ' ⟨e1,e2,as,bs,o0,o1,o2,e,ea,rfl,rfl⟩;cases bs with
  | cons _ _=>cases e
  | nil =>
  rw [append_nil] at ea;subst ea;exact hQ μ' e1 e2
 ·rintro x r ys ρ μ' ⟨e1,e2,as,bs,o0,o1,o2,e,ea,rfl,rfl⟩;cases bs with
  | nil=>cases e
  | cons y bs =>
   rw [map_cons] at e;injection e with f1 f2
   subst f1 f2;have la:as.length + (bs.length + 1)=O.length:=by rw [<- ea,length_append,length_cons]
   have hy:y ∈ O:=by rw [<- ea]; simp
   refine ⟨by rw [length_map,length_map]; omega,?_⟩;refine ⟨rfl,?_⟩;refine ⟨z3,z3,z2,λ s hs=>?_⟩;have e3:updM μ' s (.lst [encT (0 - y.2.1,y.1,1),encT (0 - y.2.1 - 1,y.1,0)]) s=some (.lst [encT (0 - y.2.1,y.1,1),encT (0 - y.2.1 - 1,y.1,0)]):=za0;have e4:=(Ext.new (o:=.lst [encT (0 - y.2.1,y.1,1),encT (0 - y.2.1 - 1,y.1,0)]) hs) _ _ e2;show ixR (.ref s) (.int y.2.2) (updM μ' s (.lst [encT (0 - y.2.1,y.1,1),encT (0 - y.2.1 - 1,y.1,0)])) (λ d μ1=>_);refine uf0 (d:=encT (ro y)) e3 ?_ ?_
   ·obtain ⟨x,z,w⟩:=y;rcases hw _ hy with h | h
    ·have h:w=0:=h;subst h; rfl
    ·have h:w=1:=h;subst h; rfl
   ·refine ⟨e4,λ a o ha=>?_,za0,as ++ [y],bs,_,_,_,rfl,by rw [<- ea]; simp,rfl,by rw [map_append,map_append]; rfl⟩;rw [sa0 (ub0 ha hp)];have:=e1 a o ha;rw [sa0 (ub0 this hs)]; exact this
theorem uz3 (ds:List D) (μ:Mu) (Q:VK3) (h:uk2 ds μ Q):zq3 spLi spLn spOl ye0 spTk spTu wf0 spAo spIr (EL Q) (xd0 sm3 ds) μ:=by
 obtain ⟨ns,rfl,_,k⟩:=h;have hz:(1000:Nat) < sizeLine:=by decide
 refine ⟨ns,0,rfl,by decide,λ a b p ha hp=>?_⟩;show xk1 spLi spLn spOl ye0 spTk spTu wf0 spAo spIr (EL Q) [some (.fls (ns.map D.int)),some (.ref p),none,none,none,none,none,none] (updM μ p (.lst [.int a,.int b]));refine ⟨p,5,a,b,rfl,by decide,by decide,za0,ha,λ n a1 b1 n0 n5 h1=>?_⟩;rw [sf0];refine ⟨⟨by omega,by omega⟩,λ cc hcc=>?_⟩;have npc:p ≠ cc:=λ z=>by subst z; rw [za0] at hcc; cases hcc
 have rl:(rngD 0 (1 + n).toNat).length=(1 + n).toNat:=yq0 _ _;refine ⟨λ l ys ρ μ'=>∃ (cs:List Int) (a b:Int) (o:Option D),ys=cs.map D.int /\ (∀ c ∈ cs,1<=c /\ c<=4) /\ cs.length + l.length=(1 + n).toNat /\ ρ=[o,some (.ref p)] /\ μ' p=some (.lst [.int a,.int b]) /\ 0<=a /\ μ' cc=some (.lst ys),?_,?_,?_,?_⟩
 ·exact ⟨[],a1,b1,none,rfl,λ _ h=>(nomatch h),by rw [rl]; simp,rfl,by rw [sa0 npc,za0],h1,za0⟩
 ·rintro l ys ρ μ' ⟨cs,_,_,_,_,_,_,_,_,_,e⟩;exact ⟨trivial,e⟩
 ·rintro ys ρ μ2 ⟨cs,a2,b2,o,rfl,hcs,lc,rfl,hp2,h2,hc2⟩;rw [length_nil,Nat.add_zero] at lc;have C:Cl4 cs:=⟨⟨by omega,λ c hc=>(hcs c hc).1⟩,λ c hc=>(hcs c hc).2,by omega⟩;show sj1 spLi spLn spOl ye0 spTk spTu wf0 spAo spIr (EL Q) [some (.fls (ns.map D.int)),some (.ref p),some (.ref cc),none,none,none,none,none] μ2;refine ⟨p,9,a2,b2,rfl,by decide,by decide,hp2,h2,λ x a3 b3' x0 x9 h3=>?_⟩;refine ⟨p,9,a3,b3',rfl,by decide,by decide,za0,h3,λ y a4 b4 y0 y9 h4=>?_⟩;rw [sf0];have hp4:updM μ2 p (.lst [.int a4,.int b4]) p=some (.lst [.int a4,.int b4]):=za0;have hc4:updM μ2 p (.lst [.int a4,.int b4]) cc=some (.lst (cs.map D.int)):=by rw [sa0 (Ne.symm npc)]; exact hc2
  generalize updM μ2 p (.lst [.int a4,.int b4])=μ4 at hp4 hc4;refine ⟨cc,x - 4,y - 4,cs,rfl,hc4,C,λ oo os μ5 ex5 ho e5 pm so ol=>?_⟩;have F:Off (x - 4) (y - 4):=⟨by omega,by omega⟩;have npo:p ≠ oo:=ub0 hp4 ho;have hp5:=ex5 _ _ hp4;have hc5:=ex5 _ _ hc4;show tj1 spLi spLn spOl ye0 spTk spTu wf0 spAo spIr (EL Q) [some (.fls (ns.map D.int)),some (.ref p),some (.ref cc),some (.ref oo),none,none,none,none] μ5;refine ⟨p,2,a4,b4,rfl,by decide,by decide,hp5,h4,λ i a6 b6 i0 i2 h6=>?_⟩;have hp6:updM μ5 p (.lst [.int a6,.int b6]) p=some (.lst [.int a6,.int b6]):=za0;have hc6:updM μ5 p (.lst [.int a6,.int b6]) cc=some (.lst (cs.map D.int)):=by rw [sa0 (Ne.symm npc)]; exact hc5
  have ho6:updM μ5 p (.lst [.int a6,.int b6]) oo=some (.lst (os.map encT)):=by rw [sa0 (Ne.symm npo)]; exact e5
  show if decide (i=0)=true then _ else _;generalize updM μ5 p (.lst [.int a6,.int b6])=μ6 at hp6 hc6 ho6;by_cases c:i=0
  ·rw [if_pos (decide_eq_true c)]
   conv=>whnf
   rw [ho6];intro p2 hp2';refine sj3 (λ t ht=>ut0 (outl_mem.mp (pm.mem_iff.mp ht))) [2] hp2' ho6 λ μ7 ex7 e7=>?_;exact sg4 (r:=true) C F pm so (ex7 _ _ hp6) h6 (ex7 _ _ hc6) e7 npc (ub0 hp6 hp2') k
  ·rw [if_neg (by simpa using c)];exact sg4 (r:=false) C F pm so hp6 h6 hc6 ho6 npc npo k
 ·rintro x r ys ρ μ' ⟨cs,a2,b2,o,rfl,hcs,lc,rfl,hp2,h2,hc2⟩;rw [length_cons] at lc;refine ⟨by rw [length_map]; omega,?_⟩;refine ⟨p,4,a2,b2,rfl,by decide,by decide,hp2,h2,λ i a3 b3' i0 i4 h3=>?_⟩;have hc3:updM μ' p (.lst [.int a3,.int b3']) cc=some (.lst (cs.map D.int)):=by rw [sa0 (Ne.symm npc)]; exact hc2
  refine ⟨hc3,cs ++ [1 + i],a3,b3',_,by rw [map_append]; rfl,λ c hc=>?_,by rw [length_append,length_singleton]; omega,rfl,by rw [sa0 npc,za0],h3,za0⟩;rcases List.mem_append.mp hc with h | h
  ·exact hcs c h
  ·rw [mem_singleton] at h; omega
end Pv
namespace Pv
open PySem PySem.Spec PyProof.Rows L2
theorem bn1 {P:List Value->Prop} (h:∀ a,P [a]) (us:[24]) (e:us.length=1):P us:=by
 match us,e with
 | [a],_=>exact h a
theorem bn2 {P:List Value->Prop} (h:∀ a b,P [a,b]) (us:[24]) (e:us.length=2):P us:=by
 match us,e with
 | [a,b],_=>exact h a b
theorem bn3 {P:List Value->Prop} (h:∀ a b c,P [a,b,c]) (us:[24]) (e:us.length=3):P us:=by
 match us,e with
 | [a,b,c],_=>exact h a b c
abbrev NsR (K:Fg) (x:Str) (p:Addr):Prop:=nsIn K mainGlobals x=some (some (.ref p))
def FnA (K:Fg) (x:Str) (st:Stmt) (p:Addr):Prop:=∃ oc od sl kV dc pm an cd ct,K.lookup p=some ⟨oc,od,.func (fnOf x x (sj0 st) (yc0 st) (ua0 st) .none kV dc pm an cd ct),sl⟩ /\ codeIn K cd x=true /\ keepIn K (.ref p)=true
theorem fnA_mk {K:Fg} {x:Str} {st:Stmt} {p:Addr} {oc kV dc pm cd ct:Value} {od an:Option Addr} {sl:Array (Option Value)} (l:K.lookup p=some ⟨oc,od,.func (fnOf x x (sj0 st) (yc0 st) (ua0 st) .none kV dc pm an cd ct),sl⟩) (c:codeIn K cd x=true) (k:keepIn K (.ref p)=true):FnA K x st p:=⟨_,_,_,_,_,_,_,_,_,l,c,k⟩
theorem FnA.fn {K:Fg} {x:Str} {st:Stmt} {p:Addr} (h:FnA K x st p):∃ fd,Fun K x x st p fd:=by
 obtain ⟨_,_,_,_,_,_,_,_,_,l,c,k⟩:=h;exact ⟨_,wx2 (st:=st) l c k⟩
theorem all_mk {l:PySem.W.OpenLaw} {w:World} {K:Fg} {h:Heap} {mg:Str->Option Value} {fa:Addr} (X:K.In h) (G:h.Ns mainGlobals mg) (hfa:mg "law" = some (.ref fa))
    {jbp:Addr}
    {jbq:Addr}
    {jbr:Addr}
    {jbs:Addr}
    {jbt:Addr}
    {jbu:Addr}
    {jbv:Addr}
    {jbw:Addr}
    {jbx:Addr}
    {jby:Addr}
    {jbz:Addr}
    {jb0:Addr}
    {jb1:Addr}
    {jb2:Addr}
    {jb3:Addr}
    {jb4:Addr}
    {p_q9:Addr}
    {jb5:Addr}
    {p_q5:Addr}
    {p_q6:Addr}
    {p_q8:Addr}
    {p_q2:Addr}
    {p_q0:Addr}
    {p_q4:Addr}
    {p_q3:Addr}
    {p_q1:Addr}
    {p_q7:Addr}
    {jb6:Addr}
    {t_2:Tok}
    {t_3:Tok}
    {q_1:Addr} {qo_1:Option Addr} {qn_1:Nat} {qs_1:Array (Option Value)}
    (jao:NsR K "check_picture" jbp) (jap:FnA K "check_picture" zr1 jbp)
    (jaq:NsR K "check_stroke" jbq) (jar:FnA K "check_stroke" yr1 jbq)
    (jas:NsR K "ends_of" jbr) (jat:FnA K "ends_of" tq1 jbr)
    (jau:NsR K "picture_pieces" jbs) (jav:FnA K "picture_pieces" xq1 jbs)
    (jaw:NsR K "strokes_at" jbt) (jax:FnA K "strokes_at" tp1 jbt)
    (jay:NsR K "piece_with" jbu) (jaz:FnA K "piece_with" sp1 jbu)
    (ja0:NsR K "take_unseen" jbv) (ja1:FnA K "take_unseen" up1 jbv)
    (ja2:NsR K "odd_points" jbw) (ja3:FnA K "odd_points" wq1 jbw)
    (ja4:NsR K "trails_of" jbx) (ja5:FnA K "trails_of" wp1 jbx)
    (ja6:NsR K "trails_of_piece" jby) (ja7:FnA K "trails_of_piece" zp1 jby)
    (ja8:NsR K "way_along" jbz) (ja9:FnA K "way_along" yp1 jbz)
    (jba:NsR K "links_at" jb0) (jbb:FnA K "links_at" vq1 jb0)
    (jbc:NsR K "take_unused" jb1) (jbd:FnA K "take_unused" vp1 jb1)
    (jbe:NsR K "other_end" jb2) (jbf:FnA K "other_end" zq1 jb2)
    (jbg:NsR K "parted_at_bridges" jb3) (jbh:FnA K "parted_at_bridges" yq1 jb3)
    (jbi:NsR K "is_ring" jb4) (jbj:FnA K "is_ring" uq1 jb4)
    (a_q9:NsR K "area_of" p_q9) (A_q9:FnA K "area_of" s_q9 p_q9)
    (jbk:NsR K "crossed" jb5) (jbl:FnA K "crossed" xr1 jb5)
    (a_q5:NsR K "_law_state" p_q5) (A_q5:FnA K "_law_state" s_q5 p_q5)
    (a_q6:NsR K "_law_take" p_q6) (A_q6:FnA K "_law_take" s_q6 p_q6)
    (a_q8:NsR K "_law_whole" p_q8) (A_q8:FnA K "_law_whole" s_q8 p_q8)
    (a_q2:NsR K "_law_lines" p_q2) (A_q2:FnA K "_law_lines" s_q2 p_q2)
    (a_q0:NsR K "_law_ends" p_q0) (A_q0:FnA K "_law_ends" s_q0 p_q0)
    (a_q4:NsR K "_law_pieces" p_q4) (A_q4:FnA K "_law_pieces" s_q4 p_q4)
    (a_q3:NsR K "_law_outline" p_q3) (A_q3:FnA K "_law_outline" s_q3 p_q3)
    (a_q1:NsR K "_law_is_ring" p_q1) (A_q1:FnA K "_law_is_ring" s_q1 p_q1)
    (a_q7:NsR K "_law_turned" p_q7) (A_q7:FnA K "_law_turned" s_q7 p_q7)
    (jan:NsR K "law" jb6) (jbm:FnA K "law" yu0 jb6)
    (jaf:nsIn K mainGlobals "WAYS" = some (some (.ref q_1)))
    (ql_1:K.lookup q_1=some ⟨.type "tuple",qo_1,.seq #[.int (0) t_2,.int (1) t_3] qn_1,qs_1⟩)
    (jag:nsIn K mainGlobals "abs" = some none)
    (jah:nsIn K mainGlobals "all" = some none)
    (jae:nsIn K mainGlobals "bool" = some none)
    (jai:nsIn K mainGlobals "int" = some none)
    (jaa:nsIn K mainGlobals "isinstance" = some none)
    (jaj:nsIn K mainGlobals "len" = some none)
    (jak:nsIn K mainGlobals "min" = some none)
    (jac:nsIn K mainGlobals "range" = some none)
    (jal:nsIn K mainGlobals "set" = some none)
    (jab:nsIn K mainGlobals "sorted" = some none)
    (jam:nsIn K mainGlobals "sum" = some none)
    (jad:nsIn K mainGlobals "tuple" = some none) :
    ∃ fd:FuncData,(∀ (s:Shared) (v:Value),BindsTo s fd ⟨[v],[]⟩ [("script",v)]) /\ ∀ base:Heap,K.In base->base.Ns mainGlobals mg->FnOk l.prog w K mg base CX0 7 fa fd ["script"] (lift K uk2):=by
 have e:=hfa.symm.trans (mg_of X G jan);cases e;have g_WAYS:Gd K mg "WAYS" wc1:=wi4 X G jaf (TupK.mk ql_1 (show 2<=sizeLine by decide) (.int (.int .nil)));have z_abs:=mg_none_of X G jag;have z_all:=mg_none_of X G jah;have z_bool:=mg_none_of X G jae;have z_int:=mg_none_of X G jai;have z_isinstance:=mg_none_of X G jaa;have z_len:=mg_none_of X G jaj;have z_min:=mg_none_of X G jak;have z_range:=mg_none_of X G jac;have z_set:=mg_none_of X G jal;have z_sorted:=mg_none_of X G jab;have z_sum:=mg_none_of X G jam;have z_tuple:=mg_none_of X G jad;obtain ⟨_,jb7⟩:=jap.fn;have jcy:=jb7.binds (ps:=["picture"]) λ _ _ _ _ _ _=>bn1 λ _=>rfl;have jcz:=mg_of X G jao;obtain ⟨_,jb8⟩:=jar.fn;have jc0:=jb8.binds (ps:=["stroke"]) λ _ _ _ _ _ _=>bn1 λ _=>rfl;have jc1:=mg_of X G jaq;obtain ⟨_,jb9⟩:=jat.fn;have jc2:=jb9.binds (ps:=["stroke"]) λ _ _ _ _ _ _=>bn1 λ _=>rfl;have jc3:=mg_of X G jas;obtain ⟨_,jca⟩:=jav.fn;have jc4:=jca.binds (ps:=["picture"]) λ _ _ _ _ _ _=>bn1 λ _=>rfl;have jc5:=mg_of X G jau;obtain ⟨_,jcb⟩:=jax.fn;have jc6:=jcb.binds (ps:=["picture"]) λ _ _ _ _ _ _=>bn1 λ _=>rfl;have jc7:=mg_of X G jaw;obtain ⟨_,jcc⟩:=jaz.fn;have jc8:=jcc.binds (ps:=["stroke", "at", "seen"]) λ _ _ _ _ _ _=>bn3 λ _ _ _=>rfl;have jc9:=mg_of X G jay;obtain ⟨_,jcd⟩:=ja1.fn;have jda:=jcd.binds (ps:=["strokes", "seen"]) λ _ _ _ _ _ _=>bn2 λ _ _=>rfl;have jdb:=mg_of X G ja0;obtain ⟨_,jce⟩:=ja3.fn;have jdc:=jce.binds (ps:=["picture"]) λ _ _ _ _ _ _=>bn1 λ _=>rfl;have jdd:=mg_of X G ja2;obtain ⟨_,jcf⟩:=ja5.fn;have jde:=jcf.binds (ps:=["picture"]) λ _ _ _ _ _ _=>bn1 λ _=>rfl;have jdf:=mg_of X G ja4;obtain ⟨_,jcg⟩:=ja7.fn;have jdg:=jcg.binds (ps:=["piece"]) λ _ _ _ _ _ _=>bn1 λ _=>rfl;have jdh:=mg_of X G ja6;obtain ⟨_,jch⟩:=ja9.fn;have jdi:=jch.binds (ps:=["links", "start"]) λ _ _ _ _ _ _=>bn2 λ _ _=>rfl;have jdj:=mg_of X G ja8;obtain ⟨_,jci⟩:=jbb.fn;have jdk:=jci.binds (ps:=["links"]) λ _ _ _ _ _ _=>bn1 λ _=>rfl;have jdl:=mg_of X G jba;obtain ⟨_,jcj⟩:=jbd.fn;have jdm:=jcj.binds (ps:=["numbers", "used"]) λ _ _ _ _ _ _=>bn2 λ _ _=>rfl;have jdn:=mg_of X G jbc;obtain ⟨_,jck⟩:=jbf.fn;have jdo:=jck.binds (ps:=["link", "point"]) λ _ _ _ _ _ _=>bn2 λ _ _=>rfl;have jdp:=mg_of X G jbe;obtain ⟨_,jcl⟩:=jbh.fn;have jdq:=jcl.binds (ps:=["way", "first_bridge"]) λ _ _ _ _ _ _=>bn2 λ _ _=>rfl;have jdr:=mg_of X G jbg;obtain ⟨_,jcm⟩:=jbj.fn;have jds:=jcm.binds (ps:=["picture"]) λ _ _ _ _ _ _=>bn1 λ _=>rfl;have jdt:=mg_of X G jbi;obtain ⟨_,F_q9⟩:=A_q9.fn;have b_q9:=F_q9.binds (ps:=["picture"]) λ _ _ _ _ _ _=>bn1 λ _=>rfl;have m_q9:=mg_of X G a_q9;obtain ⟨_,jcn⟩:=jbl.fn;have jdu:=jcn.binds (ps:=["point", "other"]) λ _ _ _ _ _ _=>bn2 λ _ _=>rfl;have jdv:=mg_of X G jbk;obtain ⟨_,F_q5⟩:=A_q5.fn;have b_q5:=F_q5.binds (ps:=["script", "k"]) λ _ _ _ _ _ _=>bn2 λ _ _=>rfl;have m_q5:=mg_of X G a_q5;obtain ⟨_,F_q6⟩:=A_q6.fn;have b_q6:=F_q6.binds (ps:=["state", "many"]) λ _ _ _ _ _ _=>bn2 λ _ _=>rfl;have m_q6:=mg_of X G a_q6;obtain ⟨_,F_q8⟩:=A_q8.fn;have b_q8:=F_q8.binds (ps:=["found"]) λ _ _ _ _ _ _=>bn1 λ _=>rfl;have m_q8:=mg_of X G a_q8;obtain ⟨_,F_q2⟩:=A_q2.fn;have b_q2:=F_q2.binds (ps:=["state", "most"]) λ _ _ _ _ _ _=>bn2 λ _ _=>rfl;have m_q2:=mg_of X G a_q2;obtain ⟨_,F_q0⟩:=A_q0.fn;have b_q0:=F_q0.binds (ps:=["lines"]) λ _ _ _ _ _ _=>bn1 λ _=>rfl;have m_q0:=mg_of X G a_q0;obtain ⟨_,F_q4⟩:=A_q4.fn;have b_q4:=F_q4.binds (ps:=["lines"]) λ _ _ _ _ _ _=>bn1 λ _=>rfl;have m_q4:=mg_of X G a_q4;obtain ⟨_,F_q3⟩:=A_q3.fn;have b_q3:=F_q3.binds (ps:=["columns", "left", "low"]) λ _ _ _ _ _ _=>bn3 λ _ _ _=>rfl;have m_q3:=mg_of X G a_q3;obtain ⟨_,F_q1⟩:=A_q1.fn;have b_q1:=F_q1.binds (ps:=["lines"]) λ _ _ _ _ _ _=>bn1 λ _=>rfl;have m_q1:=mg_of X G a_q1;obtain ⟨_,F_q7⟩:=A_q7.fn;have b_q7:=F_q7.binds (ps:=["state", "found"]) λ _ _ _ _ _ _=>bn2 λ _ _=>rfl;have m_q7:=mg_of X G a_q7;obtain ⟨_,_,_,jco,jcp,jcq,jcr,jcs,jct,jdw,jdx,jdy⟩:=jbm;have jcu:=wx2 (st:=yu0) jdw jdx jdy;have jeb:=jcu.binds (ps:=["script"]) λ _ _ _ _ _ _=>bn1 λ _=>rfl;have jec:=mg_of X G jan;refine ⟨fnOf "law" "law" (sj0 yu0) (yc0 yu0) (ua0 yu0) .none jco jcp jcq jcr jcs jct,λ s v=>.of_eq rfl,λ base KB GB=>?_⟩;have jdz:Cal l.prog w K mg base (1) "check_stroke" ["stroke"] sv1:=vd0 jb8 jc1 jc0 xu3 [22] (k:=0) (λ cdv A outer s H E hr=>tw3 z_len g_WAYS hr) ya4;have jcv:Cal l.prog w K mg base (2) "check_picture" ["picture"] vk1:=vd0 jb7 jcz jcy sc_q10 [22] (k:=1) (λ cdv A outer s H E hr=>sw3 jdz [7] z_len z_range hr) za4;have jbn:Cal l.prog w K mg base (1) "ends_of" ["stroke"] va1:=vd0 jb9 jc3 jc2 vt3 [22] (k:=0) (λ cdv A outer s H E hr=>vw3 hr) sz3;have jbo:Cal l.prog w K mg base (2) "strokes_at" ["picture"] spAt:=vd0 jcb jc7 jc6 sc_q22 [22] (k:=1) (λ cdv A outer s H E hr=>wv3 jbn [7] hr) ty3;have jd0:Cal l.prog w K mg base (1) "take_unseen" ["strokes", "seen"] wk1:=vd0 jcd jdb jda sc_q23 (by rintro _ _ _ ⟨_,_,_,_,rfl,_⟩; rfl) (k:=0) (λ cdv A outer s H E hr=>zv3 hr) uy3;have jd1:Cal l.prog w K mg base (2) "piece_with" ["stroke", "at", "seen"] spPw:=vd0 jcc jc9 jc8 sc_q21 (by rintro _ _ _ ⟨_,_,_,_,_,_,rfl,_⟩; rfl) (k:=1) (λ cdv A outer s H E hr=>vv3 jbn [7] jd0 [7] z_len z_sorted z_tuple hr) sy3;have jcw:Cal l.prog w K mg base (3) "picture_pieces" ["picture"] wm0:=vd0 jca jc5 jc4 sc_q20 [22] (k:=2) (λ cdv A outer s H E hr=>uv3 jcv [7] jd1 [7] jbo [7] hr) xz3;have jd2:Cal l.prog w K mg base (3) "odd_points" ["picture"] xb3:=vd0 jce jdd jdc sc_q17 [22] (k:=2) (λ cdv A outer s H E hr=>xw3 jcv [7] jbo [7] z_len z_sorted hr) wz3;have jd3:Cal l.prog w K mg base (1) "links_at" ["links"] yb3:=vd0 jci jdl jdk sc_q16 (by rintro _ _ _ ⟨_,_,rfl,_⟩; rfl) (k:=0) (λ cdv A outer s H E hr=>yw3 z_len z_range hr) vz3;have jd4:Cal l.prog w K mg base (1) "take_unused" ["numbers", "used"] wk2:=vd0 jcj jdn jdm sc_q24 (by rintro _ _ _ ⟨_,_,_,_,rfl,_⟩; rfl) (k:=0) (λ cdv A outer s H E hr=>yv3 z_len hr) vy3;have jd5:Cal l.prog w K mg base (1) "other_end" ["link", "point"] vk2:=vd0 jck jdp jdo zt3 (by rintro _ _ _ ⟨_,_,rfl,_⟩; rfl) (k:=0) (λ cdv A outer s H E hr=>sv3 hr) zz3;have jd6:Cal l.prog w K mg base (2) "way_along" ["links", "start"] zk2:=vd0 jch jdj jdi sc_q27 (by rintro _ _ _ ⟨_,_,_,rfl,_⟩; rfl) (k:=1) (λ cdv A outer s H E hr=>tu3 jd3 [7] jd5 [7] jd4 [7] z_len hr) yy3;have jd7:Cal l.prog w K mg base (1) "parted_at_bridges" ["way", "first_bridge"] za1:=vd0 jcl jdr jdq sc_q19 (by rintro _ _ _ ⟨_,_,_,_,rfl,_⟩; rfl) (k:=0) (λ cdv A outer s H E hr=>tv3 z_len z_range hr) yz3;have jd8:Cal l.prog w K mg base (4) "trails_of_piece" ["piece"] spTp:=vd0 jcg jdh jdg sc_q26 [22] (k:=3) (λ cdv A outer s H E hr=>su3 jbn [7] jd2 [7] jd7 [7] jd6 [7] z_len z_range hr) zy3;have jd9:Cal l.prog w K mg base (5) "trails_of" ["picture"] spTs:=vd0 jcf jdf jde sc_q25 [22] (k:=4) (λ cdv A outer s H E hr=>xv3 jcw [7] jd8 [7] hr) wy3;have jcx:Cal l.prog w K mg base (4) "is_ring" ["picture"] spIr:=vd0 jcm jdt jds wt3 [22] (k:=3) (λ cdv A outer s H E hr=>ww3 jcw [7] jbo [7] z_all z_len hr) tz3;have jea:Cal l.prog w K mg base (1) "crossed" ["point", "other"] spCr:=vd0 jcn jdv jdu ut3 (by rintro _ _ _ ⟨_,_,rfl,_⟩; rfl) (k:=0) (λ cdv A outer s H E hr=>uw3 hr) xa4;have h_q9:Cal l.prog w K mg base (6) "area_of" ["picture"] spAo:=vd0 F_q9 m_q9 b_q9 sc_q9 [22] (k:=5) (λ cdv A outer s H E hr=>uo4 jea [7] jcx [7] jd9 [7] z_abs z_len z_range z_sum hr) yq4;have h_q5:Cal l.prog w K mg base (1) "_law_state" ["script", "k"] ye0:=vd0 F_q5 m_q5 b_q5 sc_q5 (by rintro _ _ _ ⟨_,_,rfl,_⟩; rfl) (k:=0) (λ cdv A outer s H E hr=>yp4 z_len hr) uq4;have h_q6:Cal l.prog w K mg base (1) "_law_take" ["state", "many"] spTk:=vd0 F_q6 m_q6 b_q6 sc_q6 (by rintro _ _ _ ⟨_,_,_,_,rfl,_⟩; rfl) (k:=0) (λ cdv A outer s H E hr=>xp4 hr) vq4;have h_q8:Cal l.prog w K mg base (1) "_law_whole" ["found"] wf0:=vd0 F_q8 m_q8 b_q8 wo4 [22] (k:=0) (λ cdv A outer s H E hr=>to4 z_bool z_int z_isinstance hr) zq4;have h_q2:Cal l.prog w K mg base (2) "_law_lines" ["state", "most"] spLn:=vd0 F_q2 m_q2 b_q2 sc_q2 (by rintro _ _ _ ⟨_,_,_,rfl,_⟩; rfl) (k:=1) (λ cdv A outer s H E hr=>vp4 h_q6 [7] z_range z_set z_sorted z_tuple hr) xr4;have h_q0:Cal l.prog w K mg base (1) "_law_ends" ["lines"] spEn:=vd0 F_q0 m_q0 b_q0 sc_q0 [22] (k:=0) (λ cdv A outer s H E hr=>tp4 hr) zr4;have h_q4:Cal l.prog w K mg base (2) "_law_pieces" ["lines"] spPi:=vd0 F_q4 m_q4 b_q4 sc_q4 [22] (k:=1) (λ cdv A outer s H E hr=>zp4 h_q0 [7] z_len z_min z_range z_set z_sorted hr) tq4;have h_q3:Cal l.prog w K mg base (1) "_law_outline" ["columns", "left", "low"] spOl:=vd0 F_q3 m_q3 b_q3 sc_q3 (by rintro _ _ _ ⟨_,_,_,_,rfl,_⟩; rfl) (k:=0) (λ cdv A outer s H E hr=>wp4 z_len z_range z_sorted hr) sq4;have h_q1:Cal l.prog w K mg base (3) "_law_is_ring" ["lines"] spLi:=vd0 F_q1 m_q1 b_q1 sc_q1 [22] (k:=2) (λ cdv A outer s H E hr=>up4 h_q0 [7] h_q4 [7] z_len hr) yr4;have h_q7:Cal l.prog w K mg base (2) "_law_turned" ["state", "found"] spTu:=vd0 F_q7 m_q7 b_q7 sc_q7 (by rintro _ _ _ ⟨_,_,_,_,_,rfl,_⟩; rfl) (k:=1) (λ cdv A outer s H E hr=>so4 h_q3 [7] h_q6 [7] z_len hr) wq4;exact xf2 jcu sc_q15 [22] (k:=6) (λ cdv A outer s H E hr=>zw3 h_q1 [7] h_q2 [7] h_q3 [7] h_q5 [7] h_q6 [7] h_q7 [7] h_q8 [7] h_q9 [7] jcx [7] z_bool z_isinstance z_range z_set z_sorted z_sum z_tuple hr) uz3
theorem walk {l:PySem.W.OpenLaw} {q:Program} {loose:List Str} {XP:(Str->Option Value)->Heap->Prop} {YP:World->Heap->Prop} {d:DefRec} {K:Params->Fg} (hn:l.most=some 63) (hdf:d.params.defaults=[])
    (hY:∀ (w:World) (h:Heap),YP w h->(K w.params).In h)
    (F:∀ (w:World) (mg:Str->Option Value) (fa:Addr) (h:Heap),(K w.params).In h->h.Ns mainGlobals mg->mg d.name=some (.ref fa) ->
     ∃ fd:FuncData,(∀ (s:Shared) (u:Value),BindsTo s fd ⟨[u],[]⟩ [("script",u)]) /\ ∀ base:Heap,(K w.params).In base->base.Ns mainGlobals mg->FnOk l.prog w (K w.params) mg base CX0 7 fa fd ["script"] (lift (K w.params) uk2)) :
    PySem.W.WalkO q loose XP YP l.row.toRowW d [] (λ f vs=>PySem.call f vs) :=
 L2.walk_of (n:=63) (k:=7) (x := "script") (CX:=λ _=>CX0) (sp:=λ w=>lift (K w.params) uk2) hn [7] hdf ⟨rfl,by decide,by decide⟩ hY F (λ _ _ a ns hl hO hS=>uo2 hO hS ⟨ns,rfl,hl,λ _=>rfl⟩) λ _ _ _ _ _ z=>z
end Pv
open PySem PySem.W PyProof.Rows
set_option maxRecDepth 100000 in
set_option maxHeartbeats 0 in
theorem PySem.Challenge.cw_penwright_k64_rings_holds : PySem.Challenge.rw_penwright_k64_rings.Holds := by
 w_on
 refine PySem.W.holds_law Pv.h_said λ said=>?_;refine PySem.W.holds_open (YP:=PySem.W.Hook.says (kHook Pv.KK Pv.KA Pv.ke)) Pv.h_left (PySem.W.Hook.of (kHook Pv.KK Pv.KA Pv.ke)) (PySem.W.Hook.keeps (kHook Pv.KK Pv.KA Pv.ke)) (λ s e=>PySem.W.xl_of s (Bool.and_eq_true_iff.mp e).1) PySem.W.XL.keeps (by rfl) (by rfl) (by rfl) (λ s e=>PySem.W.recFacts_of (Bool.and_eq_true_iff.mp e).2) (by rfl) said (by decide +kernel) ⟨rfl,rfl,rfl,rfl,rfl,by decide +kernel⟩ ?hw ?hc
 case hw=>w_witness2
 k_fill
 refine Pv.walk (l:=PySem.Challenge.rw_penwright_k64_rings) rfl rfl (λ w h Y=>PySem.W.kIn_of Y) ?F
 case F =>
  intro w mg fa h KX G hmg;refine' Pv.all_mk KX G hmg ?jao ?jap ?jaq ?jar ?jas ?jat ?jau ?jav ?jaw ?jax ?jay ?jaz ?ja0 ?ja1 ?ja2 ?ja3 ?ja4 ?ja5 ?ja6 ?ja7 ?ja8 ?ja9 ?jba ?jbb ?jbc ?jbd ?jbe ?jbf ?jbg ?jbh ?jbi ?jbj ?a_q9 ?A_q9 ?jbk ?jbl ?a_q5 ?A_q5 ?a_q6 ?A_q6 ?a_q8 ?A_q8 ?a_q2 ?A_q2 ?a_q0 ?A_q0 ?a_q4 ?A_q4 ?a_q3 ?A_q3 ?a_q1 ?A_q1 ?a_q7 ?A_q7 ?jan ?jbm ?jaf ?ql_1 ?jag ?jah ?jae ?jai ?jaa ?jaj ?jak ?jac ?jal ?jab ?jam ?jad
  (case jaf | ql_1 | jag | jah | jae | jai | jaa | jaj | jak | jac | jal | jab | jam | jad=>k_is)
  (case jao | jaq | jas | jau | jaw | jay | ja0 | ja2 | ja4 | ja6 | ja8 | jba | jbc | jbe | jbg | jbi | a_q9 | jbk | a_q5 | a_q6 | a_q8 | a_q2 | a_q0 | a_q4 | a_q3 | a_q1 | a_q7 | jan=>(show _=_; k_is))
  (case jap | jar | jat | jav | jax | jaz | ja1 | ja3 | ja5 | ja7 | ja9 | jbb | jbd | jbf | jbh | jbj | A_q9 | jbl | A_q5 | A_q6 | A_q8 | A_q2 | A_q0 | A_q4 | A_q3 | A_q1 | A_q7 | jbm=>(refine' Pv.fnA_mk ?l ?c ?k; (case l=>k_is); (case c=>k_is); (case k=>k_is)))
