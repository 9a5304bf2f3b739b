import PyProof.Rows.All
import Wide.All
import OpenK.AllK
import Wide.FinOn
import PyProof.EqAt
import PyProof.EqKinds
import PyProof.TupleCall
import KE.BitLaws
import RoofBuilt
import WqajbzNeutral
import KE.KSortTupG
import KE.KLam
import KE.OsGo
import Open.SpecLaws
import PySem.Challenge.RW_rooftold_s09_size
set_option Elab.async false
set_option linter.all false
set_option genSizeOfSpec false
set_option maxRecDepth 100000
set_option maxHeartbeats 4000000
noncomputable section
open Nat (not_lt zero_add le_of_lt add_zero lt_trans lt_or_ge)
open List (of_mem_zip any_cons countP_map any_map nil_append cons_append filter_congr flatten_cons map_id flatMap_map range_succ filter_cons take_zero cons_ne_nil sum_cons)
open Bool (not_eq_true')
open Array (toArray_toList)
def aa:=@PySem.wpAny_bind
def af:=@PySem.wpAny_pure
def ag:=@if_neg
def ah:=@if_pos
def ai:=@List.length_map
def aj:=@PySem.Heap.get?_push_of_some
def ak:=@List.getElem?_eq_some_iff
def ao:=@List.mem_cons
def aq:=@List.length_append
def ar:=@List.mem_cons_of_mem
def au:=@Nat.le_refl
def aw:=@List.mem_map
def ax:=@PySem.Heap.get?_push_size
def ay:=@List.mem_append
def az:=@List.mem_of_getElem?
def ba:=@List.getElem?_map
def bb:=@List.mem_cons_self
def bc:=@List.take_of_length_le
def bf:=@List.map_cons
def bg:=@Bool.false_ne_true
def bh:=@List.mem_append_right
def bj:=@PySem.Heap.lt_size
def bo:=@List.length_cons
def bp:=@of_decide_eq_true
def bq:=@List.getElem?_eq_getElem
def br:=@List.size_toArray
def bu:=@List.length_take
def bw:=@List.mem_filter
def bx:=@List.nodup_cons
def bz:=@Nat.lt_of_lt_of_le
def cb:=@Array.getElem?_eq_getElem
def cc:=@List.mem_append_left
def cf:=@Nat.ne_of_lt
def cg:=@List.map_append
def ck:=@Bool.eq_iff_iff
def cn:=@Nat.zero_le
def cv:=@List.nodup_append
def cy:=@List.eq_nil_of_length_eq_zero
def da:=@List.mem_flatMap
def dc:=@List.getElem?_append_right
def de:=@Array.getD_eq_getD_getElem?
def df:=@Nat.le_trans
def dh:=@Bool.and_eq_true
def di:=@List.mem_iff_getElem?
def dj:=@List.append_nil
def dk:=@List.getD_eq_getElem?_getD
def dm:=@Array.length_toList
def dq:=@List.map_map
def dt:=@List.length_nil
def dv:=@Bool.false_eq_true
def dz:=@List.any_eq_true
def fb:=@List.map_congr_left
def fe:=@PySem.Heap.get?_update_other
def ff:=@List.pairwise_cons
def fg:=@List.filterMap_cons
def fh:=@List.length_pos_iff
def fi:=@PySem.Heap.size_push
def fj:=@List.getElem?_append_left
def fk:=@List.append_assoc
def fm:=@Array.getElem?_eq_some_iff
def fo:=@List.getElem?_take_of_lt
def ft:=@List.countP_cons
def fu:=@Int.toNat_of_nonneg
def fw:=@List.lookup_cons
def fx:=@List.flatMap_cons
def fy:=@List.length_filter_le
def gb:=@List.filter_append
def gc:=@List.length_dropLast
def gd:=@Nat.lt_irrefl
def gf:=@Array.getElem?_toList
def gg:=@List.getElem?_cons_succ
def gh:=@List.countP_eq_length_filter
def gi:=@Int.toNat_natCast
def gj:=@Array.getElem?_eq_none
def gk:=@List.mem_singleton
def gm:=@List.length_drop
def gp:=@List.not_mem_nil
def gr:=@Bool.and_eq_true_iff
def gu:=@PySem.Heap.get?_update_self
def gw:=@List.nodup_nil
def gx:=@Nat.lt_of_le_of_lt
def gy:=@Bool.or_eq_true
def gz:=@List.flatMap_append
def ib:=@List.flatten_append
def ie:=@List.map_nil
def ig:=@List.all_eq_true
def ij:=@List.drop_eq_nil_of_le
def ik:=@Nat.le_of_eq
def iq:=@List.mem_range
def ir:=@List.dropLast_concat_getLast
def iu:=@Nat.lt_succ_self
def iw:=@List.find?_cons
def iy:=@List.pairwise_map
def iz:=@Bool.eq_false_iff
def ja:=@Array.getElem?_setIfInBounds
def jb:=@Nat.ne_of_gt
def jc:=@List.drop_eq_getElem_cons
def jd:=@List.getElem?_eq_none_iff
def je:=@List.toList_toArray
def jf:=@Nat.le_of_succ_le
def jg:=@Nat.lt_succ_of_lt
namespace HP
open PySem PySem.W PyProof.Rows
noncomputable section
noncomputable def tp(i:Nat):Stmt:=PySem.Challenge.pw_rooftold_s09_size.main.body.getD i (.Pass ⟨0,0,0,0⟩)
noncomputable def ic(s:Stmt)(j:Nat):Stmt:=match s with
 | .ClassDef _ _ _ body _ _ _ _ _ _ _=>body.getD j (.Pass ⟨0,0,0,0⟩)
 |_=>.Pass ⟨0,0,0,0⟩
noncomputable def dA(s:Stmt):Arguments:=match s with
 | .FunctionDef _ a _ _ _ _ _ _ _ _=>a
 |_=>{posonlyargs:=[],args:=[],vararg:=none,kwonlyargs:=[],kw_defaults:=[],kwarg:=none,defaults:=[]}
noncomputable def dB(s:Stmt):List Stmt:=match s with
 | .FunctionDef _ _ b _ _ _ _ _ _ _=>b
 |_=>[]
noncomputable def dS(s:Stmt):Scope:=match s with
 | .FunctionDef _ _ _ _ _ _ sc _ _ _=>sc
 |_=>{kind:=.function,names:=[],isGenerator:=false,isCoroutine:=false}
abbrev fl:String:= "/claim/cut.py"
noncomputable abbrev vs(s:String)(t:Tok):Value:=.str (Str.ofString s) t
noncomputable abbrev vi(i:Int)(t:Tok):Value:=.int i t
noncomputable abbrev vr(a:Addr):Value:=.ref a
noncomputable abbrev eN(P:Params)(s:String)(t:Tok)(v:Value):DictEntry:={hash:=PyData.keyHash P (Str.ofString s),key:=.str (Str.ofString s) t,val:=v}
noncomputable abbrev oT(l:Array Value):Obj:={cls:=.type "tuple",data:=.seq l}
noncomputable abbrev oK(l:Array Value):Obj:={cls:=.type "code",data:=.fields l}
noncomputable abbrev oC(n:String)(t:Nat)(l c g:Int)(r:Addr)(x:Int)(r1 r2 r3 r4:Addr)(u:Nat):Obj:=oK #[vs n t,vs n (t+1),vs fl (t+2),vi l 0,vi c 0,vi 0 0,vi 0 0,vi g 0,vr r,.bool true,vi x 0,vr r1,.none,vr r2,vr r3,vr r4,vi u 0,vi l 0,vs fl (u+1)]
noncomputable abbrev oF(n q:String)(s:Stmt)(m:String)(t:Tok)(c:Addr):Obj:={cls:=.type "function",data:=.func (fnOf (Str.ofString n) (Str.ofString q) (dA s) (dB s) (dS s) .none .none .none (vs m t) none (.ref c) .none)}
noncomputable abbrev oG(n q:String)(s:Stmt):Obj:={cls:=.none,data:=.func {name:=Str.ofString n,qualname:=Str.ofString q,params:=dA s,body:=.stmts (dB s),scope:=dS s,globals:=0,closure:=[],defaults:=.none,kwdefaults:=.none}}
def o2(P:Params):Obj:={cls:=.none,data:=.dict #[eN P "type.__subclasses__.Exception.0" 292 (vi 91 0),eN P "type.__subclasses__.Exception.n" 293 (vi 5 0),eN P "type.__subclasses__.Exception.1" 312 (vi 104 0),eN P "type.__subclasses__.Exception.2" 332 (vi 117 0),eN P "type.__subclasses__.Exception.3" 352 (vi 130 0),eN P "type.__subclasses__.Exception.4" 372 (vi 143 0)] 6}
def o3(P:Params):Obj:={cls:=.type "dict",data:=.dict #[eN P "__name__" 165 (vs "rooftold.desk" 850),eN P "__doc__" 166 .none,eN P "__package__" 167 .none,eN P "__loader__" 168 (.builtin "__main__.__loader__#opaque"),eN P "__spec__" 169 .none,eN P "__annotations__" 170 (vr 6),eN P "__builtins__" 171 (vr 4),eN P "__file__" 173 (vs "/claim/cut.py" 172),eN P "__cached__" 174 .none,eN P "ALL_SIDES" 193 (vr 15),eN P "STEPS" 204 (vr 20),eN P "SIDE_STARTS" 213 (vr 25),eN P "left_of" 220 (vr 32),eN P "opposite" 227 (vr 39),eN P "right_of" 234 (vr 46),eN P "moved" 242 (vr 53),eN P "beyond" 250 (vr 60),eN P "side_start" 258 (vr 67),eN P "side_end" 266 (vr 74),eN P "by_row" 273 (vr 81),eN P "NoHouse" 295 (vr 91),eN P "OutOfBounds" 315 (vr 104),eN P "Outside" 335 (vr 117),eN P "NoFace" 355 (vr 130),eN P "NoSize" 375 (vr 143),eN P "answer_or_refusal" 382 (vr 153),eN P "LINE_FEED" 386 (vi 10 385),eN P "BLANK" 388 (vi 32 387),eN P "COMMA" 390 (vi 44 389),eN P "DIGIT_ZERO" 392 (vi 48 391),eN P "DIGIT_NINE" 394 (vi 57 393),eN P "GREATEST_NUMBER" 396 (vi 64 395),eN P "MOST_DIGITS" 398 (vi 2 397),eN P "FEWEST_CORNERS" 400 (vi 4 399),eN P "parts_between" 411 (vr 160),eN P "digit_told" 418 (vr 167),eN P "number_told" 427 (vr 174),eN P "corner_told" 433 (vr 179),eN P "walk_told" 439 (vr 184),eN P "walks_told" 445 (vr 189),eN P "CELLS_IN_A_ROW" 449 (vi 64 448),eN P "MOST_CELLS" 451 (vi 256 450),eN P "feet_across_rows" 464 (vr 196),eN P "cells_within" 476 (vr 203),eN P "is_joined" 487 (vr 210),eN P "meets_in_a_point" 498 (vr 217),eN P "is_house" 504 (vr 222),eN P "headings_along_walls" 514 (vr 229),eN P "walk_from" 527 (vr 236),eN P "walks_round" 538 (vr 243),eN P "house_told" 547 (vr 250),eN P "QUARTERS" 558 (vr 255),eN P "HALVES_ABOUT" 581 (vr 264),eN P "HALVES_AT_A_POINT" 594 (vr 269),eN P "half_cells_of" 604 (vr 276),eN P "is_deeper" 613 (vr 283),eN P "depths_of" 619 (vr 288),eN P "height_over" 625 (vr 293),eN P "heights_of" 636 (vr 300),eN P "Roof" 672 (vr 317),eN P "facing_of" 684 (vr 328),eN P "facings_of" 696 (vr 335),eN P "triangle_across" 707 (vr 342),eN P "triangle_on_left" 717 (vr 349),eN P "triangle_on_right" 727 (vr 356),eN P "number_face" 740 (vr 363),eN P "numbers_of" 750 (vr 370),eN P "faces_of" 760 (vr 377),eN P "GREATEST_MEASURE" 764 (vi 64 763),eN P "is_size" 772 (vr 384),eN P "runs_eastward" 779 (vr 391),eN P "places_on" 794 (vr 398),eN P "tiles_over" 809 (vr 405),eN P "whole_and_cut" 820 (vr 412),eN P "places_by_face" 826 (vr 417),eN P "whole_and_cut_together" 832 (vr 422),eN P "best_size_row" 849 (vr 429),eN P "check_size" 859 (vr 436),eN P "roof_told" 866 (vr 443),eN P "roof_to_choose_for" 877 (vr 450),eN P "in_pairs" 883 (vr 455),eN P "size" 893 (vr 462)] 82}
def o11:Obj:=oT #[]
def o12:Obj:={cls:=.none,data:=.fields #[(vi 5 0),(vi 0 0),(vr 31),(vi 7 0),(vi 0 0),(vr 38),(vi 9 0),(vi 0 0),(vr 45),(vi 11 0),(vi 0 0),(vr 52),(vi 13 0),(vi 0 0),(vr 59),(vi 15 0),(vi 0 0),(vr 66),(vi 17 0),(vi 0 0),(vr 73),(vi 19 0),(vi 0 0),(vr 80),(vi 22 0),(vi 0 0),(vr 87),(vi 24 0),(vi 0 0),(vr 100),(vi 26 0),(vi 0 0),(vr 113),(vi 28 0),(vi 0 0),(vr 126),(vi 30 0),(vi 0 0),(vr 139),(vi 32 0),(vi 0 0),(vr 152),(vi 54 0),(vi 0 0),(vr 159),(vi 65 0),(vi 0 0),(vr 166),(vi 69 0),(vi 0 0),(vr 173),(vi 80 0),(vi 0 0),(vr 178),(vi 85 0),(vi 0 0),(vr 183),(vi 90 0),(vi 0 0),(vr 188),(vi 99 0),(vi 0 0),(vr 195),(vi 108 0),(vi 0 0),(vr 202),(vi 119 0),(vi 0 0),(vr 209),(vi 129 0),(vi 0 0),(vr 216),(vi 136 0),(vi 0 0),(vr 221),(vi 142 0),(vi 0 0),(vr 228),(vi 149 0),(vi 0 0),(vr 235),(vi 161 0),(vi 0 0),(vr 242),(vi 169 0),(vi 0 0),(vr 249),(vi 179 0),(vi 0 0),(vr 275),(vi 185 0),(vi 0 0),(vr 282),(vi 190 0),(vi 0 0),(vr 287),(vi 201 0),(vi 0 0),(vr 292),(vi 203 0),(vi 0 0),(vr 299),(vi 212 0),(vi 0 0),(vr 306),(vi 221 0),(vi 0 0),(vr 327),(vi 231 0),(vi 0 0),(vr 334),(vi 237 0),(vi 0 0),(vr 341),(vi 241 0),(vi 0 0),(vr 348),(vi 244 0),(vi 0 0),(vr 355),(vi 247 0),(vi 0 0),(vr 362),(vi 257 0),(vi 0 0),(vr 369),(vi 265 0),(vi 0 0),(vr 376),(vi 274 0),(vi 0 0),(vr 383),(vi 276 0),(vi 0 0),(vr 390),(vi 278 0),(vi 0 0),(vr 397),(vi 286 0),(vi 0 0),(vr 404),(vi 294 0),(vi 0 0),(vr 411),(vi 298 0),(vi 0 0),(vr 416),(vi 300 0),(vi 0 0),(vr 421),(vi 303 0),(vi 0 0),(vr 428),(vi 312 0),(vi 0 0),(vr 435),(vi 315 0),(vi 0 0),(vr 442),(vi 317 0),(vi 0 0),(vr 449),(vi 324 0),(vi 0 0),(vr 454),(vi 326 0),(vi 0 0),(vr 461)]}
def o13:Obj:=oK #[(vs "<module>" 182),(vs "<module>" 183),(vs fl 184),(vi 1 0),(vi 0 0),(vi 0 0),(vi 0 0),(vi 0 0),(vr 11),.bool false,(vi 181 0),(vr 12),.none,.none,.none,.none,(vi 185 0),(vi 1 0),(vs fl 186)]
def o14:Obj:={cls:=.type "frame",slots:=#[some ((vr 13)),some ((vr 3)),some ((vr 3)),none,some ((vs "__main__" 164)),none,some ((vr 0))]}
def o15:Obj:=oT #[(vi 0 189),(vi 1 190),(vi 2 191),(vi 3 192)]
def o16:Obj:=oT #[(vi 0 194),(vi (-1) 196)]
def o17:Obj:=oT #[(vi 1 197),(vi 0 198)]
def o18:Obj:=oT #[(vi 0 199),(vi 1 200)]
def o19:Obj:=oT #[(vi (-1) 202),(vi 0 203)]
def o20:Obj:=oT #[(vr 16),(vr 17),(vr 18),(vr 19)]
def o21:Obj:=oT #[(vi 0 205),(vi 0 206)]
def o22:Obj:=oT #[(vi 1 207),(vi 0 208)]
def o23:Obj:=oT #[(vi 1 209),(vi 1 210)]
def o24:Obj:=oT #[(vi 0 211),(vi 1 212)]
def o25:Obj:=oT #[(vr 21),(vr 22),(vr 23),(vr 24)]
def o27:Obj:={cls:=.none,data:=.fields #[]}
def o28:Obj:=oT #[(vs "direction" 217)]
def o30:Obj:=oG "left_of" "left_of" (tp 4)
def o31:Obj:=oC "left_of" 214 5 1 3 26 181 27 28 29 30 218
def o32:Obj:=oF "left_of" "left_of" (tp 4) "rooftold.compass" 187 31
def o35:Obj:=oT #[(vs "direction" 224)]
def o37:Obj:=oG "opposite" "opposite" (tp 5)
def o38:Obj:=oC "opposite" 221 7 1 3 33 181 34 35 36 37 225
def o39:Obj:=oF "opposite" "opposite" (tp 5) "rooftold.compass" 187 38
def o42:Obj:=oT #[(vs "direction" 231)]
def o44:Obj:=oG "right_of" "right_of" (tp 6)
def o45:Obj:=oC "right_of" 228 9 1 3 40 181 41 42 43 44 232
def o46:Obj:=oF "right_of" "right_of" (tp 6) "rooftold.compass" 187 45
def o49:Obj:=oT #[(vs "place" 238),(vs "step" 239)]
def o51:Obj:=oG "moved" "moved" (tp 7)
def o52:Obj:=oC "moved" 235 11 2 3 47 181 48 49 50 51 240
def o53:Obj:=oF "moved" "moved" (tp 7) "rooftold.compass" 187 52
def o56:Obj:=oT #[(vs "place" 246),(vs "direction" 247)]
def o58:Obj:=oG "beyond" "beyond" (tp 8)
def o59:Obj:=oC "beyond" 243 13 2 3 54 181 55 56 57 58 248
def o60:Obj:=oF "beyond" "beyond" (tp 8) "rooftold.compass" 187 59
def o63:Obj:=oT #[(vs "square" 254),(vs "side" 255)]
def o65:Obj:=oG "side_start" "side_start" (tp 9)
def o66:Obj:=oC "side_start" 251 15 2 3 61 181 62 63 64 65 256
def o67:Obj:=oF "side_start" "side_start" (tp 9) "rooftold.compass" 187 66
def o70:Obj:=oT #[(vs "square" 262),(vs "side" 263)]
def o72:Obj:=oG "side_end" "side_end" (tp 10)
def o73:Obj:=oC "side_end" 259 17 2 3 68 181 69 70 71 72 264
def o74:Obj:=oF "side_end" "side_end" (tp 10) "rooftold.compass" 187 73
def o77:Obj:=oT #[(vs "place" 270)]
def o79:Obj:=oG "by_row" "by_row" (tp 11)
def o80:Obj:=oC "by_row" 267 19 1 3 75 181 76 77 78 79 271
def o81:Obj:=oF "by_row" "by_row" (tp 11) "rooftold.compass" 187 80
def o82:Obj:=oT #[.type "Exception"]
def o83:Obj:={cls:=.type "builtin_function_or_method",data:=.fields #[.builtin "type.__prepare__",.type "type"]}
def o84(P:Params):Obj:={cls:=.type "dict",data:=.dict #[eN P "__module__" 283 (vs "rooftold.refusals" 274),eN P "__qualname__" 285 (vs "NoHouse" 284),eN P "__firstlineno__" 287 (vi 22 286),eN P "__static_attributes__" 288 (vr 89)] 4}
def o87:Obj:=oK #[(vs "NoHouse" 278),(vs "NoHouse" 279),(vs fl 280),(vi 22 0),(vi 0 0),(vi 0 0),(vi 0 0),(vi 0 0),(vr 85),.bool false,(vi 181 0),(vr 86),.none,.none,.none,.none,(vi 281 0),(vi 22 0),(vs fl 282)]
def o88:Obj:={cls:=.type "frame",slots:=#[some ((vr 87)),some ((vr 3)),some ((vr 84)),none,some ((vs "rooftold.refusals" 274)),none,some ((vr 0))]}
def o90(P:Params):Obj:={cls:=.type "dict",data:=.dict #[eN P "__module__" 283 (vs "rooftold.refusals" 274),eN P "__firstlineno__" 287 (vi 22 286),eN P "__static_attributes__" 288 (vr 89),eN P "__weakref__" 290 (vr 92),eN P "__doc__" 291 .none] 3}
def o91:Obj:={cls:=.type "type",data:=.cls {name:=Str.ofString "NoHouse",bases:=[.type "Exception"],mro:=[(vr 91),.type "Exception",.type "BaseException",.type "object"],ns:=90,qualname:=Str.ofString "NoHouse" },slots:=#[some ((vr 82)),none,some ((vs "NoHouse" 276)),some ((vs "NoHouse" 284)),some (.builtin "Exception.__new__"),some (.bool true)]}
def o92:Obj:={cls:=.type "getset_descriptor",data:=.fields #[(vs "__weakref__" 289),(vr 91),.builtin "ExceptionGroup.__weakref__",.none]}
def o93:Obj:={cls:=.type "super",data:=.fields #[(vr 91),(vr 91),(vr 91)]}
def o94:Obj:={cls:=.type "builtin_function_or_method",data:=.fields #[.builtin "object.__init_subclass__",(vr 91)]}
def o97(P:Params):Obj:={cls:=.type "dict",data:=.dict #[eN P "__module__" 303 (vs "rooftold.refusals" 274),eN P "__qualname__" 305 (vs "OutOfBounds" 304),eN P "__firstlineno__" 307 (vi 24 306),eN P "__static_attributes__" 308 (vr 102)] 4}
def WV:Obj:=oK #[(vs "OutOfBounds" 298),(vs "OutOfBounds" 299),(vs fl 300),(vi 24 0),(vi 0 0),(vi 0 0),(vi 0 0),(vi 0 0),(vr 98),.bool false,(vi 181 0),(vr 99),.none,.none,.none,.none,(vi 301 0),(vi 24 0),(vs fl 302)]
def WU:Obj:={cls:=.type "frame",slots:=#[some ((vr 100)),some ((vr 3)),some ((vr 97)),none,some ((vs "rooftold.refusals" 274)),none,some ((vr 0))]}
def RR(P:Params):Obj:={cls:=.type "dict",data:=.dict #[eN P "__module__" 303 (vs "rooftold.refusals" 274),eN P "__firstlineno__" 307 (vi 24 306),eN P "__static_attributes__" 308 (vr 102),eN P "__weakref__" 310 (vr 105),eN P "__doc__" 311 .none] 3}
def RQ:Obj:={cls:=.type "type",data:=.cls {name:=Str.ofString "OutOfBounds",bases:=[.type "Exception"],mro:=[(vr 104),.type "Exception",.type "BaseException",.type "object"],ns:=103,qualname:=Str.ofString "OutOfBounds" },slots:=#[some ((vr 95)),none,some ((vs "OutOfBounds" 296)),some ((vs "OutOfBounds" 304)),some (.builtin "Exception.__new__"),some (.bool true)]}
def RP:Obj:={cls:=.type "getset_descriptor",data:=.fields #[(vs "__weakref__" 309),(vr 104),.builtin "ExceptionGroup.__weakref__",.none]}
def WT:Obj:={cls:=.type "super",data:=.fields #[(vr 104),(vr 104),(vr 104)]}
def WS:Obj:={cls:=.type "builtin_function_or_method",data:=.fields #[.builtin "object.__init_subclass__",(vr 104)]}
def WR(P:Params):Obj:={cls:=.type "dict",data:=.dict #[eN P "__module__" 323 (vs "rooftold.refusals" 274),eN P "__qualname__" 325 (vs "Outside" 324),eN P "__firstlineno__" 327 (vi 26 326),eN P "__static_attributes__" 328 (vr 115)] 4}
def WQ:Obj:=oK #[(vs "Outside" 318),(vs "Outside" 319),(vs fl 320),(vi 26 0),(vi 0 0),(vi 0 0),(vi 0 0),(vi 0 0),(vr 111),.bool false,(vi 181 0),(vr 112),.none,.none,.none,.none,(vi 321 0),(vi 26 0),(vs fl 322)]
def WO:Obj:={cls:=.type "frame",slots:=#[some ((vr 113)),some ((vr 3)),some ((vr 110)),none,some ((vs "rooftold.refusals" 274)),none,some ((vr 0))]}
def RO(P:Params):Obj:={cls:=.type "dict",data:=.dict #[eN P "__module__" 323 (vs "rooftold.refusals" 274),eN P "__firstlineno__" 327 (vi 26 326),eN P "__static_attributes__" 328 (vr 115),eN P "__weakref__" 330 (vr 118),eN P "__doc__" 331 .none] 3}
def RN:Obj:={cls:=.type "type",data:=.cls {name:=Str.ofString "Outside",bases:=[.type "Exception"],mro:=[(vr 117),.type "Exception",.type "BaseException",.type "object"],ns:=116,qualname:=Str.ofString "Outside" },slots:=#[some ((vr 108)),none,some ((vs "Outside" 316)),some ((vs "Outside" 324)),some (.builtin "Exception.__new__"),some (.bool true)]}
def RL:Obj:={cls:=.type "getset_descriptor",data:=.fields #[(vs "__weakref__" 329),(vr 117),.builtin "ExceptionGroup.__weakref__",.none]}
def WN:Obj:={cls:=.type "super",data:=.fields #[(vr 117),(vr 117),(vr 117)]}
def WM:Obj:={cls:=.type "builtin_function_or_method",data:=.fields #[.builtin "object.__init_subclass__",(vr 117)]}
def WL(P:Params):Obj:={cls:=.type "dict",data:=.dict #[eN P "__module__" 343 (vs "rooftold.refusals" 274),eN P "__qualname__" 345 (vs "NoFace" 344),eN P "__firstlineno__" 347 (vi 28 346),eN P "__static_attributes__" 348 (vr 128)] 4}
def WK:Obj:=oK #[(vs "NoFace" 338),(vs "NoFace" 339),(vs fl 340),(vi 28 0),(vi 0 0),(vi 0 0),(vi 0 0),(vi 0 0),(vr 124),.bool false,(vi 181 0),(vr 125),.none,.none,.none,.none,(vi 341 0),(vi 28 0),(vs fl 342)]
def WJ:Obj:={cls:=.type "frame",slots:=#[some ((vr 126)),some ((vr 3)),some ((vr 123)),none,some ((vs "rooftold.refusals" 274)),none,some ((vr 0))]}
def RK(P:Params):Obj:={cls:=.type "dict",data:=.dict #[eN P "__module__" 343 (vs "rooftold.refusals" 274),eN P "__firstlineno__" 347 (vi 28 346),eN P "__static_attributes__" 348 (vr 128),eN P "__weakref__" 350 (vr 131),eN P "__doc__" 351 .none] 3}
def RJ:Obj:={cls:=.type "type",data:=.cls {name:=Str.ofString "NoFace",bases:=[.type "Exception"],mro:=[(vr 130),.type "Exception",.type "BaseException",.type "object"],ns:=129,qualname:=Str.ofString "NoFace" },slots:=#[some ((vr 121)),none,some ((vs "NoFace" 336)),some ((vs "NoFace" 344)),some (.builtin "Exception.__new__"),some (.bool true)]}
def RI:Obj:={cls:=.type "getset_descriptor",data:=.fields #[(vs "__weakref__" 349),(vr 130),.builtin "ExceptionGroup.__weakref__",.none]}
def WI:Obj:={cls:=.type "super",data:=.fields #[(vr 130),(vr 130),(vr 130)]}
def WH:Obj:={cls:=.type "builtin_function_or_method",data:=.fields #[.builtin "object.__init_subclass__",(vr 130)]}
def WG(P:Params):Obj:={cls:=.type "dict",data:=.dict #[eN P "__module__" 363 (vs "rooftold.refusals" 274),eN P "__qualname__" 365 (vs "NoSize" 364),eN P "__firstlineno__" 367 (vi 30 366),eN P "__static_attributes__" 368 (vr 141)] 4}
def WE:Obj:=oK #[(vs "NoSize" 358),(vs "NoSize" 359),(vs fl 360),(vi 30 0),(vi 0 0),(vi 0 0),(vi 0 0),(vi 0 0),(vr 137),.bool false,(vi 181 0),(vr 138),.none,.none,.none,.none,(vi 361 0),(vi 30 0),(vs fl 362)]
def WD:Obj:={cls:=.type "frame",slots:=#[some ((vr 139)),some ((vr 3)),some ((vr 136)),none,some ((vs "rooftold.refusals" 274)),none,some ((vr 0))]}
def RH(P:Params):Obj:={cls:=.type "dict",data:=.dict #[eN P "__module__" 363 (vs "rooftold.refusals" 274),eN P "__firstlineno__" 367 (vi 30 366),eN P "__static_attributes__" 368 (vr 141),eN P "__weakref__" 370 (vr 144),eN P "__doc__" 371 .none] 3}
def RG:Obj:={cls:=.type "type",data:=.cls {name:=Str.ofString "NoSize",bases:=[.type "Exception"],mro:=[(vr 143),.type "Exception",.type "BaseException",.type "object"],ns:=142,qualname:=Str.ofString "NoSize" },slots:=#[some ((vr 134)),none,some ((vs "NoSize" 356)),some ((vs "NoSize" 364)),some (.builtin "Exception.__new__"),some (.bool true)]}
def RF:Obj:={cls:=.type "getset_descriptor",data:=.fields #[(vs "__weakref__" 369),(vr 143),.builtin "ExceptionGroup.__weakref__",.none]}
def WB:Obj:={cls:=.type "super",data:=.fields #[(vr 143),(vr 143),(vr 143)]}
def WA:Obj:={cls:=.type "builtin_function_or_method",data:=.fields #[.builtin "object.__init_subclass__",(vr 143)]}
def W9:Obj:=oT #[(vs "tell" 379)]
def W8:Obj:=oG "answer_or_refusal" "answer_or_refusal" (tp 18)
def RE:Obj:=oC "answer_or_refusal" 376 32 1 3 147 181 148 149 150 151 380
def RD:Obj:=oF "answer_or_refusal" "answer_or_refusal" (tp 18) "rooftold.refusals" 274 152
def W7:Obj:=oT #[(vs "row" 404),(vs "mark" 405),(vs "parts" 406),(vs "part" 407),(vs "value" 408)]
def W6:Obj:=oG "parts_between" "parts_between" (tp 28)
def RC:Obj:=oC "parts_between" 401 54 2 3 154 181 155 156 157 158 409
def RB:Obj:=oF "parts_between" "parts_between" (tp 28) "rooftold.texts" 383 159
def W5:Obj:=oT #[(vs "value" 415)]
def W4:Obj:=oG "digit_told" "digit_told" (tp 29)
def RA:Obj:=oC "digit_told" 412 65 1 3 161 181 162 163 164 165 416
def R9:Obj:=oF "digit_told" "digit_told" (tp 29) "rooftold.texts" 383 166
def W3:Obj:=oT #[(vs "row" 422),(vs "number" 423),(vs "value" 424)]
def W2:Obj:=oG "number_told" "number_told" (tp 30)
def R8:Obj:=oC "number_told" 419 69 1 3 168 181 169 170 171 172 425
def R7:Obj:=oF "number_told" "number_told" (tp 30) "rooftold.texts" 383 173
def W0:Obj:=oG "corner_told" "corner_told" (tp 31)
def R6:Obj:=oK #[(vs "corner_told" 428),(vs "corner_told" 429),(vs fl 430),(vi 80 0),(vi 1 0),(vi 0 0),(vi 0 0),(vi 3 0),(vr 175),.bool true,(vi 181 0),(vr 176),.none,.none,.none,(vr 177),(vi 431 0),(vi 80 0),(vs fl 432)]
def R5:Obj:=oF "corner_told" "corner_told" (tp 31) "rooftold.texts" 383 178
def VZ:Obj:=oG "walk_told" "walk_told" (tp 32)
def R4:Obj:=oK #[(vs "walk_told" 434),(vs "walk_told" 435),(vs fl 436),(vi 85 0),(vi 1 0),(vi 0 0),(vi 0 0),(vi 3 0),(vr 180),.bool true,(vi 181 0),(vr 181),.none,.none,.none,(vr 182),(vi 437 0),(vi 85 0),(vs fl 438)]
def R1:Obj:=oF "walk_told" "walk_told" (tp 32) "rooftold.texts" 383 183
def VY:Obj:=oG "walks_told" "walks_told" (tp 33)
def R0:Obj:=oK #[(vs "walks_told" 440),(vs "walks_told" 441),(vs fl 442),(vi 90 0),(vi 1 0),(vi 0 0),(vi 0 0),(vi 3 0),(vr 185),.bool true,(vi 181 0),(vr 186),.none,.none,.none,(vr 187),(vi 443 0),(vi 90 0),(vs fl 444)]
def QZ:Obj:=oF "walks_told" "walks_told" (tp 33) "rooftold.texts" 383 188
def VX:Obj:=oT #[(vs "walks" 455),(vs "feet" 456),(vs "walk" 457),(vs "number" 458),(vs "corner" 459),(vs "before" 460),(vs "y" 461)]
def VW:Obj:=oG "feet_across_rows" "feet_across_rows" (tp 37)
def QY:Obj:=oC "feet_across_rows" 452 99 1 3 190 181 191 192 193 194 462
def QX:Obj:=oF "feet_across_rows" "feet_across_rows" (tp 37) "rooftold.plans" 446 195
def VU:Obj:=oT #[(vs "walks" 468),(vs "feet" 469),(vs "cells" 470),(vs "y" 471),(vs "inside" 472),(vs "x" 473)]
def VT:Obj:=oG "cells_within" "cells_within" (tp 38)
def QW:Obj:=oC "cells_within" 465 108 1 3 197 181 198 199 200 201 474
def QV:Obj:=oF "cells_within" "cells_within" (tp 38) "rooftold.plans" 446 202
def VS:Obj:=oT #[(vs "cells" 480),(vs "waiting" 481),(vs "reached" 482),(vs "cell" 483),(vs "side" 484)]
def VR:Obj:=oG "is_joined" "is_joined" (tp 39)
def QU:Obj:=oC "is_joined" 477 119 1 3 204 181 205 206 207 208 485
def QT:Obj:=oF "is_joined" "is_joined" (tp 39) "rooftold.plans" 446 209
def VQ:Obj:=oT #[(vs "cell" 491),(vs "cells" 492),(vs "side" 493),(vs "near" 494),(vs "far" 495)]
def VP:Obj:=oG "meets_in_a_point" "meets_in_a_point" (tp 40)
def QS:Obj:=oC "meets_in_a_point" 488 129 2 3 211 181 212 213 214 215 496
def QR:Obj:=oF "meets_in_a_point" "meets_in_a_point" (tp 40) "rooftold.plans" 446 216
def VO:Obj:=oG "is_house" "is_house" (tp 41)
def QQ:Obj:=oK #[(vs "is_house" 499),(vs "is_house" 500),(vs fl 501),(vi 136 0),(vi 1 0),(vi 0 0),(vi 0 0),(vi 3 0),(vr 218),.bool true,(vi 181 0),(vr 219),.none,.none,.none,(vr 220),(vi 502 0),(vi 136 0),(vs fl 503)]
def QP:Obj:=oF "is_house" "is_house" (tp 41) "rooftold.plans" 446 221
def VN:Obj:=oT #[(vs "cells" 508),(vs "headings" 509),(vs "cell" 510),(vs "side" 511)]
def VM:Obj:=oG "headings_along_walls" "headings_along_walls" (tp 42)
def QO:Obj:=oC "headings_along_walls" 505 142 1 3 223 181 224 225 226 227 512
def QN:Obj:=oF "headings_along_walls" "headings_along_walls" (tp 42) "rooftold.plans" 446 228
def VL:Obj:=oT #[(vs "start" 518),(vs "headings" 519),(vs "walked" 520),(vs "corners" 521),(vs "point" 522),(vs "came" 523),(vs "heading" 524)]
def VJ:Obj:=oG "walk_from" "walk_from" (tp 43)
def QM:Obj:=oC "walk_from" 515 149 3 3 230 181 231 232 233 234 525
def QL:Obj:=oF "walk_from" "walk_from" (tp 43) "rooftold.plans" 446 235
def VI:Obj:=oT #[(vs "cells" 531),(vs "headings" 532),(vs "walks" 533),(vs "walked" 534),(vs "point" 535)]
def VH:Obj:=oG "walks_round" "walks_round" (tp 44)
def QK:Obj:=oC "walks_round" 528 161 1 3 237 181 238 239 240 241 536
def QJ:Obj:=oF "walks_round" "walks_round" (tp 44) "rooftold.plans" 446 242
def VG:Obj:=oT #[(vs "t" 542),(vs "walks" 543),(vs "cells" 544)]
def VF:Obj:=oG "house_told" "house_told" (tp 45)
def QI:Obj:=oC "house_told" 539 169 1 3 244 181 245 246 247 248 545
def QH:Obj:=oF "house_told" "house_told" (tp 45) "rooftold.plans" 446 249
def QG:Obj:=oT #[(vi 0 550),(vi 0 551)]
def QF:Obj:=oT #[(vi 1 552),(vi 0 553)]
def QE:Obj:=oT #[(vi 0 554),(vi 1 555)]
def QD:Obj:=oT #[(vi 1 556),(vi 1 557)]
def QC:Obj:=oT #[(vr 251),(vr 252),(vr 253),(vr 254)]
def QB:Obj:=oT #[(vi (-1) 560),(vi (-1) 562)]
def QA:Obj:=oT #[(vi 0 563),(vi (-1) 565)]
def Q9:Obj:=oT #[(vi 1 566),(vi (-1) 568)]
def Q8:Obj:=oT #[(vi (-1) 570),(vi 0 571)]
def Q7:Obj:=oT #[(vi 1 572),(vi 0 573)]
def Q6:Obj:=oT #[(vi (-1) 575),(vi 1 576)]
def Q5:Obj:=oT #[(vi 0 577),(vi 1 578)]
def Q4:Obj:=oT #[(vi 1 579),(vi 1 580)]
def Q3:Obj:=oT #[(vr 256),(vr 257),(vr 258),(vr 259),(vr 260),(vr 261),(vr 262),(vr 263)]
def Q2:Obj:=oT #[(vi (-1) 583),(vi (-1) 585)]
def Q1:Obj:=oT #[(vi 0 586),(vi (-1) 588)]
def Q0:Obj:=oT #[(vi (-1) 590),(vi 0 591)]
def PZ:Obj:=oT #[(vi 0 592),(vi 0 593)]
def PY:Obj:=oT #[(vr 265),(vr 266),(vr 267),(vr 268)]
def VE:Obj:=oT #[(vs "cells" 598),(vs "found" 599),(vs "cell" 600),(vs "quarter" 601)]
def VD:Obj:=oG "half_cells_of" "half_cells_of" (tp 50)
def PX:Obj:=oC "half_cells_of" 595 179 1 3 270 181 271 272 273 274 602
def PV:Obj:=oF "half_cells_of" "half_cells_of" (tp 50) "rooftold.heights" 548 275
def VC:Obj:=oT #[(vs "half" 608),(vs "layer" 609),(vs "step" 610)]
def VB:Obj:=oG "is_deeper" "is_deeper" (tp 51)
def PU:Obj:=oC "is_deeper" 605 185 2 3 277 181 278 279 280 281 611
def PR:Obj:=oF "is_deeper" "is_deeper" (tp 51) "rooftold.heights" 548 282
def VA:Obj:=oG "depths_of" "depths_of" (tp 52)
def PQ:Obj:=oK #[(vs "depths_of" 614),(vs "depths_of" 615),(vs fl 616),(vi 190 0),(vi 1 0),(vi 0 0),(vi 0 0),(vi 3 0),(vr 284),.bool true,(vi 181 0),(vr 285),.none,.none,.none,(vr 286),(vi 617 0),(vi 190 0),(vs fl 618)]
def PN:Obj:=oF "depths_of" "depths_of" (tp 52) "rooftold.heights" 548 287
def V9:Obj:=oG "height_over" "height_over" (tp 53)
def PM:Obj:=oK #[(vs "height_over" 620),(vs "height_over" 621),(vs fl 622),(vi 201 0),(vi 2 0),(vi 0 0),(vi 0 0),(vi 3 0),(vr 289),.bool true,(vi 181 0),(vr 290),.none,.none,.none,(vr 291),(vi 623 0),(vi 201 0),(vs fl 624)]
def PL:Obj:=oF "height_over" "height_over" (tp 53) "rooftold.heights" 548 292
def V8:Obj:=oT #[(vs "depths" 629),(vs "heights" 630),(vs "half" 631),(vs "side" 632),(vs "point" 633)]
def V7:Obj:=oG "heights_of" "heights_of" (tp 54)
def PJ:Obj:=oC "heights_of" 626 203 1 3 294 181 295 296 297 298 634
def PH:Obj:=oF "heights_of" "heights_of" (tp 54) "rooftold.heights" 548 299
def V6(P:Params):Obj:={cls:=.type "dict",data:=.dict #[eN P "__module__" 646 (vs "rooftold.roofs" 637),eN P "__qualname__" 648 (vs "Roof" 647),eN P "__firstlineno__" 650 (vi 212 649),eN P "__init__" 658 (vr 314),eN P "__static_attributes__" 665 (vr 315)] 5}
def V5:Obj:={cls:=.none,data:=.fields #[(vi 214 0),(vi 4 0),(vr 313)]}
def V4:Obj:=oK #[(vs "Roof" 641),(vs "Roof" 642),(vs fl 643),(vi 212 0),(vi 0 0),(vi 0 0),(vi 0 0),(vi 0 0),(vr 304),.bool false,(vi 181 0),(vr 305),.none,.none,.none,.none,(vi 644 0),(vi 212 0),(vs fl 645)]
def V3:Obj:={cls:=.type "frame",slots:=#[some ((vr 306)),some ((vr 3)),some ((vr 303)),none,some ((vs "rooftold.roofs" 637)),none,some ((vr 0))]}
def V2:Obj:=oT #[(vs "self" 654),(vs "cells" 655)]
def V1:Obj:=oG "__init__" "Roof.__init__" (ic (tp 56) 0)
def PF:Obj:=oK #[(vs "__init__" 651),(vs "Roof.__init__" 652),(vs fl 653),(vi 214 0),(vi 2 0),(vi 0 0),(vi 0 0),(vi 3 0),(vr 308),.bool true,(vi 181 0),(vr 309),.none,(vr 310),(vr 311),(vr 312),(vi 656 0),(vi 214 0),(vs fl 657)]
def PD:Obj:=oF "__init__" "Roof.__init__" (ic (tp 56) 0) "rooftold.roofs" 637 313
def V0:Obj:=oT #[(vs "cells" 659),(vs "depths" 660),(vs "faces" 661),(vs "facings" 662),(vs "heights" 663),(vs "numbers" 664)]
def PB(P:Params):Obj:={cls:=.type "dict",data:=.dict #[eN P "__module__" 646 (vs "rooftold.roofs" 637),eN P "__firstlineno__" 650 (vi 212 649),eN P "__init__" 658 (vr 314),eN P "__static_attributes__" 665 (vr 315),eN P "__dict__" 667 (vr 318),eN P "__weakref__" 669 (vr 319),eN P "__doc__" 670 .none] 4}
def P9:Obj:={cls:=.type "type",data:=.cls {name:=Str.ofString "Roof",bases:=[.type "object"],mro:=[(vr 317),.type "object"],ns:=316,qualname:=Str.ofString "Roof" },slots:=#[none,none,some ((vs "Roof" 639)),some ((vs "Roof" 647)),some (.builtin "object.__new__"),some (.bool true)]}
def P8:Obj:={cls:=.type "getset_descriptor",data:=.fields #[(vs "__dict__" 666),(vr 317),.builtin "function.__dict__",.builtin "function.__dict__#set"]}
def P7:Obj:={cls:=.type "getset_descriptor",data:=.fields #[(vs "__weakref__" 668),(vr 317),.builtin "ExceptionGroup.__weakref__",.none]}
def UZ:Obj:={cls:=.type "super",data:=.fields #[(vr 317),(vr 317),(vr 317)]}
def UY:Obj:={cls:=.type "builtin_function_or_method",data:=.fields #[.builtin "object.__init_subclass__",(vr 317)]}
def UX:Obj:=oT #[(vs "half" 676),(vs "side" 677),(vs "depth" 678),(vs "heights" 679),(vs "start_is_low" 680),(vs "end_is_low" 681)]
def UW:Obj:=oG "facing_of" "facing_of" (tp 57)
def P6:Obj:=oC "facing_of" 673 221 4 3 322 181 323 324 325 326 682
def P5:Obj:=oF "facing_of" "facing_of" (tp 57) "rooftold.roofs" 637 327
def UU:Obj:=oT #[(vs "depths" 688),(vs "heights" 689),(vs "facings" 690),(vs "half" 691),(vs "depth" 692),(vs "side" 693)]
def UT:Obj:=oG "facings_of" "facings_of" (tp 58)
def P4:Obj:=oC "facings_of" 685 231 2 3 329 181 330 331 332 333 694
def P2:Obj:=oF "facings_of" "facings_of" (tp 58) "rooftold.roofs" 637 334
def US:Obj:=oT #[(vs "triangle" 700),(vs "i" 701),(vs "j" 702),(vs "side" 703),(vs "across" 704)]
def UR:Obj:=oG "triangle_across" "triangle_across" (tp 59)
def P1:Obj:=oC "triangle_across" 697 237 1 3 336 181 337 338 339 340 705
def P0:Obj:=oF "triangle_across" "triangle_across" (tp 59) "rooftold.roofs" 637 341
def UQ:Obj:=oT #[(vs "triangle" 711),(vs "i" 712),(vs "j" 713),(vs "side" 714)]
def UP:Obj:=oG "triangle_on_left" "triangle_on_left" (tp 60)
def OZ:Obj:=oC "triangle_on_left" 708 241 1 3 343 181 344 345 346 347 715
def OY:Obj:=oF "triangle_on_left" "triangle_on_left" (tp 60) "rooftold.roofs" 637 348
def UO:Obj:=oT #[(vs "triangle" 721),(vs "i" 722),(vs "j" 723),(vs "side" 724)]
def UN:Obj:=oG "triangle_on_right" "triangle_on_right" (tp 61)
def OX:Obj:=oC "triangle_on_right" 718 244 1 3 350 181 351 352 353 354 725
def OW:Obj:=oF "triangle_on_right" "triangle_on_right" (tp 61) "rooftold.roofs" 637 355
def UM:Obj:=oT #[(vs "first" 731),(vs "number" 732),(vs "facings" 733),(vs "numbers" 734),(vs "facing" 735),(vs "waiting" 736),(vs "triangle" 737)]
def UL:Obj:=oG "number_face" "number_face" (tp 62)
def OV:Obj:=oC "number_face" 728 247 4 3 357 181 358 359 360 361 738
def OU:Obj:=oF "number_face" "number_face" (tp 62) "rooftold.roofs" 637 362
def UK:Obj:=oT #[(vs "facings" 744),(vs "numbers" 745),(vs "count" 746),(vs "triangle" 747)]
def UJ:Obj:=oG "numbers_of" "numbers_of" (tp 63)
def OT:Obj:=oC "numbers_of" 741 257 1 3 364 181 365 366 367 368 748
def OS:Obj:=oF "numbers_of" "numbers_of" (tp 63) "rooftold.roofs" 637 369
def UI:Obj:=oT #[(vs "numbers" 754),(vs "faces" 755),(vs "triangle" 756),(vs "number" 757)]
def UH:Obj:=oG "faces_of" "faces_of" (tp 64)
def OR:Obj:=oC "faces_of" 751 265 1 3 371 181 372 373 374 375 758
def OQ:Obj:=oF "faces_of" "faces_of" (tp 64) "rooftold.roofs" 637 376
def UG:Obj:=oT #[(vs "W" 768),(vs "H" 769)]
def UE:Obj:=oG "is_size" "is_size" (tp 67)
def OP:Obj:=oC "is_size" 765 274 2 3 378 181 379 380 381 382 770
def OO:Obj:=oF "is_size" "is_size" (tp 67) "rooftold.tiling" 761 383
def UD:Obj:=oT #[(vs "facing" 776)]
def UC:Obj:=oG "runs_eastward" "runs_eastward" (tp 68)
def ON:Obj:=oC "runs_eastward" 773 276 1 3 385 181 386 387 388 389 777
def OM:Obj:=oF "runs_eastward" "runs_eastward" (tp 68) "rooftold.tiling" 761 390
def UB:Obj:=oT #[(vs "face" 783),(vs "roof" 784),(vs "places" 785),(vs "triangle" 786),(vs "i" 787),(vs "j" 788),(vs "side" 789),(vs "along" 790),(vs "place" 791)]
def UA:Obj:=oG "places_on" "places_on" (tp 69)
def OL:Obj:=oC "places_on" 780 278 2 3 392 181 393 394 395 396 792
def OK:Obj:=oF "places_on" "places_on" (tp 69) "rooftold.tiling" 761 397
def U9:Obj:=oT #[(vs "places" 798),(vs "W" 799),(vs "H" 800),(vs "tiles" 801),(vs "place" 802),(vs "count" 803),(vs "course" 804),(vs "shift" 805),(vs "tile" 806)]
def U8:Obj:=oG "tiles_over" "tiles_over" (tp 70)
def OJ:Obj:=oC "tiles_over" 795 286 3 3 399 181 400 401 402 403 807
def OI:Obj:=oF "tiles_over" "tiles_over" (tp 70) "rooftold.tiling" 761 404
def U7:Obj:=oT #[(vs "places" 813),(vs "W" 814),(vs "H" 815),(vs "counts" 816),(vs "whole" 817)]
def U6:Obj:=oG "whole_and_cut" "whole_and_cut" (tp 71)
def OH:Obj:=oC "whole_and_cut" 810 294 3 3 406 181 407 408 409 410 818
def OG:Obj:=oF "whole_and_cut" "whole_and_cut" (tp 71) "rooftold.tiling" 761 411
def U5:Obj:=oG "places_by_face" "places_by_face" (tp 72)
def OF:Obj:=oK #[(vs "places_by_face" 821),(vs "places_by_face" 822),(vs fl 823),(vi 298 0),(vi 1 0),(vi 0 0),(vi 0 0),(vi 3 0),(vr 413),.bool true,(vi 181 0),(vr 414),.none,.none,.none,(vr 415),(vi 824 0),(vi 298 0),(vs fl 825)]
def OE:Obj:=oF "places_by_face" "places_by_face" (tp 72) "rooftold.tiling" 761 416
def U4:Obj:=oG "whole_and_cut_together" "whole_and_cut_together" (tp 73)
def OD:Obj:=oK #[(vs "whole_and_cut_together" 827),(vs "whole_and_cut_together" 828),(vs fl 829),(vi 300 0),(vi 3 0),(vi 0 0),(vi 0 0),(vi 3 0),(vr 418),.bool true,(vi 181 0),(vr 419),.none,.none,.none,(vr 420),(vi 830 0),(vi 300 0),(vs fl 831)]
def OC:Obj:=oF "whole_and_cut_together" "whole_and_cut_together" (tp 73) "rooftold.tiling" 761 421
def U3:Obj:=oT #[(vs "roof" 836),(vs "sizes" 837),(vs "faces" 838),(vs "wants" 839),(vs "number" 840),(vs "size" 841),(vs "whole" 842),(vs "cut" 843),(vs "fewest" 844),(vs "fewest_cut" 845),(vs "first" 846)]
def U2:Obj:=oG "best_size_row" "best_size_row" (tp 74)
def OB:Obj:=oC "best_size_row" 833 303 2 3 423 181 424 425 426 427 847
def OA:Obj:=oF "best_size_row" "best_size_row" (tp 74) "rooftold.tiling" 761 428
def U1:Obj:=oT #[(vs "W" 855),(vs "H" 856)]
def U0:Obj:=oG "check_size" "check_size" (tp 76)
def O9:Obj:=oC "check_size" 852 312 2 3 430 181 431 432 433 434 857
def O8:Obj:=oF "check_size" "check_size" (tp 76) "rooftold.desk" 850 435
def TZ:Obj:=oT #[(vs "t" 863)]
def TY:Obj:=oG "roof_told" "roof_told" (tp 77)
def O7:Obj:=oC "roof_told" 860 315 1 3 437 181 438 439 440 441 864
def O6:Obj:=oF "roof_told" "roof_told" (tp 77) "rooftold.desk" 850 442
def TV:Obj:=oT #[(vs "pairs" 870),(vs "t" 871),(vs "W" 872),(vs "H" 873),(vs "told" 874)]
def TU:Obj:=oG "roof_to_choose_for" "roof_to_choose_for" (tp 78)
def O5:Obj:=oC "roof_to_choose_for" 867 317 2 3 444 181 445 446 447 448 875
def O4:Obj:=oF "roof_to_choose_for" "roof_to_choose_for" (tp 78) "rooftold.desk" 850 449
def TQ:Obj:=oG "in_pairs" "in_pairs" (tp 79)
def O3:Obj:=oK #[(vs "in_pairs" 878),(vs "in_pairs" 879),(vs fl 880),(vi 324 0),(vi 1 0),(vi 0 0),(vi 0 0),(vi 3 0),(vr 451),.bool true,(vi 181 0),(vr 452),.none,.none,.none,(vr 453),(vi 881 0),(vi 324 0),(vs fl 882)]
def O1:Obj:=oF "in_pairs" "in_pairs" (tp 79) "rooftold.desk" 850 454
def TN:Obj:=oT #[(vs "t" 887),(vs "sizes" 888)]
def TM:Obj:=oT #[(vs "t" 889),(vs "pairs" 890)]
def TJ:Obj:=oG "size" "size" (tp 80)
def O0:Obj:=oC "size" 884 326 2 3 456 181 457 458 459 460 891
def NZ:Obj:=oF "size" "size" (tp 80) "rooftold.desk" 850 461
def hpK:Params->Frag:=fun P=>(nat_lit 2,o2 P)::(nat_lit 3,o3 P)::(nat_lit 15,o15)::(nat_lit 16,o16)::(nat_lit 17,o17)::(nat_lit 18,o18)::(nat_lit 19,o19)::(nat_lit 20,o20)::(nat_lit 21,o21)::(nat_lit 22,o22)::(nat_lit 23,o23)::(nat_lit 24,o24)::(nat_lit 25,o25)::(nat_lit 31,o31)::(nat_lit 32,o32)::(nat_lit 38,o38)::(nat_lit 39,o39)::(nat_lit 45,o45)::(nat_lit 46,o46)::(nat_lit 52,o52)::(nat_lit 53,o53)::(nat_lit 59,o59)::(nat_lit 60,o60)::(nat_lit 66,o66)::(nat_lit 67,o67)::(nat_lit 73,o73)::(nat_lit 74,o74)::(nat_lit 80,o80)::(nat_lit 81,o81)::(nat_lit 82,o82)::(nat_lit 90,o90 P)::(nat_lit 91,o91)::(nat_lit 92,o92)::(nat_lit 95,o82)::(nat_lit 103,RR P)::(nat_lit 104,RQ)::(nat_lit 105,RP)::(nat_lit 108,o82)::(nat_lit 116,RO P)::(nat_lit 117,RN)::(nat_lit 118,RL)::(nat_lit 121,o82)::(nat_lit 129,RK P)::(nat_lit 130,RJ)::(nat_lit 131,RI)::(nat_lit 134,o82)::(nat_lit 142,RH P)::(nat_lit 143,RG)::(nat_lit 144,RF)::(nat_lit 152,RE)::(nat_lit 153,RD)::(nat_lit 159,RC)::(nat_lit 160,RB)::(nat_lit 166,RA)::(nat_lit 167,R9)::(nat_lit 173,R8)::(nat_lit 174,R7)::(nat_lit 178,R6)::(nat_lit 179,R5)::(nat_lit 183,R4)::(nat_lit 184,R1)::(nat_lit 188,R0)::(nat_lit 189,QZ)::(nat_lit 195,QY)::(nat_lit 196,QX)::(nat_lit 202,QW)::(nat_lit 203,QV)::(nat_lit 209,QU)::(nat_lit 210,QT)::(nat_lit 216,QS)::(nat_lit 217,QR)::(nat_lit 221,QQ)::(nat_lit 222,QP)::(nat_lit 228,QO)::(nat_lit 229,QN)::(nat_lit 235,QM)::(nat_lit 236,QL)::(nat_lit 242,QK)::(nat_lit 243,QJ)::(nat_lit 249,QI)::(nat_lit 250,QH)::(nat_lit 251,QG)::(nat_lit 252,QF)::(nat_lit 253,QE)::(nat_lit 254,QD)::(nat_lit 255,QC)::(nat_lit 256,QB)::(nat_lit 257,QA)::(nat_lit 258,Q9)::(nat_lit 259,Q8)::(nat_lit 260,Q7)::(nat_lit 261,Q6)::(nat_lit 262,Q5)::(nat_lit 263,Q4)::(nat_lit 264,Q3)::(nat_lit 265,Q2)::(nat_lit 266,Q1)::(nat_lit 267,Q0)::(nat_lit 268,PZ)::(nat_lit 269,PY)::(nat_lit 275,PX)::(nat_lit 276,PV)::(nat_lit 282,PU)::(nat_lit 283,PR)::(nat_lit 287,PQ)::(nat_lit 288,PN)::(nat_lit 292,PM)::(nat_lit 293,PL)::(nat_lit 299,PJ)::(nat_lit 300,PH)::(nat_lit 313,PF)::(nat_lit 314,PD)::(nat_lit 316,PB P)::(nat_lit 317,P9)::(nat_lit 318,P8)::(nat_lit 319,P7)::(nat_lit 327,P6)::(nat_lit 328,P5)::(nat_lit 334,P4)::(nat_lit 335,P2)::(nat_lit 341,P1)::(nat_lit 342,P0)::(nat_lit 348,OZ)::(nat_lit 349,OY)::(nat_lit 355,OX)::(nat_lit 356,OW)::(nat_lit 362,OV)::(nat_lit 363,OU)::(nat_lit 369,OT)::(nat_lit 370,OS)::(nat_lit 376,OR)::(nat_lit 377,OQ)::(nat_lit 383,OP)::(nat_lit 384,OO)::(nat_lit 390,ON)::(nat_lit 391,OM)::(nat_lit 397,OL)::(nat_lit 398,OK)::(nat_lit 404,OJ)::(nat_lit 405,OI)::(nat_lit 411,OH)::(nat_lit 412,OG)::(nat_lit 416,OF)::(nat_lit 417,OE)::(nat_lit 421,OD)::(nat_lit 422,OC)::(nat_lit 428,OB)::(nat_lit 429,OA)::(nat_lit 435,O9)::(nat_lit 436,O8)::(nat_lit 442,O7)::(nat_lit 443,O6)::(nat_lit 449,O5)::(nat_lit 450,O4)::(nat_lit 454,O3)::(nat_lit 455,O1)::(nat_lit 461,O0)::(nat_lit 462,NZ)::[]
def as:List Addr:=[2,3,15,16,17,18,19,20,21,22,23,24,25,31,32,38,39,45,46,52,53,59,60,66,67,73,74,80,81,82,90,91,92,95,103,104,105,108,116,117,118,121,129,130,131,134,142,143,144,152,153,159,160,166,167,173,174,178,179,183,184,188,189,195,196,202,203,209,210,216,217,221,222,228,229,235,236,242,243,249,250,251,252,253,254,255,256,257,258,259,260,261,262,263,264,265,266,267,268,269,275,276,282,283,287,288,292,293,299,300,313,314,316,317,318,319,327,328,334,335,341,342,348,349,355,356,362,363,369,370,376,377,383,384,390,391,397,398,404,405,411,412,416,417,421,422,428,429,435,436,442,443,449,450,454,455,461,462]
theorem hkE:∀P,as=(hpK P).map (·.1):=fun _=>by kernel_rfl
def H1(P:Params):Heap:={objs:={toList:=[boot_o_0 P,boot_o_1 P,o2 P,o3 P,boot_o_4 P,boot_o_5 P,boot_o_6 P,boot_o_7 P,boot_o_8 P,boot_o_9 P,boot_o_10 P,o11,o12,o13,o14,o15,o16,o17,o18,o19,o20,o21,o22,o23,o24,o25,o11,o27,o28,o11,o30,o31,o32,o11,o27,o35,o11,o37,o38,o39,o11,o27,o42,o11,o44,o45,o46,o11,o27,o49,o11,o51,o52,o53,o11,o27,o56,o11,o58,o59,o60,o11,o27,o63,o11,o65,o66,o67,o11,o27,o70,o11,o72,o73,o74,o11,o27,o77,o11,o79,o80,o81,o82,o83,o84 P,o11,o27,o87,o88,o11,o90 P,o91,o92,o93,o94,o82,o83,o97 P,o11,o27,WV,WU,o11,RR P,RQ,RP,WT,WS,o82,o83,WR P,o11,o27,WQ,WO,o11,RO P,RN,RL,WN,WM,o82,o83,WL P,o11,o27,WK,WJ,o11,RK P,RJ,RI,WI,WH,o82,o83,WG P,o11,o27,WE,WD,o11,RH P,RG,RF,WB,WA,o11,o27,W9,o11,W8,RE,RD,o11,o27,W7,o11,W6,RC,RB,o11,o27,W5,o11,W4,RA,R9,o11,o27,W3,o11,W2,R8,R7,o11,o27,W0,R6,R5,o11,o27,VZ,R4,R1,o11,o27,VY,R0,QZ,o11,o27,VX,o11,VW,QY,QX,o11,o27,VU,o11,VT,QW,QV,o11,o27,VS,o11,VR,QU,QT,o11,o27,VQ,o11,VP,QS,QR,o11,o27,VO,QQ,QP,o11,o27,VN,o11,VM,QO,QN,o11,o27,VL,o11,VJ,QM,QL,o11,o27,VI,o11,VH,QK,QJ,o11,o27,VG,o11,VF,QI,QH,QG,QF,QE,QD,QC,QB,QA,Q9,Q8,Q7,Q6,Q5,Q4,Q3,Q2,Q1,Q0,PZ,PY,o11,o27,VE,o11,VD,PX,PV,o11,o27,VC,o11,VB,PU,PR,o11,o27,VA,PQ,PN,o11,o27,V9,PM,PL,o11,o27,V8,o11,V7,PJ,PH,o11,o83,V6 P,o11,V5,V4,V3,o11,o27,V2,o11,V1,PF,PD,V0,PB P,P9,P8,P7,UZ,UY,o11,o27,UX,o11,UW,P6,P5,o11,o27,UU,o11,UT,P4,P2,o11,o27,US,o11,UR,P1,P0,o11,o27,UQ,o11,UP,OZ,OY,o11,o27,UO,o11,UN,OX,OW,o11,o27,UM,o11,UL,OV,OU,o11,o27,UK,o11,UJ,OT,OS,o11,o27,UI,o11,UH,OR,OQ,o11,o27,UG,o11,UE,OP,OO,o11,o27,UD,o11,UC,ON,OM,o11,o27,UB,o11,UA,OL,OK,o11,o27,U9,o11,U8,OJ,OI,o11,o27,U7,o11,U6,OH,OG,o11,o27,U5,OF,OE,o11,o27,U4,OD,OC,o11,o27,U3,o11,U2,OB,OA,o11,o27,U1,o11,U0,O9,O8,o11,o27,TZ,o11,TY,O7,O6,o11,o27,TV,o11,TU,O5,O4,o11,o27,TQ,O3,O1,o11,o27,TN,TM,TJ,O0,NZ]}}
def vw:Program:=view PySem.Challenge.pw_rooftold_s09_size [1,2,3,4,5,6,7,8,9,10,11,13,14,15,16,17,18,20,21,22,23,24,25,26,27,28,29,30,31,32,33,35,36,37,38,39,40,41,42,43,44,45,47,48,49,50,51,52,53,54,56,57,58,59,60,61,62,63,64,66,67,68,69,70,71,72,73,74,76,77,78,79,80]
abbrev xt(s:Shared):Bool:=xlAt vw [] s&& recOk [] s
theorem run:∀w os,topRun treeTable PySem.Challenge.rw_rooftold_s09_size.prog w 11 (some (.ref 6)) 6416 {heap:=boot_heap w.params,gens:=Array.mk [],drawn:=boot_drawn,toks:=boot_toks,os:=os} (topStub PySem.Challenge.rw_rooftold_s09_size.prog)=some {heap:=H1 w.params,gens:=Array.mk [],drawn:=boot_drawn,toks:=894,os:=os}:=by intro w os;kernel_rfl
theorem left:LeftO PySem.Challenge.rw_rooftold_s09_size.prog vw [] xt (Hook.obs (kHook hpK as hkE)) (Hook.val (kHook hpK as hkE)) 6416:=by refine LeftO.of_pieces (M:=6416) (boot_open (by kernel_rfl) (by decide) (fun s=>by kernel_rfl)) (fun w=>by kernel_rfl) run (by decide) (fun w=>?_);funext os;kernel_rfl
end
end HP
namespace L2
open PySem PySem.Spec PyProof.Rows
abbrev Key:=Sum Int Str
noncomputable def qT:Key->Value->Bool
 | .inl k,v=>Value.isInt k v
 | .inr x,v=>Value.isStrOf x v
def WZ(w:World):Key->Int
 | .inl k=>hashInt k
 | .inr x=>hashStr w x
theorem cE:∀{k:Key}{v:Value},qT k v=true->(∃i t,k=Sum.inl i/\v=Value.int i t)\/(∃x t,k=Sum.inr x/\v=Value.str x t)
 | .inl i,v,h=>by obtain⟨t,e⟩:=Value.isInt_shape (k:=i) (v:=v) h;exact .inl ⟨i,t,rfl,e⟩
 | .inr x,v,h=>by obtain⟨t,e⟩:=Value.isStrOf_shape (x:=x) (v:=v) h;exact .inr ⟨x,t,rfl,e⟩
theorem EY(i:Int)(t:Tok):qT (.inl i) (.int i t)=true:=by simp[qT,Value.isInt]
theorem EX(x:Str)(t:Tok):qT (.inr x) (.str x t)=true:=by simp[qT,Value.isStrOf]
theorem ML(a b:Int):decide ((Sum.inl a:Key)=Sum.inl b)=(a==b):=by
 by_cases e:a=b
 ·subst e;simp
 ·have h:¬(Sum.inl a:Key)=Sum.inl b:=fun q=>e (Sum.inl.inj q)
  rw[decide_eq_false h];exact(beq_eq_false_iff_ne.mpr e).symm
theorem MI(a b:Str):decide ((Sum.inr a:Key)=Sum.inr b)=decide (a=b):=by
 by_cases e:a=b
 ·subst e;simp
 ·have h:¬(Sum.inr a:Key)=Sum.inr b:=fun q=>e (Sum.inr.inj q)
  rw[decide_eq_false h,decide_eq_false e]
theorem MK(a:Int)(b:Str):decide ((Sum.inl a:Key)=Sum.inr b)=false:=decide_eq_false (fun q=>nomatch q)
theorem MJ(a:Str)(b:Int):decide ((Sum.inr a:Key)=Sum.inl b)=false:=decide_eq_false (fun q=>nomatch q)
noncomputable def bY(prog:Program)(w:World):PySem.KeyKind prog w Key where
 is:=qT
 hash:=WZ w
 inj:=fun v a b ha hb=>by
  rcases cE ha with⟨i,t,rfl,rfl⟩|⟨x,t,rfl,rfl⟩
  ·rcases cE hb with⟨j,u,rfl,e⟩|⟨y,u,rfl,e⟩
   ·injection e with e1 _;rw[e1]
   ·exact nomatch e
  ·rcases cE hb with⟨j,u,rfl,e⟩|⟨y,u,rfl,e⟩
   ·exact nomatch e
   ·injection e with e1 _;rw[e1]
 byValue:=fun k v h=>by rcases cE h with⟨i,t,rfl,rfl⟩|⟨x,t,rfl,rfl⟩<;>rfl
 pyHash:=fun hv h=>by
  rcases cE hv with⟨i,t,rfl,rfl⟩|⟨x,t,rfl,rfl⟩
  ·exact wpAny_pyHash_int h
  ·exact wpAny_pyHash_str h
 eqBool:=fun hu hv h=>by
  rcases cE hu with⟨i,t,rfl,rfl⟩|⟨x,t,rfl,rfl⟩
  ·rcases cE hv with⟨j,u,rfl,rfl⟩|⟨y,u,rfl,rfl⟩
   ·rw[ML]at h;exact wpAny_eqBool_int h
   ·rw[MK]at h;exact SeqAt.EqAt.int_str i t y u _ _ _ _ h
  ·rcases cE hv with⟨j,u,rfl,rfl⟩|⟨y,u,rfl,rfl⟩
   ·rw[MJ]at h;exact SeqAt.EqAt.str_int x t j u _ _ _ _ h
   ·rw[MI]at h;exact wpAny_eqBool_str h
 «strs» :=fun k x t v h=>by
  rcases cE h with⟨i,u,rfl,e⟩|⟨y,u,rfl,e⟩
  ·exact nomatch e
  ·injection e with e1 _
   subst e1;cases v<;>rfl
theorem z4(prog:Program)(w:World)(i:Int)(t:Tok):(bY prog w).is (.inl i) (.int i t)=true:=EY i t
theorem yZ(prog:Program)(w:World)(x:Str)(t:Tok):(bY prog w).is (.inr x) (.str x t)=true:=EX x t
inductive V where
 |non|bl (b:Bool)|int (i:Int)|str (x:Str)|byt (b:Array UInt8)|flt (b:UInt64)|ref (a:Addr)|ty (n:String)
 deriving DecidableEq
noncomputable def RelV:V->Value->Prop
 | .non,u=>u=Value.none
 | .bl b,u=>u=Value.bool b
 | .int i,u=>∃t,u=Value.int i t
 | .str x,u=>∃t,u=Value.str x t
 | .byt b,u=>∃t,u=Value.bytes b t
 | .flt b,u=>∃t,u=Value.float b t
 | .ref a,u=>u=Value.ref a
 | .ty n,u=>u=Value.type n
abbrev Vals:List V->List Value->Prop:=Paired RelV
theorem Vals.length{xs:List V}{us:List Value}(r:Vals xs us):xs.length=us.length:=Paired.length r
theorem Vals.get:∀{xs:List V}{us:List Value}{i:Nat}{x:V},Vals xs us->xs[i]? =some x->∃u,us[i]? =some u/\RelV x u
 |_,_,_,_,.nil,e=>by simp at e
 |_,_,0,_,.cons r _,e=>by simp at e;subst e;exact⟨_,rfl,r⟩
 |_,_,i+1,x,.cons _ t,e=>by obtain⟨u,h1,h2⟩:=Vals.get (i:=i) (x:=x) t (by simpa using e);exact⟨u,by simpa using h1,h2⟩
theorem Vals.append:∀{xs ys:List V}{us ws:List Value},Vals xs us->Vals ys ws->Vals (xs++ys) (us++ws)
 |_,_,_,_,.nil,s=>s
 |_,_,_,_,.cons r t,s=>.cons r (Vals.append t s)
theorem Vals.take:∀{xs:List V}{us:List Value}(n:Nat),Vals xs us->Vals (xs.take n) (us.take n)
 |_,_,0,_=>.nil
 |_,_,_+1,.nil=>.nil
 |_,_,n+1,.cons r t=>.cons r (Vals.take n t)
theorem Vals.drop:∀{xs:List V}{us:List Value}(n:Nat),Vals xs us->Vals (xs.drop n) (us.drop n)
 |_,_,0,r=>r
 |_,_,_+1,.nil=>.nil
 |_,_,n+1,.cons _ t=>Vals.drop n t
noncomputable def mM:Option V->Option Value->Prop
 |some v,some u=>RelV v u
 |none,none=>True
 |_,_=>False
noncomputable def KV{κ:Type}:List (κ×V)->List (κ×Value)->Prop:=Paired fun(p:κ×V)(q:κ×Value)=>p.1=q.1/\RelV p.2 q.2
def kV:Key->V
 | .inl i=>.int i
 | .inr x=>.str x
inductive HO where
 |lst (xs:List V)
 |tup (xs:List V)
 |dK (kvs:List (Key×V))|dT (kvs:List (List Key×V))
 |set (S:Int->Bool) (n:Nat)
 |ins (C dx:Addr) (fs:List (Str×V))
 |own (x:Addr)
 |xd (fs:List (Str×V))
 |met (f x:Addr)
 |rng (lo hi:Int)
 |frz (o:Obj) (u:HO)
 |tbl (ps:Array Value)
 |ext (φ:Heap->Prop)
abbrev Hp:=Addr->Option HO
def upd(H:Hp)(a:Addr)(o:HO):Hp:=fun b=>if b=a then some o else H b
theorem a7{H:Hp}{a:Addr}{o:HO}:upd H a o a=some o:=by unfold upd;rw[ah rfl]
theorem aA{H:Hp}{a b:Addr}{o:HO}(h:b≠a):upd H a o b=H b:=by unfold upd;rw[ag h]
theorem eX{H:Hp}{a b:Addr}{o u:HO}(h:H a=some o)(h':H b=some u)(d:o≠u):a≠b:=by intro e;subst e;rw[h]at h';exact d (Option.some.inj h')
theorem aI{H:Hp}{a b:Addr}{o:HO}(h:H a=some o)(h':H b=none):a≠b:=by intro e;subst e;rw[h]at h';cases h'
section
variable (P:Program) (w:World)
noncomputable def d3(H:Hp)(h:Heap)(a:Addr):HO->Prop
 | .lst xs=>xs.length<=sizeLine/\∃(its:List Value)(n:Nat),Vals xs its/\h.get? a=some {cls:=.type "list",data:=.seq its.toArray n}
 | .tup xs=>xs.length<=sizeLine/\∃its:List Value,Vals xs its/\IsTup h a its.toArray
 | .dK kvs=>kvs.length<=sizeLine/\(a==sysModules)=false/\∃vs,KV kvs vs/\h.DictOf (bY P w) a vs
 | .dT kvs=>kvs.length<=sizeLine/\(a==sysModules)=false/\∃xs:List (List Key×Addr×Value),
   Paired (fun(p:List Key×V)(q:List Key×Addr×Value)=>p.1=q.1/\H q.2.1=some (.tup (p.1.map kV))/\RelV p.2 q.2.2) kvs xs/\
   ∃o es ep,h.get? a=some o/\o.ExactDict/\o.data=.dict es ep/\es.toList=xs.map (entryOfKey (tupleKind (bY P w)))/\(xs.map (·.1)).Nodup
 | .set S n=>h.SetOf (intKind P w) a S n
 | .ins C dx fs=>H dx=some (.own a)/\fs.length<=1000/\dx≠a/\h.get? a=some (W.instObj C dx)/\
   ∃mA,h.Ns1 dx mA/\(∀f,mM (fs.lookup f) (mA f))/\PySem.Within mA (fs.map (·.1))
 | .own _=>∃o,h.get? a=some o
 | .xd fs=>∃mA,h.Ns1 a mA/\∀f,mM (fs.lookup f) (mA f)
 | .rng lo hi=>∃t u v,h.get? a=some {cls:=.type "range",data:=.fields #[.int lo t,.int hi u,.int 1 v]}
 | .frz o u=>h.get? a=some o/\d3 H h a u
 | .tbl ps=>h.get? a=some {cls:=.none,data:=.fields ps}
 | .met f x=>h.get? a=some (W.methodObj (.ref f) (.ref x))
 | .ext φ=>φ h/\(∃o,h.get? a=some o)/\∀h1 h2:Heap,φ h1->(∀o,h1.get? a=some o->h2.get? a=some o)->φ h2
def HOk(H:Hp)(h:Heap):Prop:=∀a o,H a=some o->d3 P w H h a o
end
section
variable {P:Program}{w:World}{H H':Hp}{h h':Heap}{a:Addr}{o:HO}
theorem d3.lt(x:d3 P w H h a o):a<h.objs.size:=by
 cases o with
 |lst xs=>obtain⟨_,_,_,_,e⟩:=x;exact bj e
 |tup xs=>obtain⟨_,_,_,p⟩:=x;exact p.lt
 |dK kvs=>obtain⟨_,_,_,_,o,_,_,e,_⟩:=x;exact bj e
 |dT kvs=>obtain⟨_,_,_,_,o,_,_,e,_⟩:=x;exact bj e
 |set S n=>obtain⟨o,_,_,_,e,_⟩:=x;exact bj e
 |ins C dx fs=>obtain⟨_,_,_,e,_⟩:=x;exact bj e
 |own y=>obtain⟨_,e⟩:=x;exact bj e
 |xd fs=>obtain⟨_,⟨_,_,_,e,_⟩,_⟩:=x;exact bj e
 |rng lo hi=>obtain⟨_,_,_,e⟩:=x;exact bj e
 |frz ob u=>obtain⟨e,_⟩:=x;exact bj e
 |tbl ps=>exact bj (show h.get? a=some _ from x)
 |met f y=>exact bj (show h.get? a=some _ from x)
 |ext φ=>obtain⟨_,⟨_,e⟩,_⟩:=x;exact bj e
theorem Paired.MF{α β:Type}{F G:α->β->Prop}:∀{l₁:List α}{l₂:List β},Paired F l₁ l₂->(∀a b,F a b->G a b)->Paired G l₁ l₂
 |_,_,.nil,_=>.nil
 |_,_,.cons r t,f=>.cons (f _ _ r) (Paired.MF t f)
theorem d3.mV(x:d3 P w H h a o)(k:∀b u,(b=a\/H b=some (.own a))->h.get? b=some u->h'.get? b=some u)
  (ho:∀b,H b=some (.own a)->H' b=some (.own a)) (ht:∀b xs,H b=some (.tup xs)->H' b=some (.tup xs)):d3 P w H' h' a o:=by
 induction o with
 |lst xs=>obtain⟨z,its,n,r,e⟩:=x;exact⟨z,its,n,r,k _ _ (.inl rfl) e⟩
 |tup xs=>obtain⟨z,its,r,ob,e,c⟩:=x;exact⟨z,its,r,ob,k _ _ (.inl rfl) e,c⟩
 |dK kvs=>obtain⟨z,y,vs,r,ob,es,ep,e,c⟩:=x;exact⟨z,y,vs,r,ob,es,ep,k _ _ (.inl rfl) e,c⟩
 |dT kvs=>obtain⟨z,y,xs,r,ob,es,ep,e,c⟩:=x;exact⟨z,y,xs,Paired.MF r fun p q z=>⟨z.1,ht _ _ z.2.1,z.2.2⟩,ob,es,ep,k _ _ (.inl rfl) e,c⟩
 |set S n=>obtain⟨ob,es,ep,t,e,c⟩:=x;exact⟨ob,es,ep,t,k _ _ (.inl rfl) e,c⟩
 |ins C dx fs=>obtain⟨d,z,ne,e,mA,⟨od,es,ep,e2,c⟩,r⟩:=x;exact⟨ho _ d,z,ne,k _ _ (.inl rfl) e,mA,⟨od,es,ep,k _ _ (.inr d) e2,c⟩,r⟩
 |own y=>obtain⟨ob,e⟩:=x;exact⟨ob,k _ _ (.inl rfl) e⟩
 |xd fs=>obtain⟨mA,⟨od,es,ep,e,c⟩,r⟩:=x;exact⟨mA,⟨od,es,ep,k _ _ (.inl rfl) e,c⟩,r⟩
 |rng lo hi=>obtain⟨t,u,v,e⟩:=x;exact⟨t,u,v,k _ _ (.inl rfl) e⟩
 |frz ob u ih=>obtain⟨e,q⟩:=x;exact⟨k _ _ (.inl rfl) e,ih q⟩
 |tbl ps=>
  have e:h.get? a=some {cls:=.none,data:=.fields ps}:=x;show h'.get? a=some {cls:=.none,data:=.fields ps}
  exact k a _ (.inl rfl) e
 |met f y=>
  have e:h.get? a=some (W.methodObj (.ref f) (.ref y)):=x;show h'.get? a=some (W.methodObj (.ref f) (.ref y))
  exact k a _ (.inl rfl) e
 |ext φ=>obtain⟨p,⟨o,e⟩,st⟩:=x;exact⟨st _ _ p fun o q=>k _ _ (.inl rfl) q,⟨o,k _ _ (.inl rfl) e⟩,st⟩
theorem HOk.lt(x:HOk P w H h)(e:H a=some o):a<h.objs.size:=(x a o e).lt
theorem HOk.fresh(x:HOk P w H h)(e:h.objs.size<=a):H a=none:=by
 cases q:H a with
 |none=>rfl
 |some u=>exact absurd (bz (x.lt q) e) (gd _)
theorem HOk.kept(x:HOk P w H h)(k:∀b u,h.get? b=some u->h'.get? b=some u):HOk P w H h':=fun a o e=>
 (x a o e).mV (fun b u _ q=>k b u q) (fun _ q=>q) fun _ _ q=>q
theorem HOk.laid(x:HOk P w H h)(k:∀b u,h.get? b=some u->h'.get? b=some u)(hp:h.objs.size<=a)(new:d3 P w (upd H a o) h' a o):HOk P w (upd H a o) h':=fun b u e=>by
 have hn:=x.fresh hp;by_cases hb:b=a
 ·subst hb;rw[a7]at e;cases e;exact new
 ·rw[aA hb]at e;exact(x b u e).mV (fun c v _ q=>k c v q) (fun c q=>by rw[aA (aI q hn)];exact q) fun c xs q=>by rw[aA (aI q hn)];exact q
end
def Rd(H:Hp)(a:Addr)(u:HO):Prop:=H a=some u\/∃o,H a=some (.frz o u)
theorem Rd.ok{P:Program}{w:World}{H:Hp}{h:Heap}{a:Addr}{u:HO}(r:Rd H a u)(x:HOk P w H h):d3 P w H h a u:=by
 rcases r with r|⟨o,r⟩
 ·exact x a u r
 ·obtain⟨_,q⟩:=x a _ r;exact q
noncomputable def Mut:Option HO->Prop
 |some (.lst _)=>True
 |some (.dK _)=>True
 |some (.dT _)=>True
 |some (.set _ _)=>True
 |some (.ins _ _ _)=>True
 |some (.ext _)=>True
 |_=>False
section
variable {P:Program}{w:World}{H:Hp}{h h':Heap}{x e:Addr}{o':HO}
theorem HOk.write(ok:HOk P w H h)(mu:Mut (H x))(he:e=x\/H e=some (.own x))(k:∀b u,b≠e->h.get? b=some u->h'.get? b=some u)(ve:∃u,h'.get? e=some u)
  (new:d3 P w (upd H x o') h' x o'):HOk P w (upd H x o') h':=fun b u q=>by
 have Av:∀c y,H c=some (.own y)->c≠x:=fun c y r z=>by subst z;rw[r]at mu;exact mu
 have ntup:∀c xs,H c=some (.tup xs)->c≠x:=fun c xs r z=>by subst z;rw[r]at mu;exact mu
 by_cases hb:b=x
 ·subst hb;rw[a7]at q;cases q;exact new
 ·rw[aA hb]at q;by_cases hbe:b=e
  ·have q':H b=some (.own x):=by
    rcases he with z|z
    ·exact absurd (hbe.trans z) hb
    ·rw[hbe];exact z
   rw[q]at q';cases q';obtain⟨v,hv⟩:=ve;exact⟨v,by rw[hbe];exact hv⟩
  ·refine(ok b u q).mV (fun c v hc r=>k c v ?_ r) (fun c r=>by rw[aA (Av c b r)];exact r) fun c xs r=>by rw[aA (ntup c xs r)];exact r
   rcases hc with rfl|hc
   ·exact hbe
   ·rintro rfl;rcases he with z|z
    ·exact Av c b hc z
    ·rw[hc]at z;cases z;exact hb rfl
end
structure Un(fs ex:List Addr)(H H':Hp)(h h':Heap):Prop where
 keep:∀b o,h.get? b=some o->H b=none->b∉fs->b∉ex->h'.get? b=some o
 slot:∀b o,h.get? b=some o->H b=none->b∈fs->b∉ex->∃sl,h'.get? b=some {o with slots:=sl}
 free:∀b o,h.get? b=some o->H b=none->b∉ex->H' b=none
 there:∀b o,h.get? b=some o->b∉ex->∃o',h'.get? b=some o'
 u6:∀b xs,H b=some (.tup xs)->H' b=some (.tup xs)
 mH:∀b o u,H b=some (.frz o u)->H' b=some (.frz o u)
 rD:∀b ps,H b=some (.tbl ps)->∃more,H' b=some (.tbl (ps++more))
section
variable {fs fs' ex ex':List Addr}{H H1 H2:Hp}{h h1 h2 h':Heap}{a x e:Addr}{o:HO}
theorem Un.any(u:Un fs ex H H1 h h1){b:Addr}{ob:Obj}(q:h.get? b=some ob)(n:H b=none)(hx:b∉ex):∃sl,h1.get? b=some {ob with slots:=sl}:=by
 by_cases hb:b∈fs
 ·exact u.slot b ob q n hb hx
 ·exact⟨ob.slots,u.keep b ob q n hb hx⟩
theorem Un.kept(k:∀b u,h.get? b=some u->h'.get? b=some u):Un fs ex H H h h':=
 ⟨fun b ob q _ _ _=>k b ob q,fun b ob q _ _ _=>⟨ob.slots,k b ob q⟩,fun _ _ _ n _=>n,fun b ob q _=>⟨ob,k b ob q⟩,fun _ _ q=>q,fun _ _ _ q=>q,fun _ ps q=>⟨#[],by rw[q];simp⟩⟩
theorem Un.refl:Un fs ex H H h h:=Un.kept fun _ _ q=>q
theorem Un.laid(k:∀b u,h.get? b=some u->h'.get? b=some u)(hp:h.objs.size<=a)(hn:H a=none):Un fs ex H (upd H a o) h h' where
 keep:=fun b u q _ _ _=>k b u q
 slot:=fun b u q _ _ _=>⟨u.slots,k b u q⟩
 free:=fun b u q n _=>by rw[aA (cf (bz (bj q) hp))];exact n
 there:=fun b u q _=>⟨u,k b u q⟩
 u6:=fun b xs q=>by rw[aA (aI q hn)];exact q
 mH:=fun b u xs q=>by rw[aA (aI q hn)];exact q
 rD:=fun b ps q=>⟨#[],by rw[aA (aI q hn),q];simp⟩
theorem Un.write(mu:Mut (H x))(he:e=x\/H e=some (.own x))(k:∀b u,b≠e->h.get? b=some u->h'.get? b=some u)(ve:∃u,h'.get? e=some u):Un fs ex H (upd H x o) h h':=by
 have hx:∀b,H b=none->b≠x:=fun b n z=>by subst z;rw[n]at mu;exact mu
 have hb:∀b,H b=none->b≠e:=fun b n z=>by
  subst z;rcases he with r|r
  ·exact hx b n r
  ·rw[n]at r;cases r
 have hm:∀b u,H b=some u->¬Mut (some u)->b≠x:=fun b u q nm z=>by subst z;rw[q]at mu;exact nm mu
 refine⟨fun b u q n _ _=>k b u (hb b n) q,fun b u q n _ _=>⟨u.slots,k b u (hb b n) q⟩,fun b u q n _=>by rw[aA (hx b n)];exact n,fun b u q _=>?_,
  fun b xs q=>by rw[aA (hm b _ q fun z=>z)];exact q,fun b u xs q=>by rw[aA (hm b _ q fun z=>z)];exact q,fun b ps q=>⟨#[],by rw[aA (hm b _ q fun z=>z),q];simp⟩⟩
 by_cases hbe:b=e
 ·subst hbe;exact ve
 ·exact⟨u,k b u hbe q⟩
end
def trk(h:Heap)(H:Hp):List Addr:=(List.range h.objs.size).filter fun a=>(H a).isSome
def xF(h:Heap)(H:Hp):Heap:=W.hideAll h (trk h H)
theorem F0(h:Heap)(H:Hp):(xF h H).objs.size=h.objs.size:=W.hideAll_size _ _
theorem IE{h:Heap}{H:Hp}{b:Addr}{o:Obj}(e:h.get? b=some o)(n:H b=none):(xF h H).get? b=some o:=
 W.hideAll_get _ e fun hm=>by have q:(H b).isSome=true:=(bw.mp hm).2;rw[n]at q;simp at q
theorem JY{h:Heap}{H:Hp}{b:Addr}{o:Obj}(e:(xF h H).get? b=some o):h.get? b=some o/\H b=none:=by
 have e':h.get? b=some o:=W.of_hideAll (trk h H) e;refine⟨e',?_⟩;cases q:H b with
 |none=>rfl
 |some x=>have hm:b∈trk h H:=bw.mpr ⟨iq.mpr (bj e'),by simp[q]⟩;have z:(xF h H).get? b=none:=W.hideAll_none (trk h H) hm;rw[z]at e;cases e
structure Mod(K:W.Frag)(mg:Str->Option Value)(base:Heap):Prop where
 kin:K.In base
 glob:base.Ns mainGlobals mg
 blt:∃mb,base.Ns builtinsNs mb/\∀x:Str,x≠ "__name__" ->mb x=bootBuiltins x
 nolimit:base.NoLimit
structure Cx where
 prog:Program
 w:World
 K:W.Frag
 mg:Str->Option Value
 base:Heap
 A:Around
 N:List Str
 s_0:Shared
 H_0:Hp
 env:Env
 outer:List Env
 stack:List Env
 ex:List Addr
 fn:Str->Bool
 calm:Bool
 pn:List (Addr×Obj)
 xe:Value->Shared->Prop
def frs(l:List Env):List Addr:=l.filterMap (·.frame)
abbrev Cx.fs(X:Cx):List Addr:=frs X.outer
noncomputable def Vis(sc:Scope)(x:Str):Prop:=sc.names.lookup x=some .local\/sc.names.lookup x=some .cell\/sc.names.lookup x=some .free
noncomputable def Loc(sc:Scope)(x:Str):Prop:=sc.names.lookup x=some .local\/sc.names.lookup x=some .cell
noncomputable def Look(env:Env)(h:Heap)(m:Str->Option Value)(x:Str)(u:Value):Prop:=
 (env.kindOf x=some .local/\m x=some u)\/((env.kindOf x=some .cell\/env.kindOf x=some .free)/\∃c,env.cells.lookup x=some c/\h.IsCell c (some u))
structure Cx.Ok(X:Cx):Prop where
 mod:Mod X.K X.mg X.base
 kind:X.env.scope.kind=.function
 glob:X.env.globals=mainGlobals
 blt:X.env.builtins=builtinsNs
 above:X.s_0.heap.objs.size<=X.env.locals
 inj:∀x y c,X.env.cells.lookup x=some c->X.env.cells.lookup y=some c->x=y
 has:∀x,(X.env.kindOf x=some .cell\/X.env.kindOf x=some .free)->∃c,X.env.cells.lookup x=some c
 cab:∀x c,X.fn x=true->X.env.cells.lookup x=some c->X.s_0.heap.objs.size<=c
 hd:X.calm=true->X.A.handled=none
 frames:X.A.frames=some X.stack
 stk:X.stack=X.outer\/(X.stack=X.env::X.outer/\X.env.frame=some X.env.locals)
 exf:∀b∈X.ex,b≠X.env.locals/\∀x c,X.env.cells.lookup x=some c->c≠b
 bs:∀b o,X.base.get? b=some o->X.s_0.heap.get? b=some o/\X.H_0 b=none
 bsz:X.base.objs.size<=X.s_0.heap.objs.size
 HN:∀b o,X.base.get? b=some o->b∉X.ex
 BZ:∀b∈X.ex,b∉X.fs
 kK:X.s_0.heap.FunFrames X.base X.outer
 frf:∀b∈X.fs,X.H_0 b=none
structure Inv(X:Cx)(jh:List (Addr×Obj))(σ:List (Option V))(H:Hp)(s:Shared):Prop where
 ok:X.Ok
 os:s.os=X.s_0.os
 bare:AllBare s.gens
 base:Un X.fs X.ex X.H_0 H X.s_0.heap s.heap
 loc:∃m,s.heap.Ns X.env.locals m/\∀(i:Nat)(x:Str)(v:V),X.N[i]? =some x->σ[i]? =some (some v)->Vis X.env.scope x->∃u,RelV v u/\Look X.env s.heap m x u
 cell:∀x c,X.env.cells.lookup x=some c->∃v,s.heap.IsCell c v
 free:H X.env.locals=none
 gU:∀x c,X.env.cells.lookup x=some c->H c=none
 pin:∀p∈X.pn++jh,s.heap.get? p.1=some p.2/\H p.1=none/\p.1≠X.env.locals/\p.1∉X.fs/\∀v,p.2.data≠ .cell v
 hok:HOk X.prog X.w H s.heap
 len:σ.length=X.N.length
section
variable {X:Cx}{jh:List (Addr×Obj)}{σ:List (Option V)}{H H':Hp}{s:Shared}{h':Heap}
theorem Cx.Ok.WX(ok:X.Ok){b:Addr}{o:Obj}(e:X.base.get? b=some o):b∉X.fs:=fun hb=>by have:=(ok.kK.mem hb).1;rw[e]at this;cases this
theorem Inv.bs(I:Inv X jh σ H s):∀b o,X.base.get? b=some o->s.heap.get? b=some o/\H b=none:=fun b o e=>
 ⟨I.base.keep b o (I.ok.bs b o e).1 (I.ok.bs b o e).2 (I.ok.WX e) (I.ok.HN b o e),I.base.free b o (I.ok.bs b o e).1 (I.ok.bs b o e).2 (I.ok.HN b o e)⟩
theorem Inv.bk(I:Inv X jh σ H s):∀b o,X.base.get? b=some o->s.heap.get? b=some o:=fun b o e=>(I.bs b o e).1
theorem Inv.mod(I:Inv X jh σ H s):Mod X.K X.mg X.base:=I.ok.mod
theorem Inv.kIn(I:Inv X jh σ H s):X.K.In s.heap:=I.ok.mod.kin.keeps I.bk
theorem Inv.lt(I:Inv X jh σ H s):X.env.locals<s.heap.objs.size:=let⟨_,hn,_⟩:=I.loc;hn.lt
theorem Inv.sz(I:Inv X jh σ H s):X.s_0.heap.objs.size<=s.heap.objs.size:=df I.ok.above (le_of_lt I.lt)
theorem Inv.WW(I:Inv X jh σ H s){a:Addr}(h:s.heap.objs.size<=a):a∉X.fs:=fun hb=>by obtain⟨_,o,ho,_⟩:=I.ok.kK.mem hb;exact absurd (bz (bj ho) (df I.sz h)) (gd _)
theorem Inv.cne(I:Inv X jh σ H s):∀x c,X.env.cells.lookup x=some c->c≠X.env.locals:=fun x c e z=>by obtain⟨v,o,ho,hd⟩:=I.cell x c e;obtain⟨m,⟨o',es,ep,rf,vm,_⟩,_⟩:=I.loc;rw[z,rf]at ho;cases ho;rw[vm]at hd;cases hd
theorem Inv.kK(I:Inv X jh σ H s):s.heap.FunFrames X.base X.outer:=by
 have all:∀(l:List Env),(∀b∈frs l,b∈X.fs)->X.s_0.heap.FunFrames X.base l->s.heap.FunFrames X.base l:=by
  intro l;induction l with
  |nil=>intro _ _;trivial
  |cons env r ih=>
   intro hs hl;obtain⟨hk,⟨L,o,hf,hn,ho,hd⟩,hr⟩:=hl;have hL:L∈X.fs:=hs L (by unfold frs;rw[fg,hf];exact bb);obtain⟨sl,e⟩:=I.base.slot L o ho (I.ok.frf L hL) hL fun z=>I.ok.BZ L z hL
   exact⟨hk,⟨L,_,hf,hn,e,hd⟩,ih (fun b hb=>hs b (by unfold frs;rw[fg,hf];exact ar _ hb)) hr⟩
 exact all X.outer (fun _ hb=>hb) I.ok.kK
theorem Inv.stack(I:Inv X jh σ H s):s.heap.FunFrames X.base X.stack:=by
 rcases I.ok.stk with e|⟨e,hf⟩
 ·rw[e];exact I.kK
 ·rw[e];obtain⟨m,hn,_⟩:=I.loc;refine .cons (by rw[I.ok.kind];decide) hf hn ?_ I.kK;exact Heap.get?_none_of_le (df I.ok.bsz I.ok.above)
theorem Inv.rX(I:Inv X jh σ H s):∀b∈frs X.stack,b∈X.env.locals::X.fs:=fun b hb=>by
 rcases I.ok.stk with e|⟨e,hf⟩
 ·rw[e]at hb;exact ar _ hb
 ·rw[e]at hb;unfold frs at hb;rw[fg,hf]at hb;exact hb
theorem Inv.wN(I:Inv X jh σ H s):∀b∈frs X.stack,H b=none:=fun b hb=>by
 rcases ao.mp (I.rX b hb)with e|hb
 ·rw[e];exact I.free
 ·obtain⟨_,o,ho,_⟩:=I.ok.kK.mem hb;exact I.base.free b o ho (I.ok.frf b hb) fun z=>I.ok.BZ b z hb
theorem Inv.step{g':Array GenState}{t':Nat}{d':Drawn}{ch:List Addr}(I:Inv X jh σ H s)
  (ud:∀b∈ch,(b∈X.ex\/X.s_0.heap.objs.size<=b)/\b≠X.env.locals/\(∀x c,X.env.cells.lookup x=some c->c≠b)/\∀p∈X.pn++jh,p.1≠b)
  (keep:∀b o,b≠X.env.locals->b∉X.fs->b∉ch->s.heap.get? b=some o->H b=none->h'.get? b=some o)
  (slot:∀b o,b≠X.env.locals->b∈X.fs->b∉ch->s.heap.get? b=some o->H b=none->∃sl,h'.get? b=some {o with slots:=sl}) (free:∀b o,b∉ch->s.heap.get? b=some o->H b=none->H' b=none)
  (there:∀b o,b∉ch->s.heap.get? b=some o->∃o',h'.get? b=some o')
  (u6:∀b xs,H b=some (.tup xs)->H' b=some (.tup xs)) (mH:∀b o u,H b=some (.frz o u)->H' b=some (.frz o u)) (rD:∀b ps,H b=some (.tbl ps)->∃more,H' b=some (.tbl (ps++more)))
  (ns:∀m,s.heap.Ns X.env.locals m->h'.Ns X.env.locals m) (hok:HOk X.prog X.w H' h') (hg:AllBare g'):
  Inv X jh σ H' {s with heap:=h',gens:=g',drawn:=d',toks:=t'}:=by
 have neL:∀b o,X.s_0.heap.get? b=some o->b≠X.env.locals:=fun b o e=>cf (bz (bj e) I.ok.above)
 have neC:∀b o,X.s_0.heap.get? b=some o->b∉X.ex->b∉ch:=fun b o e hx hb=>by
  rcases(ud b hb).1 with z|z
  ·exact hx z
  ·exact absurd (bz (bj e) z) (gd _)
 have xn:∀x c,X.env.cells.lookup x=some c->∀v,s.heap.IsCell c v->h'.IsCell c v:=fun x c e v ⟨o,ho,hd⟩=>by
  have yf:c∉ch:=fun z=>(ud c z).2.2.1 x c e rfl
  by_cases hc:c∈X.fs
  ·obtain⟨sl,q⟩:=slot c o (I.cne x c e) hc yf ho (I.gU x c e);exact⟨_,q,hd⟩
  ·exact⟨o,keep c o (I.cne x c e) hc yf ho (I.gU x c e),hd⟩
 refine⟨I.ok,I.os,hg,⟨fun b o e n hb hx=>?_,fun b o e n hb hx=>?_,fun b o e n hx=>?_,fun b o e hx=>?_,fun b xs e=>u6 b xs (I.base.u6 b xs e),fun b o xs e=>mH b o xs (I.base.mH b o xs e),fun b ps e=>?_⟩,?_,fun x c e=>?_,?_,fun x c e=>?_,fun p hp=>?_,hok,I.len⟩
 ·exact keep b o (neL b o e) hb (neC b o e hx) (I.base.keep b o e n hb hx) (I.base.free b o e n hx)
 ·obtain⟨sl,e1⟩:=I.base.slot b o e n hb hx;obtain⟨sl',e2⟩:=slot b _ (neL b o e) hb (neC b o e hx) e1 (I.base.free b o e n hx);exact⟨sl',e2⟩
 ·obtain⟨o',e1⟩:=I.base.there b o e hx;exact free b o' (neC b o e hx) e1 (I.base.free b o e n hx)
 ·obtain⟨o',e1⟩:=I.base.there b o e hx;exact there b o' (neC b o e hx) e1
 ·obtain⟨m1,e1⟩:=I.base.rD b ps e;obtain⟨m2,e2⟩:=rD b _ e1;exact⟨m1++m2,by rw[e2,Array.append_assoc]⟩
 ·obtain⟨m,hn,hl⟩:=I.loc;refine⟨m,ns m hn,fun i x v e1 e2 e3=>?_⟩;obtain⟨u,r,l⟩:=hl i x v e1 e2 e3;refine⟨u,r,?_⟩;rcases l with l|⟨k,c,e,z⟩
  ·exact .inl l
  ·exact .inr ⟨k,c,e,xn x c e _ z⟩
 ·obtain⟨v,z⟩:=I.cell x c e;exact⟨v,xn x c e v z⟩
 ·obtain⟨m,⟨o,_,_,ho,_⟩,_⟩:=I.loc;exact free _ o (fun z=>(ud _ z).2.1 rfl) ho I.free
 ·obtain⟨v,o,ho,hd⟩:=I.cell x c e;exact free c o (fun z=>(ud c z).2.2.1 x c e rfl) ho (I.gU x c e)
 ·obtain⟨e,n,ne,nf,d⟩:=I.pin p hp;have yf:p.1∉ch:=fun z=>(ud p.1 z).2.2.2 p hp rfl
  exact⟨keep p.1 p.2 ne nf yf e n,free p.1 p.2 yf e n,ne,nf,d⟩
theorem Inv.un{t':Nat}(I:Inv X jh σ H s)(u:Un X.fs [] H H' s.heap h')(hok:HOk X.prog X.w H' h'):Inv X jh σ H' {s with heap:=h',toks:=t'}:=by
 obtain⟨m,⟨o,es,ep,ho,r⟩,_⟩:=id I.loc;obtain⟨sl,hL⟩:=u.any ho I.free (by simp);exact I.step (g':=s.gens) (d':=s.drawn) (ch:=[]) (fun _ z=>nomatch z) (fun b o _ hb _ e n=>u.keep b o e n hb (by simp)) (fun b o _ hb _ e n=>u.slot b o e n hb (by simp)) (fun b o _ e n=>u.free b o e n (by simp)) (fun b o _ e=>u.there b o e (by simp)) u.u6 u.mH u.rD (fun m' hm=>by
  obtain⟨o',sv,sx,rf,r'⟩:=hm;rw[ho]at rf;cases rf;exact⟨_,sv,sx,hL,r'⟩) hok I.bare
theorem Inv.call{g':Array GenState}{t':Nat}{d':Drawn}{ch:List Addr}(I:Inv X jh σ H s)(u:Un (frs X.stack) ch H H' s.heap h')(hok:HOk X.prog X.w H' h')(hg:AllBare g')
  (ud:∀b∈ch,(b∈X.ex\/X.s_0.heap.objs.size<=b)/\b≠X.env.locals/\(∀x c,X.env.cells.lookup x=some c->c≠b)/\∀p∈X.pn++jh,p.1≠b):
  Inv X jh σ H' {s with heap:=h',gens:=g',drawn:=d',toks:=t'}:=by
 obtain⟨m,⟨o,es,ep,ho,r⟩,_⟩:=id I.loc;obtain⟨sl,hL⟩:=u.any ho I.free fun z=>(ud _ z).2.1 rfl
 exact I.step (ch:=ch) ud (fun b o hL hb hc e n=>u.keep b o e n (fun z=>(ao.mp (I.rX b z)).elim hL hb) hc) (fun b o _ _ hc e n=>u.any e n hc) (fun b o hc e n=>u.free b o e n hc) (fun b o hc e=>u.there b o e hc) u.u6 u.mH u.rD (fun m' hm=>by
  obtain⟨o',sv,sx,rf,r'⟩:=hm;rw[ho]at rf;cases rf;exact⟨_,sv,sx,hL,r'⟩) hok hg
theorem Inv.turned{t':Nat}{it:Addr}(I:Inv X jh σ H s)(k:∀b o,b≠it->s.heap.get? b=some o->h'.get? b=some o)(hn:H it=none)(hL:it≠X.env.locals)
  (h1:it∈X.ex\/X.s_0.heap.objs.size<=it) (h2:∀x c,X.env.cells.lookup x=some c->c≠it) (h3:∀p∈X.pn++jh,p.1≠it):Inv X jh σ H {s with heap:=h',toks:=t'}:=by
 have Aw:∀b u,H b=some u->b≠it:=fun b u e z=>by rw[z,hn]at e;cases e
 refine I.step (g':=s.gens) (d':=s.drawn) (ch:=[it]) (fun b hb=>?_) (fun b o _ _ hc e _=>k b o (fun z=>hc (by simp[z])) e) (fun b o _ _ hc e _=>⟨o.slots,k b o (fun z=>hc (by simp[z])) e⟩) (fun _ _ _ _ n=>n)
  (fun b o hc e=>⟨o,k b o (fun z=>hc (by simp[z])) e⟩) (fun _ _ e=>e) (fun _ _ _ e=>e) (fun b ps e=>⟨#[],by rw[e];simp⟩) (fun m hm=>?_) (fun b u e=>?_) I.bare
 ·have e:b=it:=by simpa using hb
  subst e;exact⟨h1,hL,h2,h3⟩
 ·obtain⟨o,es,ep,ho,r⟩:=hm;exact⟨o,es,ep,k _ o (Ne.symm hL) ho,r⟩
 ·refine(I.hok b u e).mV (fun c v hc q=>k c v ?_ q) (fun _ q=>q) fun _ _ q=>q
  rcases hc with z|z
  ·rw[z];exact Aw b u e
  ·exact Aw c _ z
theorem Inv.tok(I:Inv X jh σ H s)(t:Nat):Inv X jh σ H {s with toks:=t}:=I.un (h':=s.heap) (t':=t) Un.refl I.hok
theorem Inv.kept{t':Nat}(I:Inv X jh σ H s)(k:∀b u,s.heap.get? b=some u->h'.get? b=some u):Inv X jh σ H {s with heap:=h',toks:=t'}:=I.un (Un.kept k) (I.hok.kept k)
theorem Inv.laid{a:Addr}{o:HO}{t':Nat}(I:Inv X jh σ H s)(k:∀b u,s.heap.get? b=some u->h'.get? b=some u)(hp:s.heap.objs.size<=a)(new:d3 X.prog X.w (upd H a o) h' a o):
  Inv X jh σ (upd H a o) {s with heap:=h',toks:=t'}:=I.un (Un.laid k hp (I.hok.fresh hp)) (I.hok.laid k hp new)
theorem Inv.write{x e:Addr}{o:HO}{t':Nat}(I:Inv X jh σ H s)(mu:Mut (H x))(he:e=x\/H e=some (.own x))(k:∀b u,b≠e->s.heap.get? b=some u->h'.get? b=some u)(ve:∃u,h'.get? e=some u)
  (new:d3 X.prog X.w (upd H x o) h' x o):Inv X jh σ (upd H x o) {s with heap:=h',toks:=t'}:=I.un (Un.write mu he k ve) (I.hok.write mu he k ve new)
theorem Inv.weak{σ':List (Option V)}(I:Inv X jh σ H s)(hl:σ'.length=σ.length)(w:∀(i:Nat) v,σ'[i]? =some (some v)->σ[i]? =some (some v)):Inv X jh σ' H s:=
 ⟨I.ok,I.os,I.bare,I.base,let⟨m,hn,zc⟩:=I.loc;⟨m,hn,fun i x v e1 e2 e3=>zc i x v e1 (w i v e2) e3⟩,I.cell,I.free,I.gU,I.pin,I.hok,hl.trans I.len⟩
theorem Inv.CL{wm:List (Addr×Obj)}(I:Inv X jh σ H s)(h:∀p∈wm,s.heap.get? p.1=some p.2/\H p.1=none/\p.1≠X.env.locals/\p.1∉X.fs/\∀v,p.2.data≠ .cell v):Inv X wm σ H s:=
 ⟨I.ok,I.os,I.bare,I.base,I.loc,I.cell,I.free,I.gU,fun p hp=>(ay.mp hp).elim (fun z=>I.pin p (cc _ z)) (h p),I.hok,I.len⟩
theorem sV{N:List Str}(hN:N.Nodup){i j:Nat}{x:Str}(a:N[i]? =some x)(b:N[j]? =some x):i=j:=by obtain⟨h1,e1⟩:=ak.mp a;obtain⟨h2,e2⟩:=ak.mp b;exact(List.getElem_inj hN).mp (e1.trans e2.symm)
theorem oS{M:Model}{A:Around}{E:Value->Shared->Prop}{i:Nat}{x:Str}{v:V}{u:Value}{Q:Unit->Shared->Prop}(I:Inv X jh σ H s)(hN:X.N.Nodup)(hi:X.N[i]? =some x)(hx:Loc X.env.scope x)(r:RelV v u)
  (h:∀s',Inv X jh (σ.set i (some v)) H s'->(∃a,Heap.SameBut a s.heap s'.heap/\(a=X.env.locals\/X.env.cells.lookup x=some a))->Q () s') (hf:X.fn x=true\/X.env.scope.names.lookup x=some .local:=by first|exact .inl rfl|exact .inr rfl|assumption):wpAny M A (storeName X.env x u) Q E s:=by
 obtain⟨m,hn,hl⟩:=id I.loc;have pj:(X.env.scope.kind== .class||(X.env.scope.kind== .module&& X.env.locals !=X.env.globals))=false:=by rw[I.ok.kind];rfl
 have hiσ:i<σ.length:=by rw[I.len];exact(ak.mp hi).1
 have cne:=I.cne;have qk:∀{a:Addr}{h':Heap},(∃o,s.heap.get? a=some o/\H a=none)->Heap.SameBut a s.heap h'->HOk X.prog X.w H h':=fun{a h'} ha hs b ob e=>by
  obtain⟨_,_,kq⟩:=ha;refine(I.hok b ob e).mV (fun c w' hc q=>(hs.2 c ?_).trans q) (fun _ q=>q) fun _ _ q=>q
  rintro rfl;rcases hc with rfl|hc
  ·rw[kq]at e;cases e
  ·rw[kq]at hc;cases hc
 rcases hx with hk|hk
 ·refine wpAny_storeName_local hk hn (fun h' pd hs=>?_) pj;obtain⟨oL,_,_,Bn,_⟩:=id hn;refine h _ ⟨I.ok,I.os,I.bare,⟨fun b o e n hb hx=>?_,fun b o e n hb hx=>?_,I.base.free,fun b o e hx=>?_,I.base.u6,I.base.mH,I.base.rD⟩,⟨_,pd,fun j y v' e1 e2 e3=>?_⟩,fun y c e=>?_,I.free,I.gU,fun p hp=>?_,qk ⟨oL,Bn,I.free⟩ hs,by simpa using I.len⟩ ⟨_,hs,.inl rfl⟩
  ·exact(hs.2 b (cf (bz (bj e) I.ok.above))).trans (I.base.keep b o e n hb hx)
  ·obtain⟨sl,e1⟩:=I.base.slot b o e n hb hx;exact⟨sl,(hs.2 b (cf (bz (bj e) I.ok.above))).trans e1⟩
  ·obtain⟨o',e1⟩:=I.base.there b o e hx;exact⟨o',(hs.2 b (cf (bz (bj e) I.ok.above))).trans e1⟩
  ·by_cases hj:j=i
   ·subst hj;rw[hi]at e1;cases e1;rw[List.getElem?_set_self hiσ]at e2;cases e2;exact⟨u,r,.inl ⟨hk,by simp⟩⟩
   ·rw[List.getElem?_set_ne (Ne.symm hj)]at e2;obtain⟨u',r',q⟩:=hl j y v' e1 e2 e3;refine⟨u',r',?_⟩;rcases q with⟨k,e⟩|⟨k,c,e,z⟩
    ·refine .inl ⟨k,?_⟩;have:y≠x:=fun e=>hj (sV hN e1 (e▸hi))
     simp[this,e]
    ·exact .inr ⟨k,c,e,z.sameBut hs (cne y c e)⟩
  ·obtain⟨w',z⟩:=I.cell y c e;exact⟨w',z.sameBut hs (cne y c e)⟩
  ·obtain⟨e,n,ne,nf,d⟩:=I.pin p hp;exact⟨(hs.2 p.1 ne).trans e,n,ne,nf,d⟩
 ·have Ca:X.fn x=true:=by
   rcases hf with z|z
   ·exact z
   ·rw[z]at hk;cases hk
  obtain⟨c,hc⟩:=I.ok.has x (.inl hk);obtain⟨w',z⟩:=I.cell x c hc;refine wpAny_storeName_cell I.ok.kind hk hc z (fun h' ue hs=>?_);obtain⟨oc,hoc,hocd⟩:=id z;refine h {s with heap:=h'} ⟨I.ok,I.os,I.bare,⟨fun b o e n hb hx=>?_,fun b o e n hb hx=>?_,I.base.free,fun b o e hx=>?_,I.base.u6,I.base.mH,I.base.rD⟩,⟨m,hn.sameBut hs (Ne.symm (cne x c hc)),fun j y v' e1 e2 e3=>?_⟩,fun y c' e=>?_,I.free,I.gU,fun p hp=>?_,qk ⟨oc,hoc,I.gU x c hc⟩ hs,by simpa using I.len⟩ ⟨c,hs,.inr hc⟩
  ·exact(hs.2 b (cf (bz (bj e) (I.ok.cab x c Ca hc)))).trans (I.base.keep b o e n hb hx)
  ·obtain⟨sl,e1⟩:=I.base.slot b o e n hb hx;exact⟨sl,(hs.2 b (cf (bz (bj e) (I.ok.cab x c Ca hc)))).trans e1⟩
  ·obtain⟨o',e1⟩:=I.base.there b o e hx;exact⟨o',(hs.2 b (cf (bz (bj e) (I.ok.cab x c Ca hc)))).trans e1⟩
  ·by_cases hj:j=i
   ·subst hj;rw[hi]at e1;cases e1;rw[List.getElem?_set_self hiσ]at e2;cases e2;exact⟨u,r,.inr ⟨.inl hk,c,hc,ue⟩⟩
   ·rw[List.getElem?_set_ne (Ne.symm hj)]at e2;obtain⟨u',r',q⟩:=hl j y v' e1 e2 e3;refine⟨u',r',?_⟩;rcases q with q|⟨k,c',e,z'⟩
    ·exact .inl q
    ·refine .inr ⟨k,c',e,z'.sameBut hs ?_⟩;rintro rfl;exact hj (sV hN e1 (I.ok.inj _ _ _ e hc▸hi))
  ·by_cases hcc:c'=c
   ·subst hcc;exact⟨_,ue⟩
   ·obtain⟨w2,z2⟩:=I.cell y c' e;exact⟨w2,z2.sameBut hs hcc⟩
  ·obtain⟨e,n,ne,nf,d⟩:=I.pin p hp;refine⟨(hs.2 p.1 ?_).trans e,n,ne,nf,d⟩;intro q;rw[q,hoc]at e;have q':oc=p.2:=Option.some.inj e;exact d w' (by rw[<- q'];exact hocd)
theorem rW{M:Model}{A:Around}{E:Value->Shared->Prop}{i:Nat}{x:Str}{v:V}{u:Value}{Q:Unit->Shared->Prop}(I:Inv X jh σ H s)(hN:X.N.Nodup)(hi:X.N[i]? =some x)(hx:Loc X.env.scope x)(r:RelV v u)
  (h:∀s',Inv X jh (σ.set i (some v)) H s'->Q () s') (hf:X.fn x=true\/X.env.scope.names.lookup x=some .local:=by first|exact .inl rfl|exact .inr rfl|assumption):wpAny M A (storeName X.env x u) Q E s:=
 oS I hN hi hx r (fun s' I' _=>h s' I') hf
theorem Inv.DE{s':Shared}{ch:List Addr}(I:Inv X jh σ H s)(ho:s'.os=s.os)(u:Un (frs X.stack) ch H H' s.heap s'.heap)(hok:HOk X.prog X.w H' s'.heap)(hg:AllBare s'.gens)
  (ud:∀b∈ch,(b∈X.ex\/X.s_0.heap.objs.size<=b)/\b≠X.env.locals/\(∀x c,X.env.cells.lookup x=some c->c≠b)/\∀p∈X.pn++jh,p.1≠b):Inv X jh σ H' s':=by
 obtain⟨h',g',d',t',o'⟩:=s';have e:o'=s.os:=ho;subst e;exact I.call (g':=g') (t':=t') (d':=d') u hok hg ud
end
abbrev XK:=Value->Option Addr->Hp->Prop
abbrev St:=List (Option V)
abbrev VK:=V->Hp->Prop
abbrev TE:=St->Hp->VK->Prop
abbrev TT:=St->Hp->(Bool->Hp->Prop)->Prop
abbrev TA:=St->Hp->(List V->Hp->Prop)->Prop
structure Ends where
 nx:St->Hp->Prop
 rt:VK
 bk:St->Hp->Prop:=fun _ _=>False
 ct:St->Hp->Prop:=fun _ _=>False
abbrev TS:=Ends->St->Hp->Prop
noncomputable def EP(X:Cx)(jh:List (Addr×Obj))(σ:St)(Q:VK)(u:Value)(s':Shared):Prop:=∃v H',Inv X jh σ H' s'/\RelV v u/\Q v H'
noncomputable def TP(X:Cx)(jh:List (Addr×Obj))(σ:St)(Q:Bool->Hp->Prop)(b:Bool)(s':Shared):Prop:=∃H',Inv X jh σ H' s'/\Q b H'
noncomputable def AP(X:Cx)(jh:List (Addr×Obj))(σ:St)(Q:List V->Hp->Prop)(us:List Value)(s':Shared):Prop:=∃vs H',Inv X jh σ H' s'/\Vals vs us/\Q vs H'
noncomputable def SP(X:Cx)(jh:List (Addr×Obj))(D:Ends)(f:Flow)(s':Shared):Prop:=
 match f with
 | .next=>∃σ' H',Inv X jh σ' H' s'/\D.nx σ' H'
 | .brk=>∃σ' H',Inv X jh σ' H' s'/\D.bk σ' H'
 | .cont=>∃σ' H',Inv X jh σ' H' s'/\D.ct σ' H'
 | .ret u=>∃v σ' H',Inv X jh σ' H' s'/\RelV v u/\D.rt v H'
noncomputable def PE(X:Cx)(e:Expr)(t:TE):Prop:=
 ∀(jh:List (Addr×Obj))(s:Shared)(σ:St)(H:Hp)(Q:VK),Inv X jh σ H s->t σ H Q->wpAny (model X.prog X.w) X.A (eval e X.env) (EP X jh σ Q) X.xe s
noncomputable def PT(X:Cx)(e:Expr)(t:TT):Prop:=
 ∀(jh:List (Addr×Obj))(s:Shared)(σ:St)(H:Hp)(Q:Bool->Hp->Prop),Inv X jh σ H s->t σ H Q->wpAny (model X.prog X.w) X.A (isTrue e X.env (eval e X.env)) (TP X jh σ Q) X.xe s
noncomputable def PW(X:Cx)(e:Expr)(t:TT):Prop:=
 ∀(mm:Sem Value)(jh:List (Addr×Obj))(s:Shared)(σ:St)(H:Hp)(Q:Bool->Hp->Prop),Inv X jh σ H s->t σ H Q->wpAny (model X.prog X.w) X.A (isTrue e X.env mm) (TP X jh σ Q) X.xe s
theorem PW.pt{X:Cx}{e:Expr}{t:TT}(h:PW X e t):PT X e t:=h _
noncomputable def PA(X:Cx)(es:List Expr)(t:TA):Prop:=
 ∀(pos:Pos)(jh:List (Addr×Obj))(s:Shared)(σ:St)(H:Hp)(Q:List V->Hp->Prop),Inv X jh σ H s->t σ H Q->wpAny (model X.prog X.w) X.A (spliced (backTo pos (starEach es X.env))) (AP X jh σ Q) X.xe s
noncomputable def PS(X:Cx)(st:Stmt)(t:TS):Prop:=
 ∀(jh:List (Addr×Obj))(s:Shared)(σ:St)(H:Hp)(D:Ends),Inv X jh σ H s->t D σ H->wpAny (model X.prog X.w) X.A (exec st X.env) (SP X jh D) X.xe s
noncomputable def PSs(X:Cx)(st:List Stmt)(t:TS):Prop:=
 ∀(jh:List (Addr×Obj))(s:Shared)(σ:St)(H:Hp)(D:Ends),Inv X jh σ H s->t D σ H->wpAny (model X.prog X.w) X.A (execs st X.env) (SP X jh D) X.xe s
theorem thn{α:Type}{t:Sem α}{Q Q':α->Shared->Prop}{M:Model}{A:Around}{E:Value->Shared->Prop}{s:Shared}(h:wpAny M A t Q E s)(hQ:∀a s,Q a s->Q' a s):wpAny M A t Q' E s:=wpAny_mono h hQ fun _ _ x=>x
section
variable {X:Cx}
def GG(i:Nat):TE:=fun σ H Q=>∃v,σ[i]? =some (some v)/\Q v H
def tC(v:V):TE:=fun _ H Q=>Q v H
theorem GX{i:Nat}{x:Str}{pos:Pos}(hN:X.N[i]? =some x)(hv:Vis X.env.scope x)(hd:(x==("__debug__" : Str))=false:=by decide)(nj:(x==("__classdict__" : Str))=false:=by decide):PE X (.Name x pos) (GG i):=by
 intro jh s σ H Q I h;obtain⟨v,e,h⟩:=h;obtain⟨m,hn,hl⟩:=I.loc;obtain⟨u,r,l⟩:=hl i x v hN e hv;have fin:EP X jh σ Q u s:=⟨v,H,I,r,h⟩;rcases l with⟨hk,hm⟩|⟨hk,c,hc,ny⟩
 ·exact wpAny_Name (wpAny_loadName_local I.ok.kind hk hn hm fin) hd
 ·rcases hk with hk|hk
  ·exact wpAny_Name (wpAny_loadName_cell I.ok.kind hk hc ny fin) hd
  ·exact wpAny_Name (wpAny_loadName_free I.ok.kind hk hc ny fin nj) hd
theorem aL{i j pos}:PE X (.Constant (.int i) j pos) (tC (.int i)):=fun _ _ _ H _ I h=>wpAny_Constant_int ⟨.int i,H,I.tok _,⟨_,rfl⟩,h⟩
theorem jQ{b j pos}:PE X (.Constant (.bool b) j pos) (tC (.bl b)):=fun _ _ _ H _ I h=>Constant_bool ⟨.bl b,H,I,rfl,h⟩
theorem M9{j pos}:PE X (.Constant .none j pos) (tC .non):=fun _ _ _ H _ I h=>Constant_none ⟨.non,H,I,rfl,h⟩
def Gl(X:Cx)(x:Str):Prop:=X.env.kindOf x=some .globalImplicit
theorem jF{E:Value->Shared->Prop}{jh:List (Addr×Obj)}{s:Shared}{σ:St}{H:Hp}{x:Str}{u:Value}{pos:Pos}{Q:Value->Shared->Prop}(I:Inv X jh σ H s)(hg:Gl X x)(hm:X.mg x=some u)(h:Q u s)
  (hd:(x==("__debug__" : Str))=false:=by decide):wpAny (model X.prog X.w) X.A (eval (.Name x pos) X.env) Q E s:=
 Calls.Name_function_global I.ok.kind hg (Calls.loadGlobal_global (by rw[I.ok.glob];exact I.mod.glob.keeps I.bk) hm h) hd
theorem kH{E:Value->Shared->Prop}{jh:List (Addr×Obj)}{s:Shared}{σ:St}{H:Hp}{x:Str}{u:Value}{pos:Pos}{Q:Value->Shared->Prop}(I:Inv X jh σ H s)(hg:Gl X x)(hm:X.mg x=none)(hv:bootBuiltins x=some u)(h:Q u s)
  (hn:x≠ "__name__" :=by decide) (hd:(x==("__debug__" : Str))=false:=by decide):wpAny (model X.prog X.w) X.A (eval (.Name x pos) X.env) Q E s:=by
 obtain⟨mb,h1,h2⟩:=I.mod.blt;exact Calls.Name_function_global I.ok.kind hg (Calls.loadGlobal_builtin (by rw[I.ok.glob];exact I.mod.glob.keeps I.bk) hm (by rw[I.ok.blt];exact h1.keeps I.bk) ((h2 x hn).trans hv) h) hd
theorem CO{x:Str}{v:V}{u:Value}{pos:Pos}(hg:Gl X x)(hm:X.mg x=some u)(r:RelV v u)(hd:(x==("__debug__" : Str))=false:=by decide):PE X (.Name x pos) (tC v):=
 fun _ _ _ H _ I h=>jF I hg hm ⟨v,H,I,r,h⟩ hd
variable {a b:Expr}{ta tb:TE}{pos:Pos}
noncomputable def PC(X:Cx)(op:CmpOp)(a b:Expr)(t:TE):Prop:=
 ∀(jh:List (Addr×Obj))(s:Shared)(σ:St)(H:Hp)(Q:VK),Inv X jh σ H s->t σ H Q ->
  wpAny (model X.prog X.w) X.A (eval a X.env) (fun v s₁=>wpAny (model X.prog X.w) X.A (eval b X.env) (fun u s₂=>wpAny (model X.prog X.w) X.A (compareOp op v u) (EP X jh σ Q) X.xe s₂) X.xe s₁) X.xe s
def tB(t:TE):TT:=fun σ H Q=>t σ H fun x H1=>∃c,x=.bl c/\Q c H1
theorem fD{op:CmpOp}{t:TE}(h:PC X op a b t)(h1:behindInMarks op b=false:=by first|exact RS _ (by decide) (by decide)|rfl):PT X (.Compare a [op] [b] pos) (tB t):=by intro jh s σ H Q I hw;refine wpAny_isTrue_Compare1 (thn (h jh s σ H _ I hw) fun v s1 h1=>thn h1 fun u s2 h2=>thn h2 fun c s3 ⟨x,H1,I1,r1,q1⟩=>?_) h1;obtain⟨d,rfl,q⟩:=q1;cases r1;exact wpAny_truthy_bool ⟨H1,I1,q⟩
theorem iE{e:Expr}{t:TE}(h:PE X e t)(he:∀mm,isTrue e X.env mm=(do let v<- mm;standAt e.pos;holding [v] (truthy v)):=by intro _;rfl):PT X e (tB t):=by intro jh s σ H Q I hw;refine isTrue_plain (thn (h jh s σ H _ I hw) fun v s1 ⟨x,H1,I1,r1,q1⟩=>?_) (he _);obtain⟨d,rfl,q⟩:=q1;cases r1;exact wpAny_truthy_bool ⟨H1,I1,q⟩
variable {tA tB':TT}{rest:List Expr}
noncomputable def SY(t u:TT):TT:=fun σ H Q=>t σ H fun c H1=>if c=true then u σ H1 Q else Q false H1
noncomputable def tOr(t u:TT):TT:=fun σ H Q=>t σ H fun c H1=>if c=true then Q true H1 else u σ H1 Q
def SN(t:TT):TT:=fun σ H Q=>t σ H fun c H1=>Q (!c) H1
theorem mY(ha:PT X a tA):PW X (.BoolOp .And [a] pos) tA:=by
 intro wh jh s σ H Q I h;refine isTrue_and (thn (ha jh s σ H Q I h) fun c s1 e=>?_);cases c with
 |true=>exact isTrue_and_nil e
 |false=>exact e
theorem sM(ha:PT X a tA):PW X (.BoolOp .Or [a] pos) tA:=by
 intro wh jh s σ H Q I h;refine isTrue_or (thn (ha jh s σ H Q I h) fun c s1 e=>?_);cases c with
 |false=>exact isTrue_or_nil e
 |true=>exact e
theorem p8(ha:PT X a tA)(hb:PW X (.BoolOp .And (b::rest) pos) tB'):PW X (.BoolOp .And (a::b::rest) pos) (SY tA tB'):=by
 intro wh jh s σ H Q I h;refine isTrue_and (thn (ha jh s σ H _ I h) fun c s1 ⟨H1,I1,q1⟩=>?_);cases c with
 |true=>exact hb wh jh s1 σ H1 Q I1 q1
 |false=>exact⟨H1,I1,q1⟩
theorem yK(ha:PT X a tA)(hb:PW X (.BoolOp .Or (b::rest) pos) tB'):PW X (.BoolOp .Or (a::b::rest) pos) (tOr tA tB'):=by
 intro wh jh s σ H Q I h;refine isTrue_or (thn (ha jh s σ H _ I h) fun c s1 ⟨H1,I1,q1⟩=>?_);cases c with
 |true=>exact⟨H1,I1,q1⟩
 |false=>exact hb wh jh s1 σ H1 Q I1 q1
theorem GU(ha:PT X a tA):PT X (.UnaryOp .Not a pos) (SN tA):=by intro jh s σ H Q I h;exact isTrue_not (ha jh s σ H (fun c H1=>Q (!c) H1) I h)
noncomputable def NQ(ta tb:TE):TE:=fun σ H Q=>ta σ H fun x H1=>∃c,x=.bl c/\if c=true then tb σ H1 Q else Q (.bl false) H1
def NJ(ta:TE):TE:=fun σ H Q=>ta σ H fun x H1=>∃c,x=.bl c/\Q (.bl (!c)) H1
theorem M7{op}{t:TE}(h:PE X a t):PE X (.BoolOp op [a] pos) t:=fun jh s σ H Q I hw=>BoolOp_one (h jh s σ H Q I hw)
theorem HF(ha:PE X a ta)(hb:PE X (.BoolOp .And (b::rest) pos) tb):PE X (.BoolOp .And (a::b::rest) pos) (NQ ta tb):=by
 intro jh s σ H Q I h;refine BoolOp_and (thn (ha jh s σ H _ I h) fun v s1 ⟨x,H1,I1,r1,q1⟩=>?_);obtain⟨c,rfl,q1⟩:=q1;cases r1;refine wpAny_truthy_bool ?_;cases c with
 |true=>exact hb jh s1 σ H1 Q I1 q1
 |false=>exact⟨.bl false,H1,I1,rfl,q1⟩
theorem M8(ha:PE X a ta):PE X (.UnaryOp .Not a pos) (NJ ta):=by intro jh s σ H Q I h;refine UnaryOp_ (thn (ha jh s σ H _ I h) fun v s1 ⟨x,H1,I1,r1,q1⟩=>?_);obtain⟨c,rfl,q1⟩:=q1;cases r1;exact not_of (wpAny_truthy_bool ⟨.bl (!c),H1,I1,rfl,q1⟩)
noncomputable def tIf(t:TT)(ta tb:TE):TE:=fun σ H Q=>t σ H fun c H1=>if c=true then ta σ H1 Q else tb σ H1 Q
theorem HC{c:Expr}(hc:PT X c tA)(ha:PE X a ta)(hb:PE X b tb):PE X (.IfExp c a b pos) (tIf tA ta tb):=by
 intro jh s σ H Q I h;refine wpAny_IfExp (thn (hc jh s σ H _ I h) fun d s1 ⟨H1,I1,q1⟩=>?_);cases d with
 |true=>exact ha jh s1 σ H1 Q I1 q1
 |false=>exact hb jh s1 σ H1 Q I1 q1
end
noncomputable def SqL(K:W.Frag)(H:Hp)(a:Addr)(xs:List V):Prop:=
 Rd H a (.lst xs)\/
  ∃(o:Obj)(its:Array Value)(n:Nat),K.lookup a=some o/\o.cls=.type "list" /\o.dict=none/\o.data=.seq its n/\its.size<=sizeLine/\Vals xs its.toList
noncomputable def SqT(K:W.Frag)(H:Hp)(a:Addr)(xs:List V):Prop:=
 Rd H a (.tup xs)\/
  ∃(o:Obj)(its:Array Value)(n:Nat),K.lookup a=some o/\o.cls=.type "tuple" /\o.data=.seq its n/\its.size<=sizeLine/\Vals xs its.toList
noncomputable def X6:Value->Option V
 | .none=>some .non
 | .bool b=>some (.bl b)
 | .int i _=>some (.int i)
 | .str x _=>some (.str x)
 | .bytes b _=>some (.byt b)
 | .float b _=>some (.flt b)
 | .ref a=>some (.ref a)
 | .type n=>some (.ty n)
 |_=>none
theorem RelV.abs{x:V}{u:Value}(r:RelV x u):X6 u=some x:=by
 cases x with
 |non=>cases r;rfl
 |bl _=>cases r;rfl
 |int _=>obtain⟨t,rfl⟩:=r;rfl
 |str _=>obtain⟨t,rfl⟩:=r;rfl
 |byt _=>obtain⟨t,rfl⟩:=r;rfl
 |flt _=>obtain⟨t,rfl⟩:=r;rfl
 |ref _=>cases r;rfl
 |ty _=>cases r;rfl
theorem RelV.inj{x y:V}{u:Value}(r:RelV x u)(q:RelV y u):x=y:=Option.some.inj (r.abs.symm.trans q.abs)
theorem Vals.inj:∀{xs ys:List V}{us:List Value},Vals xs us->Vals ys us->xs=ys
 |_,_,_,.nil,.nil=>rfl
 |_,_,_,.cons r t,.cons r' t'=>by rw[r.inj r',Vals.inj t t']
section
variable {X:Cx}{jh:List (Addr×Obj)}{σ:St}{H:Hp}{s:Shared}{a:Addr}{xs ys:List V}
theorem SqL.of{K:W.Frag}(h:H a=some (.lst xs)):SqL K H a xs:=.inl (.inl h)
theorem SqT.of{K:W.Frag}(h:H a=some (.tup xs)):SqT K H a xs:=.inl (.inl h)
theorem Inv.list(I:Inv X jh σ H s)(h:SqL X.K H a xs):∃its:List Value,Vals xs its/\PlainL s.heap a its.toArray/\xs.length<=sizeLine:=by
 rcases h with h|⟨o,its,n,hk,hc,hd,hs,hz,r⟩
 ·obtain⟨z,its,n,r,e⟩:=h.ok I.hok;exact⟨its,r,⟨_,n,e,rfl,rfl,rfl⟩,z⟩
 ·refine⟨its.toList,r,⟨o,n,I.kIn a o hk,hc,hd,by simpa using hs⟩,?_⟩;have e:=r.length;simp only[dm]at e;omega
theorem Inv.tuple(I:Inv X jh σ H s)(h:SqT X.K H a xs):∃its:List Value,Vals xs its/\IsTup s.heap a its.toArray/\xs.length<=sizeLine:=by
 rcases h with h|⟨o,its,n,hk,hc,hs,hz,r⟩
 ·obtain⟨z,its,r,p⟩:=h.ok I.hok;exact⟨its,r,p,z⟩
 ·refine⟨its.toList,r,⟨o,I.kIn a o hk,hc,n,by simpa using hs⟩,?_⟩;have e:=r.length;simp only[dm]at e;omega
theorem Inv.z6(I:Inv X jh σ H s)(h:SqL X.K H a xs)(h':SqL X.K H a ys):xs=ys:=by
 obtain⟨its,r,⟨o,n,e,_,_,d⟩,_⟩:=I.list h;obtain⟨its',r',⟨o',n',e',_,_,d'⟩,_⟩:=I.list h';rw[e]at e';cases e';rw[d]at d';injection d' with d1 _
 have:its=its':=by simpa using congrArg Array.toList d1
 subst this;exact r.inj r'
theorem Inv.DS(I:Inv X jh σ H s)(h:SqT X.K H a xs)(h':SqT X.K H a ys):xs=ys:=by
 obtain⟨its,r,⟨o,e,_,n,d⟩,_⟩:=I.tuple h;obtain⟨its',r',⟨o',e',_,n',d'⟩,_⟩:=I.tuple h';rw[e]at e';cases e';rw[d]at d';injection d' with d1 _
 have:its=its':=by simpa using congrArg Array.toList d1
 subst this;exact r.inj r'
end
abbrev Cx.rB(X:Cx)(E:Value->Shared->Prop):Cx:={X with xe:=E}
abbrev Cx.nox(X:Cx):Cx:=X.rB fun _ _=>False
theorem Cx.Ok.rB{X:Cx}(ok:X.Ok)(E:Value->Shared->Prop):(X.rB E).Ok:=
 ⟨ok.mod,ok.kind,ok.glob,ok.blt,ok.above,ok.inj,ok.has,ok.cab,ok.hd,ok.frames,ok.stk,ok.exf,ok.bs,ok.bsz,ok.HN,ok.BZ,ok.kK,ok.frf⟩
theorem Cx.Ok.jY{X:Cx}{E:Value->Shared->Prop}(ok:(X.rB E).Ok):X.Ok:=
 ⟨ok.mod,ok.kind,ok.glob,ok.blt,ok.above,ok.inj,ok.has,ok.cab,ok.hd,ok.frames,ok.stk,ok.exf,ok.bs,ok.bsz,ok.HN,ok.BZ,ok.kK,ok.frf⟩
section
variable {X:Cx}{jh:List (Addr×Obj)}{σ:St}{H:Hp}{s:Shared}{E:Value->Shared->Prop}
theorem Inv.rB(I:Inv X jh σ H s)(E:Value->Shared->Prop):Inv (X.rB E) jh σ H s:=⟨I.ok.rB E,I.os,I.bare,I.base,I.loc,I.cell,I.free,I.gU,I.pin,I.hok,I.len⟩
theorem Inv.jY(I:Inv (X.rB E) jh σ H s):Inv X jh σ H s:=⟨I.ok.jY,I.os,I.bare,I.base,I.loc,I.cell,I.free,I.gU,I.pin,I.hok,I.len⟩
theorem SP.jY{D:Ends}{f:Flow}{s':Shared}(h:SP (X.rB E) jh D f s'):SP X jh D f s':=by
 cases f with
 |next=>obtain⟨σ',H',I,q⟩:=h;exact⟨σ',H',I.jY,q⟩
 |brk=>obtain⟨σ',H',I,q⟩:=h;exact⟨σ',H',I.jY,q⟩
 |cont=>obtain⟨σ',H',I,q⟩:=h;exact⟨σ',H',I.jY,q⟩
 |ret u=>obtain⟨v,σ',H',I,r,q⟩:=h;exact⟨v,σ',H',I.jY,r,q⟩
theorem PSs.nox{st:List Stmt}{t:TS}(h:PSs X.nox st t):PSs X st t:=fun jh s σ H D I hw=>
 wpAny_mono (h jh s σ H D (I.rB _) hw) (fun _ _ q=>q.jY) fun _ _ z=>False.elim z
end
section
variable {X:Cx}{st:Stmt}{rest:List Stmt}{t u:TS}{e:Expr}{te:TE}{pos:Pos}
def NK:TS:=fun D σ H=>D.nx σ H
def GH(t u:TS):TS:=fun D σ H=>t {D with nx:=u D} σ H
theorem bD:PSs X [] NK:=fun _ _ σ H _ I h=>wpAny_execs_nil ⟨σ,H,I,h⟩
theorem aB(h1:PS X st t)(h2:PSs X rest u):PSs X (st::rest) (GH t u):=by
 intro jh s σ H D I h;refine wpAny_execs_cons (thn (h1 jh s σ H {D with nx:=u D} I h) fun f s1 q=>?_);cases f with
 |next=>obtain⟨σ',H',I',q⟩:=q;exact h2 jh s1 σ' H' D I' q
 |ret v=>exact q
 |brk=>exact q
 |cont=>exact q
theorem aD(h1:PS X st t):PSs X [st] t:=by
 intro jh s σ H D I h;refine wpAny_execs_cons (thn (h1 jh s σ H D I h) fun f s1 q=>?_);cases f with
 |next=>exact wpAny_execs_nil q
 |ret v=>exact q
 |brk=>exact q
 |cont=>exact q
theorem Inv.quiet{jh:List (Addr×Obj)}{σ:St}{H:Hp}{s:Shared}(I:Inv X jh σ H s):interactive X.env=false:=by simp[interactive,I.ok.kind]
def NO(te:TE):TS:=fun D σ H=>te σ H fun _ H1=>D.nx σ H1
theorem cT(he:PE X e te)(hs:swapsWith e none pos.line X.env=pure false:=by rfl):PS X (.Expr e pos) (NO te):=by intro jh s σ H D I h;exact wpAny_Expr_any (thn (he jh s σ H _ I h) fun v s1 ⟨x,H1,I1,r1,q1⟩=>⟨σ,H1,I1,q1⟩) I.quiet hs
def SM(te:TE):TS:=fun D σ H=>te σ H D.rt
theorem aP(he:PE X e te):PS X (.Return (some e) pos) (SM te):=by intro jh s σ H D I h;exact wpAny_Return_some (thn (he jh s σ H _ I h) fun v s1 ⟨x,H1,I1,r1,q1⟩=>⟨x,σ,H1,I1,r1,q1⟩)
noncomputable def SQ(c:TT)(t u:TS):TS:=fun D σ H=>c σ H fun b H1=>if b=true then t D σ H1 else u D σ H1
theorem cK{c:Expr}{a b:List Stmt}{tc:TT}(hc:PT X c tc)(ha:PSs X a t)(hb:PSs X b u):PS X (.If c a b pos) (SQ tc t u):=by
 intro jh s σ H D I h;refine wpAny_If (thn (hc jh s σ H _ I h) fun d s1 ⟨H1,I1,q1⟩=>?_);cases d with
 |true=>exact ha jh s1 σ H1 D I1 q1
 |false=>exact hb jh s1 σ H1 D I1 q1
end
abbrev TG:=V->St->Hp->(St->Hp->Prop)->Prop
abbrev TGs:=List V->St->Hp->(St->Hp->Prop)->Prop
noncomputable def PG(X:Cx)(md:Expr)(t:TG):Prop:=
 ∀(jh:List (Addr×Obj))(s:Shared)(σ:St)(H:Hp)(v:V)(u:Value)(Q:St->Hp->Prop),Inv X jh σ H s->RelV v u->t v σ H Q ->
  wpAny (model X.prog X.w) X.A (assign md X.env u) (fun _ s'=>∃σ' H',Inv X jh σ' H' s'/\Q σ' H') X.xe s
noncomputable def PGs(X:Cx)(ts:List Expr)(t:TGs):Prop:=
 ∀(jh:List (Addr×Obj))(s:Shared)(σ:St)(H:Hp)(vs:List V)(us:List Value)(Q:St->Hp->Prop),Inv X jh σ H s->Vals vs us->t vs σ H Q ->
  wpAny (model X.prog X.w) X.A (assignInOrder ((assignEach ts X.env).map (·.2)) us) (fun _ s'=>∃σ' H',Inv X jh σ' H' s'/\Q σ' H') X.xe s
abbrev TIp:=V->V->Hp->VK->Prop
noncomputable def PIp(X:Cx)(op:Operator)(t:TIp):Prop:=
 ∀(jh:List (Addr×Obj))(s:Shared)(σ:St)(H:Hp)(x y:V)(v u:Value)(Q:VK),Inv X jh σ H s->RelV x v->RelV y u->t x y H Q ->
  wpAny (model X.prog X.w) X.A (inplaceOp op v u) (EP X jh σ Q) X.xe s
section
variable {X:Cx}{pos:Pos}
def j2(i:Nat):TG:=fun v σ H Q=>Q (σ.set i (some v)) H
theorem JR{i:Nat}{x:Str}(hN:X.N.Nodup)(hi:X.N[i]? =some x)(hx:Loc X.env.scope x)(hf:X.fn x=true\/X.env.scope.names.lookup x=some .local:=by first|exact .inl rfl|exact .inr rfl|assumption):PG X (.Name x pos) (j2 i):=by intro jh s σ H v u Q I r h;exact wpAny_assign_Name (rW I hN hi hx r (fun s' I'=>⟨_,H,I',h⟩) hf)
def X2:TGs:=fun vs σ H Q=>vs=[]/\Q σ H
noncomputable def S5(t:TG)(u:TGs):TGs:=fun vs σ H Q=>∃v r,vs=v::r/\t v σ H fun σ' H'=>u r σ' H' Q
theorem d9:PGs X [] X2:=by intro jh s σ H vs us Q I r h;obtain⟨e,h⟩:=h;subst e;cases r;exact assignInOrder_nil ⟨σ,H,I,h⟩
theorem aT{e:Expr}{es:List Expr}{t:TG}{u:TGs}(h1:PG X e t)(h2:PGs X es u)
  (hs:(assignEach (e::es) X.env).map (·.2)=assign e X.env::(assignEach es X.env).map (·.2):=by rfl):PGs X (e::es) (S5 t u):=by
 intro jh s σ H vs us Q I r h;obtain⟨v,vr,e1,h⟩:=h;subst e1;cases r with
 |cons r rr=>rw[hs];refine assignInOrder_cons (thn (h1 jh s σ H _ _ _ I r h) fun _ s1 ⟨σ1,H1,I1,q1⟩=>?_);exact h2 jh s1 σ1 H1 _ _ Q I1 rr q1
noncomputable def X1(K:W.Frag)(n:Nat)(t:TGs):TG:=fun v σ H Q=>∃a xs,v=.ref a/\SqT K H a xs/\xs.length=n/\t xs σ H Q
theorem gO{es:List Expr}{k:Nat}{t:TGs}{n:Nat}(hc:X.calm=true)(h:PGs X es t)
  (hn:(assignEach es X.env).length=n:=by rfl) (qb:(assignEach es X.env).findIdx? (·.1)=none:=by rfl):PG X (.Tuple es k pos) (X1 X.K n t):=by
 intro jh s σ H v u Q I r hw;obtain⟨a,xs,e1,hq,hl,hw⟩:=hw;subst e1;cases r;obtain⟨its,rv,ht,hz⟩:=I.tuple hq;refine assign_Tuple_tuple (I.ok.hd hc) ht (by simp[hn,<- hl,rv.length]) qb fun h' hx=>?_
 have I1:Inv X jh σ H {s with heap:=h'}:=I.kept (t':=s.toks) fun b o e=>hx b o (cf (bj e)) e
 exact h jh _ σ H xs _ Q I1 (by simpa using rv) hw
def AR(te:TE)(g:TG):TS:=fun D σ H=>te σ H fun x H1=>g x σ H1 D.nx
theorem pA{tg e:Expr}{te:TE}{g:TG}(he:PE X e te)(hg:PG X tg g)(hs:swapsWithSole [tg] e pos.line X.env=pure false:=by rfl)(hw:swappedStores [tg] e X.env=pure none:=by rfl)
  (h1:(assignEach [tg] X.env).map (·.2)=[assign tg X.env]:=by rfl):PS X (.Assign [tg] e pos) (AR te g):=by
 intro jh s σ H D I h;refine wpAny_Assign_stores (thn (he jh s σ H _ I h) fun v s1 ⟨x,H1,I1,r1,q1⟩=>?_) hs hw;rw[h1];exact thn (hg jh s1 σ H1 x v _ I1 r1 q1) fun _ s2 q=>q
theorem AX{i:Nat}{x:Str}{e:Expr}{te:TE}{kn:Pos}(hN:X.N.Nodup)(hi:X.N[i]? =some x)(hx:Loc X.env.scope x)(he:PE X e te)(hs:swapsWith e (some (.Name x kn)) pos.line X.env=pure false:=by rfl)(hf:X.fn x=true\/X.env.scope.names.lookup x=some .local:=by first|exact .inl rfl|exact .inr rfl|assumption):
  PS X (.Assign [.Name x kn] e pos) (AR te (j2 i)):=by
 intro jh s σ H D I h;refine wpAny_Assign_Name (thn (he jh s σ H _ I h) fun v s1 ⟨y,H1,I1,r1,q1⟩=>?_) hs;exact rW I1 hN hi hx r1 (fun s2 I2=>⟨_,H1,I2,q1⟩) hf
noncomputable def SW(i:Nat)(te:TE)(ti:TIp):TS:=fun D σ H=>∃x,σ[i]? =some (some x)/\te σ H fun y H1=>ti x y H1 fun z H2=>D.nx (σ.set i (some z)) H2
theorem GV{i:Nat}{x:Str}{e:Expr}{te:TE}{op:Operator}{ti:TIp}{kn:Pos}(hN:X.N.Nodup)(hi:X.N[i]? =some x)(hx:Loc X.env.scope x)(he:PE X e te)(ho:PIp X op ti)(hf:X.fn x=true\/X.env.scope.names.lookup x=some .local:=by first|exact .inl rfl|exact .inr rfl|assumption):
  PS X (.AugAssign (.Name x kn) op e pos) (SW i te ti):=by
 intro jh s σ H D I h;obtain⟨v,e1,h⟩:=h;obtain⟨m,hn,hl⟩:=I.loc;have vis:Vis X.env.scope x:=by rcases hx with k|k;exact .inl k;exact .inr (.inl k)
 obtain⟨u,r,l⟩:=hl i x v hi e1 vis;refine wpAny_AugAssign_Name ?_;have go:wpAny (model X.prog X.w) X.A (eval e X.env) (fun w s₂=>wpAny (model X.prog X.w) X.A (inplaceOp op u w) (fun r s₃=>wpAny (model X.prog X.w) X.A (storeName X.env x r) (fun _=>SP X jh D .next) X.xe s₃) X.xe s₂) X.xe s:=by
  refine thn (he jh s σ H _ I h) fun w s1 ⟨y,H1,I1,r1,q1⟩=>?_
  refine thn (ho jh s1 σ H1 v y u w _ I1 r r1 q1) fun z s2 ⟨zv,H2,I2,r2,q2⟩=>?_
  exact rW I2 hN hi hx r2 (fun s3 I3=>⟨_,H2,I3,q2⟩) hf
 rcases l with⟨hk,hm⟩|⟨hk,c,hc,ny⟩
 ·exact wpAny_loadName_local I.ok.kind hk hn hm go
 ·rcases hk with hk|hk
  ·exact wpAny_loadName_cell I.ok.kind hk hc ny go
  ·rcases hx with k|k
   ·have:X.env.scope.names.lookup x=some .free:=hk;rw[k]at this;cases this
   ·have:X.env.scope.names.lookup x=some .free:=hk;rw[k]at this;cases this
noncomputable def ipI(f:Int->Int->Int):TIp:=fun x y H Q=>∃i j,x=.int i/\y=.int j/\Q (.int (f i j)) H
theorem IC:PIp X .Add (ipI fun i j=>i+j):=by intro jh s σ H x y v u Q I r1 r2 h;obtain⟨i,j,e1,e2,q⟩:=h;subst e1;subst e2;obtain⟨t,rfl⟩:=r1;obtain⟨t',rfl⟩:=r2;exact iadd_int ⟨.int _,H,I.tok _,⟨_,rfl⟩,q⟩
end
section
variable {X:Cx}{pos:Pos}
noncomputable def GF(c:TT)(tb:TS):TS:=fun D σ H=>∃W:Nat->St->Hp->Prop,(∃m,W m σ H)/\∀m σ H,W m σ H ->
 c σ H fun b H1=>if b=true then∃N:St->Hp->Prop,(∀σ' H',N σ' H'->∃m',m'<m/\W m' σ' H')/\tb {D with nx:=N,ct:=N,bk:=D.nx} σ H1 else D.nx σ H1
theorem mZ{c:Expr}{body:List Stmt}{tc:TT}{tb:TS}(hp:PassesOwn (model X.prog X.w) X.A X.env X.xe)(hc:PT X c tc)(hb:PSs X body tb):PS X (.While c body [] pos) (GF tc tb):=by
 intro jh s σ H D I h;obtain⟨W,⟨m0,w0⟩,turn⟩:=h;refine wpAny_While (codeAny_whileLoop (fun n s'=>∃σ' H',Inv X jh σ' H' s'/\W n σ' H') ?_ m0 ⟨σ,H,I,w0⟩);rintro n s1 ⟨σ1,H1,I1,w1⟩;refine wpAny_passesOwn hp (thn (hc jh s1 σ1 H1 _ I1 (turn n σ1 H1 w1)) fun b s2 ⟨H2,I2,q2⟩=>?_);cases b with
 |true=>
  obtain⟨N,hN,q2⟩:=q2;rw[ah rfl];refine wpAny_passesOwn hp (thn (hb jh s2 σ1 H2 _ I2 q2) fun f s3 q3=>?_);cases f with
  |next=>obtain⟨σ3,H3,I3,n3⟩:=q3;obtain⟨m',hm,w3⟩:=hN σ3 H3 n3;exact⟨m',hm,σ3,H3,I3,w3⟩
  |cont=>obtain⟨σ3,H3,I3,n3⟩:=q3;obtain⟨m',hm,w3⟩:=hN σ3 H3 n3;exact⟨m',hm,σ3,H3,I3,w3⟩
  |brk=>exact q3
  |ret v=>exact q3
 |false=>rw[ag bg];exact wpAny_execs_nil ⟨σ1,H2,I2,q2⟩
end
structure It where
 go:Nat->Hp->Prop
 yld:Nat->Hp->V->Hp->Prop
 stop:Nat->Hp->Prop
noncomputable def mO(X:Cx)(jh:List (Addr×Obj))(H:Hp)(b:Addr):Prop:=
 H b=none/\b≠X.env.locals/\b∉X.fs/\(b∈X.ex\/X.s_0.heap.objs.size<=b)/\(∀x c,X.env.cells.lookup x=some c->c≠b)/\∀p∈X.pn++jh,p.1≠b
theorem Inv.BV{X:Cx}{jh:List (Addr×Obj)}{σ:St}{H H':Hp}{s:Shared}{b:Addr}(I:Inv X jh σ H s)(hb:s.heap.objs.size<=b)(hn:H' b=none):mO X jh H' b:=by
 refine⟨hn,jb (bz I.lt hb),I.WW hb,.inr (df I.sz hb),fun x c e z=>?_,fun p hp z=>?_⟩
 ·obtain⟨v,q⟩:=I.cell x c e;exact absurd (bz q.lt (by rw[z];exact hb)) (gd _)
 ·exact absurd (bz (bj (I.pin p hp).1) (by rw[z];exact hb)) (gd _)
structure Turn(P:Program)(w:World)(K:W.Frag)(tg:Expr)(J:It)(fp:List Addr)(it:Addr)(tn:Nat->Heap->Prop):Prop where
 mem:it∈fp
 obj:∀i h,tn i h->∀b∈fp,∃o,h.get? b=some o/\∀v,o.data≠ .cell v
 keep:∀i h h',tn i h->(∀b∈fp,∀o,h.get? b=some o->h'.get? b=some o)->tn i h'
 item:∀(X:Cx),X.prog=P->X.w=w->X.K=K->X.calm=true->∀(i:Nat)(jh:List (Addr×Obj))(s:Shared)(σ:St)(H:Hp)(E:Value->Shared->Prop),Inv X jh σ H s->(∀b∈fp,mO X jh H b)->tn i s.heap->J.go i H ->
  wpAny (model P w) X.A (pyNext (.ref it)) (fun r s1=>∃u,r=some u/\
   wpAny (model P w) X.A (letOwnedTupleGo tg (.ref it) u) (fun _ s2=>∃x H',Inv X jh σ H' s2/\RelV x u/\J.yld i H x H'/\tn (i+1) s2.heap/\∀b∈fp,H' b=none) E s1) E s
 done:∀(X:Cx),X.prog=P->X.w=w->X.K=K->X.calm=true->∀(i:Nat)(jh:List (Addr×Obj))(s:Shared)(σ:St)(H:Hp)(E:Value->Shared->Prop),Inv X jh σ H s->(∀b∈fp,mO X jh H b)->tn i s.heap->J.stop i H ->
  wpAny (model P w) X.A (pyNext (.ref it)) (fun r s1=>r=none/\Inv X jh σ H s1) E s
 self:∀(A:Around)(i:Nat)(s:Shared)(Q:Value->Shared->Prop)(E:Value->Shared->Prop),tn i s.heap->Q (.ref it) s->wpAny (model P w) A (pyIter (.ref it)) Q E s
abbrev TI:=St->Hp->(It->Hp->Prop)->Prop
noncomputable def PIE(X:Cx)(jh:List (Addr×Obj))(σ:St)(tg:Expr)(R:It->Hp->Prop)(itv:Value)(s2:Shared):Prop:=
 ∃(it:Addr)(fp:List Addr)(tn:Nat->Heap->Prop)(J:It)(H':Hp),itv=.ref it/\Inv X jh σ H' s2/\Turn X.prog X.w X.K tg J fp it tn/\tn 0 s2.heap/\(∀b∈fp,mO X jh H' b)/\R J H'
noncomputable def PI(X:Cx)(tg iter:Expr)(wi:TI):Prop:=
 ∀(jh:List (Addr×Obj))(s:Shared)(σ:St)(H:Hp)(R:It->Hp->Prop),Inv X jh σ H s->wi σ H R ->
  wpAny (model X.prog X.w) X.A (eval iter X.env) (fun v s1=>wpAny (model X.prog X.w) X.A (pyIter v) (PIE X jh σ tg R) X.xe s1) X.xe s
theorem vS{M:Model}{A:Around}{E:Value->Shared->Prop}{s:Shared}{tg:Expr}{it:Addr}{u:Value}{o:Obj}{n:String}{vs:Array Value}{Q:Unit->Shared->Prop}(ho:s.heap.get? it=some o)(hc:o.cls=.type n)(hd:o.data=.fields vs)
  (hn:["enumerate","zip","dict_itemiterator","dict_reverseitemiterator","odict_iterator","itertools.zip_longest","itertools.pairwise"].contains n=false) (hQ:Q () s):wpAny M A (letOwnedTupleGo tg (.ref it) u) Q E s:=by
 unfold letOwnedTupleGo;cases tg<;>first
  |exact af hQ
  |(cases u<;>first
    |exact af hQ
    |(refine aa (wpAny_load ho ?_);rw[hc,hd];show wpAny M A (if(["enumerate","zip","dict_itemiterator","dict_reverseitemiterator","odict_iterator","itertools.zip_longest","itertools.pairwise"].contains n&& vs[0]? ==some (rawInt _))=true then _ else _) Q E s;rw[ag (by intro h;rw[hn,Bool.false_and]at h;cases h)];exact af hQ))
noncomputable def Itl(K:W.Frag)(a:Addr):It:=
 ⟨fun i H=>∃xs x,SqL K H a xs/\xs[i]? =some x,fun i H x H'=>H'=H/\∀xs,SqL K H a xs->xs[i]? =some x,fun i H=>∃xs,SqL K H a xs/\xs.length<=i⟩
noncomputable def Itt(K:W.Frag)(a:Addr):It:=
 ⟨fun i H=>∃xs x,SqT K H a xs/\xs[i]? =some x,fun i H x H'=>H'=H/\∀xs,SqT K H a xs->xs[i]? =some x,fun i H=>∃xs,SqT K H a xs/\xs.length<=i⟩
noncomputable def Itr(lo:Int)(n:Nat):It:=⟨fun i _=>i<n,fun i H x H'=>H'=H/\x=.int (lo+i),fun i _=>n<=i⟩
theorem DP{P:Program}{w:World}{K:W.Frag}{tg:Expr}(a it:Addr):Turn P w K tg (Itl K a) [it] it (fun i h=>h.IsListIter it a i) where
 mem:=by simp
 obj:=fun i h st b hb=>by
  have e:b=it:=by simpa using hb
  subst e;obtain⟨o,e,c,d⟩:=st;exact⟨o,e,fun v z=>by rw[d]at z;cases z⟩
 keep:=fun i h h' st k=>st.at fun o e=>k it (by simp) o e
 item:=by
  intro X hP hw hK hc i jh s σ H E I hf st hg;subst hP hw hK;obtain⟨xs,x,hq,hx⟩:=hg;obtain⟨its,rv,p,hz⟩:=I.list hq;obtain⟨u,hu,ru⟩:=rv.get hx;obtain⟨f0,f1,f2,f3,f4,f5⟩:=hf it (by simp);refine wpAny_pyNext_list_item st p.isList (x:=u) (by simpa using hu) fun h' nu sb=>?_
  have I1:Inv X jh σ H {s with heap:=h'}:=I.turned (t':=s.toks) (fun b o hb e=>(sb.2 b hb).trans e) f0 f1 f3 f4 f5;obtain⟨o,e,c,d⟩:=id nu;exact⟨u,rfl,vS (s:={s with heap:=h'}) e c d (by decide) ⟨x,H,I1,ru,⟨rfl,fun ys hy=>by rw[I.z6 hy hq];exact hx⟩,nu,fun b hb=>(hf b hb).1⟩⟩
 done:=by intro X hP hw hK hc i jh s σ H E I hf st hg;subst hP hw hK;obtain⟨xs,hq,hx⟩:=hg;obtain⟨its,rv,p,hz⟩:=I.list hq;obtain⟨f0,f1,f2,f3,f4,f5⟩:=hf it (by simp);have hl:=rv.length;exact wpAny_pyNext_list_end (I.ok.hd hc) st p.isList (by simp;omega) fun h' eb=>⟨rfl,I.turned (t':=s.toks) (fun b o hb e=>eb b o hb e) f0 f1 f3 f4 f5⟩
 self:=fun _ _ _ _ _ st h=>wpAny_pyIter_listiter st h
theorem AJ{P:Program}{w:World}{K:W.Frag}{tg:Expr}(a it:Addr):Turn P w K tg (Itt K a) [it] it (fun i h=>h.IsTupleIter it a i) where
 mem:=by simp
 obj:=fun i h st b hb=>by
  have e:b=it:=by simpa using hb
  subst e;obtain⟨o,e,c,d⟩:=st;exact⟨o,e,fun v z=>by rw[d]at z;cases z⟩
 keep:=fun i h h' st k=>st.at fun o e=>k it (by simp) o e
 item:=by
  intro X hP hw hK hc i jh s σ H E I hf st hg;subst hP hw hK;obtain⟨xs,x,hq,hx⟩:=hg;obtain⟨its,rv,p,hz⟩:=I.tuple hq;obtain⟨u,hu,ru⟩:=rv.get hx;obtain⟨f0,f1,f2,f3,f4,f5⟩:=hf it (by simp);refine wpAny_pyNext_tuple_item st (show s.heap.IsTuple a its.toArray from p) (x:=u) (by simpa using hu) fun h' nu sb=>?_
  have I1:Inv X jh σ H {s with heap:=h'}:=I.turned (t':=s.toks) (fun b o hb e=>(sb.2 b hb).trans e) f0 f1 f3 f4 f5;obtain⟨o,e,c,d⟩:=id nu;exact⟨u,rfl,vS (s:={s with heap:=h'}) e c d (by decide) ⟨x,H,I1,ru,⟨rfl,fun ys hy=>by rw[I.DS hy hq];exact hx⟩,nu,fun b hb=>(hf b hb).1⟩⟩
 done:=by intro X hP hw hK hc i jh s σ H E I hf st hg;subst hP hw hK;obtain⟨xs,hq,hx⟩:=hg;obtain⟨its,rv,p,hz⟩:=I.tuple hq;obtain⟨f0,f1,f2,f3,f4,f5⟩:=hf it (by simp);have hl:=rv.length;exact wpAny_pyNext_tuple_end (I.ok.hd hc) st (show s.heap.IsTuple a its.toArray from p) (by simp;omega) fun h' eb=>⟨rfl,I.turned (t':=s.toks) (fun b o hb e=>eb b o hb e) f0 f1 f3 f4 f5⟩
 self:=fun _ _ _ _ _ st h=>wpAny_pyIter_tupleiter st h
theorem AK{P:Program}{w:World}{K:W.Frag}{tg:Expr}(it:Addr)(lo:Int)(n:Nat):Turn P w K tg (Itr lo n) [it] it (fun i h=>IsRangeIter h it (lo+(i:Nat)*1) ((n:Int) - (i:Nat)) 1) where
 mem:=by simp
 obj:=fun i h st b hb=>by
  have e:b=it:=by simpa using hb
  subst e;exact⟨_,st,fun v z=>by
   have z':Data.fields _=Data.cell v:=z;cases z'⟩
 keep:=fun i h h' st k=>k it (by simp) _ st
 item:=by
  intro X hP hw hK hc i jh s σ H E I hf st hg;subst hP hw hK;obtain⟨f0,f1,f2,f3,f4,f5⟩:=hf it (by simp);have W:=Walks.range (prog:=X.prog) (w:=X.w) (I.ok.hd hc) it lo 1 n;refine W.item i s _ _ hg st fun v h' tk hv nu kk=>?_
  obtain⟨t,rfl⟩:=hv;have I1:Inv X jh σ H {s with heap:=h',toks:=tk}:=I.turned (fun b o hb e=>kk b o (by simpa using hb) e) f0 f1 f3 f4 f5;refine⟨_,rfl,vS (s:={s with heap:=h',toks:=tk}) (n:= "range_iterator") nu rfl rfl (by decide) ⟨.int (lo+i),H,I1,⟨t,?_⟩,⟨rfl,rfl⟩,nu,fun b hb=>(hf b hb).1⟩⟩;rw[Int.mul_one]
 done:=by intro X hP hw hK hc i jh s σ H E I hf st hg;subst hP hw hK;obtain⟨f0,f1,f2,f3,f4,f5⟩:=hf it (by simp);exact wpAny_pyNext_range_end (I.ok.hd hc) st (by have:n<=i:=hg;omega) fun h' eb=>⟨rfl,I.turned (t':=s.toks) (fun b o hb e=>eb b o hb e) f0 f1 f3 f4 f5⟩
 self:=fun _ _ _ _ _ st h=>wpAny_pyIter_rangeiter st h
section
variable {X:Cx}{tg:Expr}
noncomputable def RZ(K:W.Frag)(tl:TE):TI:=fun σ H R=>tl σ H fun x H1=>∃a,x=.ref a/\(∃xs,SqL K H1 a xs)/\R (Itl K a) H1
noncomputable def X0(K:W.Frag)(tl:TE):TI:=fun σ H R=>tl σ H fun x H1=>∃a,x=.ref a/\(∃xs,SqT K H1 a xs)/\R (Itt K a) H1
theorem cP{l:Expr}{tl:TE}(hl:PE X l tl):PI X tg l (RZ X.K tl):=by
 intro jh s σ H R I h;refine thn (hl jh s σ H _ I h) fun v s1 ⟨x,H1,I1,r1,q1⟩=>?_
 obtain⟨a,e,⟨xs,hq⟩,q⟩:=q1;subst e;cases r1;obtain⟨its,rv,p,hz⟩:=I1.list hq;refine wpAny_pyIter_list p.isList ?_;refine⟨s1.heap.objs.size,[s1.heap.objs.size],_,_,H1,rfl,I1.kept (t':=s1.toks) fun b o e=>aj _ e,DP a _,⟨_,ax _ rfl,rfl,rfl⟩,fun b hb=>?_,q⟩;have e:b=s1.heap.objs.size:=by simpa using hb
 subst e;exact I1.BV (au _) (I1.hok.fresh (au _))
theorem kB{l:Expr}{tl:TE}(hl:PE X l tl):PI X tg l (X0 X.K tl):=by
 intro jh s σ H R I h;refine thn (hl jh s σ H _ I h) fun v s1 ⟨x,H1,I1,r1,q1⟩=>?_
 obtain⟨a,e,⟨xs,hq⟩,q⟩:=q1;subst e;cases r1;obtain⟨its,rv,p,hz⟩:=I1.tuple hq;refine wpAny_pyIter_tuple (show s1.heap.IsTuple a its.toArray from p) ?_;refine⟨s1.heap.objs.size,[s1.heap.objs.size],_,_,H1,rfl,I1.kept (t':=s1.toks) fun b o e=>aj _ e,AJ a _,⟨_,ax _ rfl,rfl,rfl⟩,fun b hb=>?_,q⟩;have e:b=s1.heap.objs.size:=by simpa using hb
 subst e;exact I1.BV (au _) (I1.hok.fresh (au _))
theorem yH{jh:List (Addr×Obj)}{σ:St}{H:Hp}{s:Shared}{R:It->Hp->Prop}{E:Value->Shared->Prop}{lo hi:Int}{t u v:Tok}{tk:Nat}(I:Inv X jh σ H s)(h1:-(2^62)<=lo)(h2:lo<2^62)(h3:-(2^62)<=hi)(h4:hi<2^62)
  (q:R (Itr lo (hi - lo).toNat) H):wpAny (model X.prog X.w) X.A (pyIter (.ref s.heap.objs.size)) (PIE X jh σ tg R) E {s with heap:=s.heap.push {cls:=.type "range",data:=.fields #[.int lo t,.int hi u,.int 1 v]},toks:=tk}:=by
 refine wpAny_pyIter_range (IsRange.new ..) (small_one h1 h2 h3 h4) ?_;have I1:Inv X jh σ H {s with heap:=s.heap.push {cls:=.type "range",data:=.fields #[.int lo t,.int hi u,.int 1 v]},toks:=tk}:=I.kept fun b o e=>aj _ e
 refine⟨(s.heap.push {cls:=.type "range",data:=.fields #[.int lo t,.int hi u,.int 1 v]}).objs.size,[(s.heap.push {cls:=.type "range",data:=.fields #[.int lo t,.int hi u,.int 1 v]}).objs.size],_,_,H,rfl,
  I1.kept (t':=tk) fun b o e=>aj _ e,AK _ lo (hi - lo).toNat,?_,fun b hb=>?_,q⟩
 ·have e1:lo+((0:Nat):Int)*1=lo:=by simp
  have e2:(((hi - lo).toNat:Nat):Int) - ((0:Nat):Int)=Builtin.Range.rangeSize lo hi 1:=by rw[rangeSize_one];split<;>omega
  show IsRangeIter _ _ (lo+((0:Nat):Int)*1) ((((hi - lo).toNat:Nat):Int) - ((0:Nat):Int)) 1
  rw[e1,e2];exact ax _ rfl
 ·have e:b=(s.heap.push {cls:=.type "range",data:=.fields #[.int lo t,.int hi u,.int 1 v]}).objs.size:=by simpa using hb
  subst e;exact I1.BV (au _) (I1.hok.fresh (au _))
noncomputable def RY(ta:TA):TI:=fun σ H R=>ta σ H fun vs H1=>∃j:Int,vs=[.int j]/\-(2^62)<=j/\j<2^62/\R (Itr 0 j.toNat) H1
noncomputable def RX(ta:TA):TI:=fun σ H R=>ta σ H fun vs H1=>∃i j:Int,vs=[.int i,.int j]/\(-(2^62)<=i/\i<2^62/\-(2^62)<=j/\j<2^62)/\R (Itr i (j - i).toNat) H1
theorem vD{a:Expr}{ta:TA}{p pos:Pos}(hg:Gl X "range")(hm:X.mg "range" =none)(ha:PA X [a] ta)(hs:starEach [a] X.env=[(false,eval a X.env)]:=by rfl):PI X tg (.Call (.Name "range" p) [a] [] pos) (RY ta):=by
 intro jh s σ H R I h;refine Call_ (kH I hg hm boot_range (PyProof.Rows.callWith_type1 (thn (ha pos jh s σ H _ I h) fun us s1 ⟨vs,H1,I1,r1,q1⟩=>?_) hs rfl));obtain⟨j,e,q1,q2,q⟩:=q1;subst e;cases r1 with
 |cons r rr=>cases rr;obtain⟨t,rfl⟩:=r;exact call_range_1 (yH I1 (by omega) (by omega) q1 q2 (by simpa using q))
theorem EB{a b:Expr}{ta:TA}{p pos:Pos}(hg:Gl X "range")(hm:X.mg "range" =none)(ha:PA X [a,b] ta)(hs:starEach [a,b] X.env=[(false,eval a X.env),(false,eval b X.env)]:=by rfl)(si:starEach [b] X.env=[(false,eval b X.env)]:=by rfl):
  PI X tg (.Call (.Name "range" p) [a,b] [] pos) (RX ta):=by
 intro jh s σ H R I h;refine Call_ (kH I hg hm boot_range (PyProof.Rows.callWith_type1 (thn (ha pos jh s σ H _ I h) fun us s1 ⟨vs,H1,I1,r1,q1⟩=>?_) (by rw[hs,si]) (by rw[si];rfl)));obtain⟨i,j,e,⟨q1,q2,q3,q4⟩,q⟩:=q1;subst e;cases r1 with
 |cons r rr=>
  cases rr with
  |cons r' rr=>cases rr;obtain⟨t,rfl⟩:=r;obtain⟨t',rfl⟩:=r';exact call_range_2 (yH I1 q1 q2 q3 q4 q)
noncomputable def SR(wi:TI)(g:TG)(tb:TS):TS:=fun D σ H=>wi σ H fun J H1=>∃W:Nat->Nat->St->Hp->Prop,(∃m,W 0 m σ H1)/\∀i m σ H,W i m σ H ->
 (J.stop i H/\D.nx σ H)\/(J.go i H/\∃N:St->Hp->Prop,(∀σ' H',N σ' H'->∃m',m'<m/\W (i+1) m' σ' H')/\∀x H',J.yld i H x H'->g x σ H' fun σ2 H2=>tb {D with nx:=N,ct:=N,bk:=D.nx} σ2 H2)
noncomputable def pB(fp:List Addr)(h:Heap):List (Addr×Obj):=fp.filterMap fun b=>(h.get? b).map fun o=>(b,o)
theorem jE{fp:List Addr}{h:Heap}{b:Addr}{o:Obj}(hb:b∈fp)(e:h.get? b=some o):(b,o)∈pB fp h:=List.mem_filterMap.mpr ⟨b,hb,by rw[e];rfl⟩
theorem ED{fp:List Addr}{h:Heap}{p:Addr×Obj}(hp:p∈pB fp h):p.1∈fp/\h.get? p.1=some p.2:=by
 obtain⟨b,hb,e⟩:=List.mem_filterMap.mp hp;cases q:h.get? b with
 |none=>rw[q]at e;cases e
 |some o=>rw[q]at e;have e':(b,o)=p:=Option.some.inj e;subst e';exact⟨hb,q⟩
theorem Inv.pinned{jh:List (Addr×Obj)}{σ:St}{H:Hp}{s:Shared}{fp:List Addr}(I:Inv X jh σ H s)(hf:∀b∈fp,mO X jh H b)(ho:∀b∈fp,∃o,s.heap.get? b=some o/\∀v,o.data≠ .cell v):Inv X (jh++pB fp s.heap) σ H s:=
 I.CL fun p hp=>(ay.mp hp).elim (fun z=>I.pin p (bh _ z)) fun z=>by obtain⟨hb,e⟩:=ED z;obtain⟨f0,f1,f2,_⟩:=hf p.1 hb;obtain⟨o,e',d⟩:=ho p.1 hb;rw[e]at e';cases e';exact⟨e,f0,f1,f2,d⟩
theorem Inv.jZ{jh pl:List (Addr×Obj)}{σ:St}{H:Hp}{s:Shared}(I:Inv X (jh++pl) σ H s):Inv X jh σ H s:=I.CL fun p hp=>I.pin p (bh _ (cc _ hp))
theorem bV{iter:Expr}{body:List Stmt}{wi:TI}{g:TG}{tb:TS}{pos:Pos}(hp:PassesOwn (model X.prog X.w) X.A X.env X.xe)(hc:X.calm=true)(hi:PI X tg iter wi)(hg:PG X tg g)(hb:PSs X body tb)
  (hs:∀x,foldedSetIterable iter X.env x=pure x:=by intro _;rfl):PS X (.For tg iter body [] pos) (SR wi g tb):=by
 intro jh s σ H D I h;refine wpAny_For (thn (hi jh s σ H _ I h) fun v s1 h1=>thn h1 fun itv s2 h2=>?_) hs;obtain⟨it,fp,tn,J,H2,e,I2,T,xw,f2,W,⟨m0,w0⟩,turn⟩:=h2;subst e;have mv:∀{H':Hp},(∀b∈fp,H' b=none)->∀b∈fp,mO X jh H' b:=fun hn b hb=>⟨hn b hb,(f2 b hb).2⟩
 refine codeAny_forLoop_any (fun n s'=>∃i σ' H',Inv X jh σ' H' s'/\tn i s'.heap/\(∀b∈fp,H' b=none)/\W i n σ' H') ?_ m0 ⟨0,σ,H2,I2,xw,fun b hb=>(f2 b hb).1,w0⟩;rintro n s3 ⟨i,σ3,H3,I3,zr,fr3,w3⟩;rcases turn i n σ3 H3 w3 with⟨stop,qn⟩|⟨go,N,hN,step⟩
 ·refine wpAny_passesOwn hp (thn (T.done X rfl rfl rfl hc i jh s3 σ3 H3 X.xe I3 (mv fr3) zr stop) fun r s4 ⟨hr,I4⟩=>?_);subst hr;exact wpAny_execs_nil ⟨σ3,H3,I4,qn⟩
 ·refine wpAny_passesOwn hp (thn (T.item X rfl rfl rfl hc i jh s3 σ3 H3 X.xe I3 (mv fr3) zr go) fun r s4 ⟨u,hr,h4⟩=>?_);subst hr;refine wpAny_passesOwn hp (thn h4 fun _ s5 ⟨x,H5,I5,r5,y5,ug,fr5⟩=>?_);have I5':=I5.pinned (mv fr5) (T.obj _ _ ug);refine wpAny_passesOwn hp (thn (hg _ s5 σ3 H5 x u _ I5' r5 (step x H5 y5)) fun _ s6 ⟨σ6,H6,I6,q6⟩=>?_);refine wpAny_passesOwn hp (thn (hb _ s6 σ6 H6 _ I6 q6) fun f s7 q7=>?_);have again:∀{σ7:St}{H7:Hp},Inv X (jh++pB fp s5.heap) σ7 H7 s7->N σ7 H7->∃m,m<n/\∃i σ' H',Inv X jh σ' H' s7/\tn i s7.heap/\(∀b∈fp,H' b=none)/\W i m σ' H':=fun{σ7 H7} I7 n7=>by obtain⟨m',hm,w7⟩:=hN σ7 H7 n7;refine⟨m',hm,i+1,σ7,H7,I7.jZ,T.keep _ _ _ ug fun b hb o e=>(I7.pin (b,o) (bh _ (bh _ (jE hb e)))).1,fun b hb=>?_,w7⟩;obtain⟨o,e,d⟩:=T.obj _ _ ug b hb;exact(I7.pin (b,o) (bh _ (bh _ (jE hb e)))).2.1
  cases f with
  |next=>obtain⟨σ7,H7,I7,n7⟩:=q7;exact again I7 n7
  |cont=>obtain⟨σ7,H7,I7,n7⟩:=q7;exact again I7 n7
  |brk=>obtain⟨σ7,H7,I7,q7⟩:=q7;exact⟨σ7,H7,I7.jZ,q7⟩
  |ret v=>obtain⟨x7,σ7,H7,I7,r7,q7⟩:=q7;exact⟨x7,σ7,H7,I7.jZ,r7,q7⟩
end
theorem gV{K:W.Frag}{a:Addr}{xs:List V}{g:TG}{tb:TS}{D:Ends}{σ:St}{H:Hp}(Pv:Nat->St->Hp->Prop)(h0:Pv 0 σ H)(hl:∀i σ H,i<=xs.length->Pv i σ H->SqL K H a xs)
  (hs:∀i x σ H,xs[i]? =some x->Pv i σ H->g x σ H fun σ2 H2=>tb {D with nx:=Pv (i+1),ct:=Pv (i+1),bk:=D.nx} σ2 H2) (hd:∀σ H,Pv xs.length σ H->D.nx σ H):
  ∃W:Nat->Nat->St->Hp->Prop,(∃m,W 0 m σ H)/\∀i m σ H,W i m σ H ->
   ((Itl K a).stop i H/\D.nx σ H)\/((Itl K a).go i H/\∃N:St->Hp->Prop,(∀σ' H',N σ' H'->∃m',m'<m/\W (i+1) m' σ' H')/\∀x H',(Itl K a).yld i H x H'->g x σ H' fun σ2 H2=>tb {D with nx:=N,ct:=N,bk:=D.nx} σ2 H2):=by
 refine⟨fun i m σ H=>m=xs.length - i/\i<=xs.length/\Pv i σ H,⟨xs.length,by simp,cn _,h0⟩,?_⟩;rintro i m σ H ⟨rfl,hi,p⟩;have q:=hl i σ H hi p;by_cases jw:i<xs.length
 ·refine .inr ⟨⟨xs,xs[i],q,by simp[jw]⟩,Pv (i+1),fun σ' H' p'=>⟨xs.length - (i+1),by omega,rfl,jw,p'⟩,fun x H' y=>?_⟩;obtain⟨e,y⟩:=y;subst e;exact hs i x σ _ (y xs q) p
 ·have e:i=xs.length:=by omega
  subst e;exact .inl ⟨⟨xs,q,au _⟩,hd σ H p⟩
theorem jL{K:W.Frag}{a:Addr}{xs:List V}{g:TG}{tb:TS}{D:Ends}{σ:St}{H:Hp}(Pv:Nat->St->Hp->Prop)(h0:Pv 0 σ H)(hl:∀i σ H,i<=xs.length->Pv i σ H->SqT K H a xs)
  (hs:∀i x σ H,xs[i]? =some x->Pv i σ H->g x σ H fun σ2 H2=>tb {D with nx:=Pv (i+1),ct:=Pv (i+1),bk:=D.nx} σ2 H2) (hd:∀σ H,Pv xs.length σ H->D.nx σ H):
  ∃W:Nat->Nat->St->Hp->Prop,(∃m,W 0 m σ H)/\∀i m σ H,W i m σ H ->
   ((Itt K a).stop i H/\D.nx σ H)\/((Itt K a).go i H/\∃N:St->Hp->Prop,(∀σ' H',N σ' H'->∃m',m'<m/\W (i+1) m' σ' H')/\∀x H',(Itt K a).yld i H x H'->g x σ H' fun σ2 H2=>tb {D with nx:=N,ct:=N,bk:=D.nx} σ2 H2):=by
 refine⟨fun i m σ H=>m=xs.length - i/\i<=xs.length/\Pv i σ H,⟨xs.length,by simp,cn _,h0⟩,?_⟩;rintro i m σ H ⟨rfl,hi,p⟩;have q:=hl i σ H hi p;by_cases jw:i<xs.length
 ·refine .inr ⟨⟨xs,xs[i],q,by simp[jw]⟩,Pv (i+1),fun σ' H' p'=>⟨xs.length - (i+1),by omega,rfl,jw,p'⟩,fun x H' y=>?_⟩;obtain⟨e,y⟩:=y;subst e;exact hs i x σ _ (y xs q) p
 ·have e:i=xs.length:=by omega
  subst e;exact .inl ⟨⟨xs,q,au _⟩,hd σ H p⟩
theorem pV{lo:Int}{n:Nat}{g:TG}{tb:TS}{D:Ends}{σ:St}{H:Hp}(Pv:Nat->St->Hp->Prop)(h0:Pv 0 σ H)
  (hs:∀i σ H,i<n->Pv i σ H->g (.int (lo+i)) σ H fun σ2 H2=>tb {D with nx:=Pv (i+1),ct:=Pv (i+1),bk:=D.nx} σ2 H2) (hd:∀σ H,Pv n σ H->D.nx σ H):
  ∃W:Nat->Nat->St->Hp->Prop,(∃m,W 0 m σ H)/\∀i m σ H,W i m σ H ->
   ((Itr lo n).stop i H/\D.nx σ H)\/((Itr lo n).go i H/\∃N:St->Hp->Prop,(∀σ' H',N σ' H'->∃m',m'<m/\W (i+1) m' σ' H')/\∀x H',(Itr lo n).yld i H x H'->g x σ H' fun σ2 H2=>tb {D with nx:=N,ct:=N,bk:=D.nx} σ2 H2):=by
 refine⟨fun i m σ H=>m=n - i/\i<=n/\Pv i σ H,⟨n,by simp,cn _,h0⟩,?_⟩;rintro i m σ H ⟨rfl,hi,p⟩;by_cases jw:i<n
 ·refine .inr ⟨jw,Pv (i+1),fun σ' H' p'=>⟨n - (i+1),by omega,rfl,jw,p'⟩,fun x H' y=>?_⟩;obtain⟨e,y⟩:=y;subst e y;exact hs i σ _ jw p
 ·have e:i=n:=by omega
  subst e;exact .inl ⟨au _,hd σ H p⟩
theorem mP{c:TT}{tb:TS}{D:Ends}{σ:St}{H:Hp}(Pv:St->Hp->Prop)(μ:St->Hp->Nat)(h0:Pv σ H)
  (hs:∀σ H,Pv σ H->c σ H fun b H1=>if b=true then tb {D with nx:=fun σ' H'=>Pv σ' H'/\μ σ' H'<μ σ H,ct:=fun σ' H'=>Pv σ' H'/\μ σ' H'<μ σ H,bk:=D.nx} σ H1 else D.nx σ H1)
  (mono:∀σ H Q Q',(∀b H1,Q b H1->Q' b H1)->c σ H Q->c σ H Q'):GF c tb D σ H:=by
 refine⟨fun m σ H=>m=μ σ H/\Pv σ H,⟨_,rfl,h0⟩,?_⟩;rintro m σ H ⟨rfl,p⟩;refine mono σ H _ _ (fun b H1 q=>?_) (hs σ H p);cases b with
 |true=>exact⟨_,fun σ' H' ⟨p',l⟩=>⟨_,l,rfl,p'⟩,q⟩
 |false=>exact q
abbrev R2:=V->V->Hp->VK->Prop
noncomputable def OpR(X:Cx)(f:Value->Value->Sem Value)(r:R2):Prop:=
 ∀(jh:List (Addr×Obj))(s:Shared)(σ:St)(H:Hp)(x y:V)(v u:Value)(Q:VK),Inv X jh σ H s->RelV x v->RelV y u->r x y H Q ->
  wpAny (model X.prog X.w) X.A (f v u) (EP X jh σ Q) X.xe s
noncomputable def UnR(X:Cx)(f:Value->Sem Value)(r:V->Hp->VK->Prop):Prop:=
 ∀(jh:List (Addr×Obj))(s:Shared)(σ:St)(H:Hp)(x:V)(v:Value)(Q:VK),Inv X jh σ H s->RelV x v->r x H Q ->
  wpAny (model X.prog X.w) X.A (f v) (EP X jh σ Q) X.xe s
noncomputable def jV(X:Cx)(f:Value)(r:List V->Hp->VK->Prop):Prop:=
 ∀(jh:List (Addr×Obj))(s:Shared)(σ:St)(H:Hp)(xs:List V)(us:List Value)(Q:VK),Inv X jh σ H s->Vals xs us->r xs H Q ->
  wpAny (model X.prog X.w) X.A (call f us) (EP X jh σ Q) X.xe s
noncomputable def X7(X:Cx)(r:V->Hp->(Bool->Hp->Prop)->Prop):Prop:=
 ∀(jh:List (Addr×Obj))(s:Shared)(σ:St)(H:Hp)(x:V)(v:Value)(Q:Bool->Hp->Prop),Inv X jh σ H s->RelV x v->r x H Q ->
  wpAny (model X.prog X.w) X.A (truthy v) (TP X jh σ Q) X.xe s
noncomputable def tOp(r:R2)(ta tb:TE):TE:=fun σ H Q=>ta σ H fun x H1=>tb σ H1 fun y H2=>r x y H2 Q
def tUn(r:V->Hp->VK->Prop)(ta:TE):TE:=fun σ H Q=>ta σ H fun x H1=>r x H1 Q
noncomputable def rI(C:Int->Int->Prop)(g:Int->Int->V):R2:=fun x y H Q=>∃i j,x=.int i/\y=.int j/\C i j/\Q (g i j) H
noncomputable def rI0(g:Int->Int->V):R2:=fun x y H Q=>∃i j,x=.int i/\y=.int j/\Q (g i j) H
def rU(g:Int->V):V->Hp->VK->Prop:=fun x H Q=>∃i,x=.int i/\Q (g i) H
section
variable {X:Cx}{a b c:Expr}{ta tb tc:TE}{pos:Pos}
theorem N7(ha:PE X a ta)(hb:PE X b tb){jh:List (Addr×Obj)}{s:Shared}{σ:St}{H:Hp}{R:V->V->Hp->Prop}(I:Inv X jh σ H s)
  (h:ta σ H fun x H1=>tb σ H1 fun y H2=>R x y H2) {Q:Value->Shared->Prop}{f:Value->Value->Sem Value}
  (hf:∀v u s2 x y H2,Inv X jh σ H2 s2->RelV x v->RelV y u->R x y H2->wpAny (model X.prog X.w) X.A (f v u) Q X.xe s2):
  wpAny (model X.prog X.w) X.A (eval a X.env) (fun v s₁=>wpAny (model X.prog X.w) X.A (eval b X.env) (fun u s₂=>wpAny (model X.prog X.w) X.A (f v u) Q X.xe s₂) X.xe s₁) X.xe s:=by
 refine thn (ha jh s σ H _ I h) fun v s1 ⟨x,H1,I1,r1,q1⟩=>?_
 refine thn (hb jh s1 σ H1 _ I1 q1) fun u s2 ⟨y,H2,I2,r2,q2⟩=>?_
 exact hf v u s2 x y H2 I2 r1 r2 q2
theorem cI{op:Operator}{r:R2}(ho:OpR X (binaryOp op) r)(ha:PE X a ta)(hb:PE X b tb):PE X (.BinOp a op b pos) (tOp r ta tb):=by intro jh s σ H Q I h;exact wpAny_BinOp (N7 ha hb I h fun v u s2 x y H2 I2 rx ry q=>ho jh s2 σ H2 x y v u Q I2 rx ry q)
theorem LB{op:UnaryOp}{r:V->Hp->VK->Prop}(ho:UnR X (unaryOp op) r)(ha:PE X a ta):PE X (.UnaryOp op a pos) (tUn r ta):=by intro jh s σ H Q I h;exact UnaryOp_ (thn (ha jh s σ H _ I h) fun v s1 ⟨x,H1,I1,r1,q1⟩=>ho jh s1 σ H1 x v Q I1 r1 q1)
theorem opI{f:Value->Value->Sem Value}{C:Int->Int->Prop}{g:Int->Int->Int}
  (rule:∀(i j:Int)(t u:Tok)(s:Shared)(Q:Value->Shared->Prop)(E:Value->Shared->Prop),C i j->Q (.int (g i j) s.toks) {s with toks:=s.toks+1}->wpAny (model X.prog X.w) X.A (f (.int i t) (.int j u)) Q E s):
  OpR X f (rI C fun i j=>.int (g i j)):=by
 intro jh s σ H x y v u Q I rx ry h;obtain⟨i,j,rfl,rfl,hc,q⟩:=h;obtain⟨t,rfl⟩:=rx;obtain⟨t',rfl⟩:=ry;exact rule i j t t' s _ _ hc ⟨.int (g i j),H,I.tok _,⟨_,rfl⟩,q⟩
theorem NY{f:Value->Value->Sem Value}{g:Int->Int->Int}
  (rule:∀(i j:Int)(t u:Tok)(s:Shared)(Q:Value->Shared->Prop)(E:Value->Shared->Prop),Q (.int (g i j) s.toks) {s with toks:=s.toks+1}->wpAny (model X.prog X.w) X.A (f (.int i t) (.int j u)) Q E s):
  OpR X f (rI0 fun i j=>.int (g i j)):=by
 intro jh s σ H x y v u Q I rx ry h;obtain⟨i,j,rfl,rfl,q⟩:=h;obtain⟨t,rfl⟩:=rx;obtain⟨t',rfl⟩:=ry;exact rule i j t t' s _ _ ⟨.int (g i j),H,I.tok _,⟨_,rfl⟩,q⟩
theorem MD{f:Value->Value->Sem Value}{g:Int->Int->Bool}
  (rule:∀(i j:Int)(t u:Tok)(s:Shared)(Q:Value->Shared->Prop)(E:Value->Shared->Prop),Q (.bool (g i j)) s->wpAny (model X.prog X.w) X.A (f (.int i t) (.int j u)) Q E s):
  OpR X f (rI0 fun i j=>.bl (g i j)):=by
 intro jh s σ H x y v u Q I rx ry h;obtain⟨i,j,rfl,rfl,q⟩:=h;obtain⟨t,rfl⟩:=rx;obtain⟨t',rfl⟩:=ry;exact rule i j t t' s _ _ ⟨.bl (g i j),H,I,rfl,q⟩
def X9(i j:Int):Prop:=0<j/\j<1073741824
def NA(i j:Int):Prop:=(-(2^64)<i/\i<2^64)\/(-(2^64)<j/\j<2^64)
theorem NA.ok{i j:Int}(h:NA i j):IntMulOk i j:=by
 rcases h with⟨h1,h2⟩|⟨h1,h2⟩
 ·exact .of_left (intBits_le_64 h1 h2)
 ·exact .of_right (intBits_le_64 h1 h2)
theorem fY:OpR X (binaryOp .Add) (rI0 fun i j=>.int (i+j)):=NY fun _ _ _ _ _ _ _ q=>add_int q
theorem wX:OpR X (binaryOp .Sub) (rI0 fun i j=>.int (i - j)):=NY fun _ _ _ _ _ _ _ q=>sub_int q
theorem pE:OpR X (binaryOp .Mult) (rI NA fun i j=>.int (i*j)):=opI fun _ _ _ _ _ _ _ hc q=>mul_int q hc.ok
theorem wY:OpR X (binaryOp .FloorDiv) (rI X9 fun i j=>.int (i/j)):=opI fun i j _ _ _ _ _ hc q=>by have h1:(0:Int)<j:=hc.1;have h2:j<1073741824:=hc.2;exact floordiv_int (by omega) (by rw[Int.fdiv_eq_ediv_of_nonneg i (by omega)];exact q) (.inl (PyProof.noPylong_small (by omega)))
theorem pG:OpR X (binaryOp .Mod) (rI (fun _ j=>0<j) fun i j=>.int (i%j)):=opI fun i j _ _ _ _ _ hc q=>by have h1:(0:Int)<j:=hc;exact mod_int' (by omega) (by rw[Int.fmod_eq_emod_of_nonneg i (by omega)];exact q)
theorem unI{f:Value->Sem Value}{g:Int->Int}
  (rule:∀(i:Int)(t:Tok)(s:Shared)(Q:Value->Shared->Prop)(E:Value->Shared->Prop),Q (.int (g i) s.toks) {s with toks:=s.toks+1}->wpAny (model X.prog X.w) X.A (f (.int i t)) Q E s):
  UnR X f (rU fun i=>.int (g i)):=by
 intro jh s σ H x v Q I rx h;obtain⟨i,rfl,q⟩:=h;obtain⟨t,rfl⟩:=rx;exact rule i t s _ _ ⟨.int (g i),H,I.tok _,⟨_,rfl⟩,q⟩
theorem G9:UnR X (unaryOp .USub) (rU fun i=>.int (-i)):=unI fun _ _ _ _ _ q=>neg_int q
end
noncomputable def NS:V->V->Bool
 | .non,.non=>true| .non,.int _=>true| .int _,.non=>true| .non,.bl _=>true| .bl _,.non=>true| .non,.str _=>true| .str _,.non=>true
 | .int _,.int _=>true| .bl _,.bl _=>true| .str _,.str _=>true| .byt _,.byt _=>true
 | .int _,.str _=>true| .str _,.int _=>true| .bl _,.str _=>true| .str _,.bl _=>true
 |_,_=>false
def rEq:R2:=fun x y H Q=>NS x y=true/\Q (.bl (decide (x=y))) H
def rNe:R2:=fun x y H Q=>NS x y=true/\Q (.bl (!decide (x=y))) H
theorem oB{i j:Int}:decide (V.int i=V.int j)=(i==j):=by rw[ck];simp
theorem IU{i j:Bool}:decide (V.bl i=V.bl j)=(i==j):=by rw[ck];simp
theorem DA{i j:Str}:decide (V.str i=V.str j)=(i==j):=by rw[ck];simp
theorem DB{i j:Array UInt8}:decide (V.byt i=V.byt j)=(i.toList==j.toList):=by rw[ck];cases i;cases j;simp
section
variable {X:Cx}{a b c:Expr}{ta tb tc:TE}{pos:Pos}
theorem bN{jh:List (Addr×Obj)}{σ:St}{H:Hp}{s:Shared}{Q:VK}{k k':Bool}(I:Inv X jh σ H s)(q:Q (.bl k) H)(e:k=k'):EP X jh σ Q (.bool k') s:=by subst e;exact⟨.bl k,H,I,rfl,q⟩
theorem iX:OpR X (compareOp .Eq) rEq:=by
 intro jh s σ H x y v u Q I rx ry h;obtain⟨hs,q⟩:=h;cases x with
 |non=>
  cases rx;cases y with
  |non=>cases ry;exact PySem.EqNone.eq_none_none (bN I q (by simp))
  |bl j=>cases ry;exact PySem.EqNone.eq_none_bool (bN I q (by simp))
  |int j=>obtain⟨t',rfl⟩:=ry;exact PySem.EqNone.eq_none_int (bN I q (by simp))
  |str j=>obtain⟨t',rfl⟩:=ry;exact PySem.EqNone.eq_none_str (bN I q (by simp))
  |_=>exact absurd (show false=true from hs) bg
 |bl i=>
  cases rx;cases y with
  |non=>cases ry;exact PySem.EqNone.eq_bool_none (bN I q (by simp))
  |bl j=>cases ry;exact eq_bool (bN I q IU)
  |str j=>obtain⟨t',rfl⟩:=ry;exact PySem.EqMixed.eq_bool_str (bN I q (by simp))
  |_=>exact absurd (show false=true from hs) bg
 |int i=>
  obtain⟨t,rfl⟩:=rx;cases y with
  |non=>cases ry;exact PySem.EqNone.eq_int_none (bN I q (by simp))
  |int j=>obtain⟨t',rfl⟩:=ry;exact eq_int (bN I q oB)
  |str j=>obtain⟨t',rfl⟩:=ry;exact PySem.EqMixed.eq_int_str (bN I q (by simp))
  |_=>exact absurd (show false=true from hs) bg
 |str i=>
  obtain⟨t,rfl⟩:=rx;cases y with
  |non=>cases ry;exact PySem.EqNone.eq_str_none (bN I q (by simp))
  |bl j=>cases ry;exact PySem.EqMixed.eq_str_bool (bN I q (by simp))
  |int j=>obtain⟨t',rfl⟩:=ry;exact PySem.EqMixed.eq_str_int (bN I q (by simp))
  |str j=>obtain⟨t',rfl⟩:=ry;exact eq_str (bN I q DA)
  |_=>exact absurd (show false=true from hs) bg
 |byt i=>
  obtain⟨t,rfl⟩:=rx;cases y with
  |byt j=>obtain⟨t',rfl⟩:=ry;exact W.eq_bytes (bN I q DB)
  |_=>exact absurd (show false=true from hs) bg
 |_=>cases y<;>exact absurd (show false=true from hs) bg
theorem LD:OpR X (compareOp .NotEq) rNe:=by
 intro jh s σ H x y v u Q I rx ry h;obtain⟨hs,q⟩:=h;cases x with
 |non=>
  cases rx;cases y with
  |non=>cases ry;exact PySem.EqNone.ne_none_none (bN I q (by simp))
  |bl j=>cases ry;exact PySem.EqNone.ne_none_bool (bN I q (by simp))
  |int j=>obtain⟨t',rfl⟩:=ry;exact PySem.EqNone.ne_none_int (bN I q (by simp))
  |str j=>obtain⟨t',rfl⟩:=ry;exact PySem.EqNone.ne_none_str (bN I q (by simp))
  |_=>exact absurd (show false=true from hs) bg
 |bl i=>
  cases rx;cases y with
  |non=>cases ry;exact PySem.EqNone.ne_bool_none (bN I q (by simp))
  |bl j=>cases ry;exact ne_bool (bN I q (congrArg not IU))
  |str j=>obtain⟨t',rfl⟩:=ry;exact PySem.EqMixed.ne_bool_str (bN I q (by simp))
  |_=>exact absurd (show false=true from hs) bg
 |int i=>
  obtain⟨t,rfl⟩:=rx;cases y with
  |non=>cases ry;exact PySem.EqNone.ne_int_none (bN I q (by simp))
  |int j=>obtain⟨t',rfl⟩:=ry;exact ne_int (bN I q (congrArg not oB))
  |str j=>obtain⟨t',rfl⟩:=ry;exact PySem.EqMixed.ne_int_str (bN I q (by simp))
  |_=>exact absurd (show false=true from hs) bg
 |str i=>
  obtain⟨t,rfl⟩:=rx;cases y with
  |non=>cases ry;exact PySem.EqNone.ne_str_none (bN I q (by simp))
  |bl j=>cases ry;exact PySem.EqMixed.ne_str_bool (bN I q (by simp))
  |int j=>obtain⟨t',rfl⟩:=ry;exact PySem.EqMixed.ne_str_int (bN I q (by simp))
  |str j=>obtain⟨t',rfl⟩:=ry;exact ne_str (bN I q (congrArg not DA))
  |_=>exact absurd (show false=true from hs) bg
 |byt i=>
  obtain⟨t,rfl⟩:=rx;cases y with
  |byt j=>obtain⟨t',rfl⟩:=ry;exact W.ne_bytes (bN I q (congrArg not DB))
  |_=>exact absurd (show false=true from hs) bg
 |_=>cases y<;>exact absurd (show false=true from hs) bg
theorem HJ:OpR X (compareOp .Lt) (rI0 fun i j=>.bl (decide (i<j))):=MD fun _ _ _ _ _ _ _ q=>lt_int q
theorem CP:OpR X (compareOp .LtE) (rI0 fun i j=>.bl (decide (i<=j))):=MD fun _ _ _ _ _ _ _ q=>le_int q
theorem vJ:OpR X (compareOp .Gt) (rI0 fun i j=>.bl (decide (j<i))):=MD fun _ _ _ _ _ _ _ q=>gt_int q
theorem c6(b:Expr){op:CmpOp}(h:op≠ .In:=by decide)(h2:op≠ .NotIn:=by decide):behindInMarks op b=false:=by
 have e1:(op==CmpOp.In)=false:=by cases op<;>first|rfl|exact absurd rfl h
 have e2:(op==CmpOp.NotIn)=false:=by cases op<;>first|rfl|exact absurd rfl h2
 cases b<;>simp[behindInMarks,e1,e2]
theorem n8{op:CmpOp}{r:R2}(ho:OpR X (compareOp op) r)(ha:PE X a ta)(hb:PE X b tb)(hm:behindInMarks op b=false):PE X (.Compare a [op] [b] pos) (tOp r ta tb):=by intro jh s σ H Q I h;exact wpAny_Compare1 (N7 ha hb I h fun v u s2 x y H2 I2 rx ry q=>ho jh s2 σ H2 x y v u Q I2 rx ry q) hm
def NG(t:TE):TT:=fun σ H Q=>t σ H fun x H'=>∃k,x=.bl k/\Q k H'
theorem bX{op:CmpOp}{r:R2}(ho:OpR X (compareOp op) r)(ha:PE X a ta)(hb:PE X b tb)(hm:behindInMarks op b=false):PT X (.Compare a [op] [b] pos) (NG (tOp r ta tb)):=by
 intro jh s σ H Q I h;refine wpAny_isTrue_Compare1 (thn (ha jh s σ H _ I h) fun v s1 ⟨x,H1,I1,r1,q1⟩=>thn (hb jh s1 σ H1 _ I1 q1) fun u s2 ⟨y,H2,I2,r2,q2⟩=>
  thn (ho jh s2 σ H2 x y v u _ I2 r1 r2 q2) fun c s3 ⟨z,H3,I3,r3,k,e,q3⟩=>?_) hm
 subst e;cases r3;exact wpAny_truthy_bool ⟨H3,I3,q3⟩
noncomputable def LY(r r':R2)(ta tb tc:TE):TE:=fun σ H Q=>ta σ H fun x H1=>tb σ H1 fun y H2=>r x y H2 fun z H3=>∃k,z=.bl k/\
 (if k=true then tc σ H3 fun w' H4=>r' y w' H4 Q else Q (.bl false) H3)
theorem yP{op op':CmpOp}{r r':R2}(ho:OpR X (compareOp op) r)(rf:OpR X (compareOp op') r')(ha:PE X a ta)(hb:PE X b tb)(hc:PE X c tc)
  (hm:lastMarks [op,op'] [b,c]=false:=by with_unfolding_all rfl):PE X (.Compare a [op,op'] [b,c] pos) (LY r r' ta tb tc):=by
 intro jh s σ H Q I h;refine Compare_chain (thn (ha jh s σ H _ I h) fun v s1 ⟨x,H1,I1,r1,q1⟩=>chain_link (thn (hb jh s1 σ H1 _ I1 q1) fun u s2 ⟨y,H2,I2,r2,q2⟩=>
  thn (ho jh s2 σ H2 x y v u _ I2 r1 r2 q2) fun d s3 ⟨z,H3,I3,r3,k,e,q3⟩=>?_)) hm
 subst e;cases r3;refine wpAny_truthy_bool ?_;cases k with
 |false=>exact ite_ff ⟨.bl false,H3,I3,rfl,q3⟩
 |true=>exact ite_tt (chain_last (thn (hc jh s3 σ H3 _ I3 q3) fun w' s4 ⟨z',H4,I4,r4,q4⟩=>rf jh s4 σ H4 y z' u w' Q I4 r2 r4 q4))
noncomputable def SF(K:W.Frag)(x:V)(H:Hp)(k:Bool):Prop:=
 match x with
 | .non=>k=false
 | .bl b=>k=b
 | .int i=>k=(i !=0)
 | .str y=>y.length<=sizeLine/\k=((y.length:Int) !=0)
 | .byt y=>y.size<=sizeLine/\k=((y.size:Int) !=0)
 | .ref p=>(∃xs,SqL K H p xs/\k=!xs.isEmpty)\/(∃xs,SqT K H p xs/\k=!xs.isEmpty)\/∃kvs,H p=some (.dK kvs)/\k=!kvs.isEmpty
 |_=>False
theorem BI{κ:Type}{kvs:List (κ×V)}{vs:List (κ×Value)}(r:KV kvs vs):(!vs.isEmpty)=!kvs.isEmpty:=by cases r<;>rfl
theorem tE{xs:List V}{its:List Value}(r:Vals xs its):(!its.toArray.isEmpty)=!xs.isEmpty:=by cases r<;>simp
theorem sY:(sizeLine:Nat)<2^63:=by rw[sizeLine_eq];decide
theorem LN:X7 X (fun x H Q=>∃k,SF X.K x H k/\Q k H):=by
 intro jh s σ H x v Q I rx h;obtain⟨k,e,q⟩:=h;have hl:=sY;have hs:sizeLine=16777216:=sizeLine_eq;cases x with
 |non=>cases rx;have e':k=false:=e;subst e';exact truthy_none ⟨H,I,q⟩
 |bl b=>cases rx;have e':k=b:=e;subst e';exact wpAny_truthy_bool ⟨H,I,q⟩
 |int i=>obtain⟨t,rfl⟩:=rx;have e':k=(i !=0):=e;subst e';exact PySem.P.truthy_int ⟨H,I,q⟩
 |str y=>obtain⟨t,rfl⟩:=rx;obtain⟨hy,e'⟩:y.length<=sizeLine/\k=((y.length:Int) !=0):=e;subst e';exact PySem.P.truthy_str (by omega) ⟨H,I.tok _,q⟩
 |byt y=>obtain⟨t,rfl⟩:=rx;obtain⟨hy,e'⟩:y.size<=sizeLine/\k=((y.size:Int) !=0):=e;subst e';exact W.truthy_bytes (by omega) ⟨H,I.tok _,q⟩
 |ref p=>
  cases rx;have e':(∃xs,SqL X.K H p xs/\k=!xs.isEmpty)\/(∃xs,SqT X.K H p xs/\k=!xs.isEmpty)\/∃kvs,H p=some (.dK kvs)/\k=!kvs.isEmpty:=e
  rcases e' with⟨xs,hx,e'⟩|⟨xs,hx,e'⟩|⟨kvs,hx,e'⟩
  ·subst e';obtain⟨its,r,pl,hz⟩:=I.list hx;have jt:=r.length;exact wpAny_truthy_list pl.isList (by simp only[br];omega) ⟨H,I.tok _,by rw[tE r];exact q⟩
  ·subst e';obtain⟨its,r,pl,hz⟩:=I.tuple hx;have jt:=r.length;exact truthy_tuple pl (by simp only[br];omega) ⟨H,I.tok _,by rw[tE r];exact q⟩
  ·subst e';obtain⟨hz,hS,vs,r,m⟩:kvs.length<=sizeLine/\(p==sysModules)=false/\∃vs,KV kvs vs/\s.heap.DictOf (bY X.prog X.w) p vs:=I.hok p _ hx
   have jt:kvs.length=vs.length:=Paired.length r;exact wpAny_truthy_dict hS m (by omega) ⟨H,I.tok _,by rw[BI r];exact q⟩
 |_=>exact(show False from e).elim
theorem sO(ha:PE X a ta)(he:∀mm,isTrue a X.env mm=(do let v<- mm;standAt a.pos;holding [v] (truthy v))):
  PT X a (fun σ H Q=>ta σ H fun x H'=>∃k,SF X.K x H' k/\Q k H'):=by
 intro jh s σ H Q I h;exact isTrue_plain (thn (ha jh s σ H _ I h) fun v s1 ⟨x,H1,I1,r1,q1⟩=>LN jh s1 σ H1 x v Q I1 r1 q1) (he _)
theorem vals1{x:V}{us:List Value}(r:Vals [x] us):∃u,us=[u]/\RelV x u:=by
 cases r with
 |cons r1 r2=>cases r2;exact⟨_,rfl,r1⟩
theorem vals2{x y:V}{us:List Value}(r:Vals [x,y] us):∃u w',us=[u,w']/\RelV x u/\RelV y w':=by
 cases r with
 |cons r1 r2=>
  cases r2 with
  |cons r3 r4=>cases r4;exact⟨_,_,rfl,r1,r3⟩
theorem FT(hc:X.calm=true):jV X (.builtin "max") (fun xs H Q=>∃i j,xs=[.int i,.int j]/\Q (.int (if j>i then j else i)) H):=by
 intro jh s σ H xs us Q I r h;obtain⟨i,j,rfl,q⟩:=h;obtain⟨u,w',rfl,⟨t,rfl⟩,⟨t',rfl⟩⟩:=vals2 r;refine max_two_ints (I.ok.hd hc) fun h' tk k=>⟨_,H,I.kept k,?_,q⟩
 by_cases hj:j>i
 ·rw[ah hj,ah hj];exact⟨_,rfl⟩
 ·rw[ag hj,ag hj];exact⟨_,rfl⟩
theorem FR(hc:X.calm=true):jV X (.builtin "min") (fun xs H Q=>∃i j,xs=[.int i,.int j]/\Q (.int (if j<i then j else i)) H):=by
 intro jh s σ H xs us Q I r h;obtain⟨i,j,rfl,q⟩:=h;obtain⟨u,w',rfl,⟨t,rfl⟩,⟨t',rfl⟩⟩:=vals2 r;refine min_two_ints (I.ok.hd hc) fun h' tk k=>⟨_,H,I.kept k,?_,q⟩
 by_cases hj:j<i
 ·rw[ah hj,ah hj];exact⟨_,rfl⟩
 ·rw[ag hj,ag hj];exact⟨_,rfl⟩
end
structure G1(h:Heap)(x dx C:Addr)(mA:Str->Option Value):Prop where
 obj:h.get? x=some (W.instObj C dx)
 ns:h.Ns1 dx mA
 ne:dx≠x
theorem EN{h:Heap}{dx:Addr}{mA:Str->Option Value}(n:h.Ns1 dx mA):∃od,h.get? dx=some od/\∀name,W.lookIn name od=some (mA name):=by
 obtain⟨o,es,ep,ho,hd,hk,_,hm⟩:=n;refine⟨o,ho,fun name=>?_⟩;have e:=hm name;unfold nsFind findBy at e;rw[<- Array.find?_toList]at e;unfold W.lookIn;rw[hd];dsimp only;split
 ·rename_i y q;rw[q]at e;exact congrArg some e
 ·rename_i q;rw[q]at e;have a:es.toList.any (·.refKey)=false:=by rw[List.any_eq_false];intro y hy;obtain⟨z,t,nh⟩:=hk y (Array.mem_toList_iff.mp hy);simp[DictEntry.refKey,nh]
  have a':¬es.toList.any (·.refKey)=true:=by rw[a];exact bg
  rw[ag a'];exact congrArg some e
theorem G1.look{h:Heap}{x dx C:Addr}{mA:Str->Option Value}(I:G1 h x dx C mA):∃od,W.InstAt h x (W.instObj C dx) C (some od)/\∀name,W.lookIn name od=some (mA name):=
 let⟨od,ho,hl⟩:=EN I.ns
 ⟨od,⟨I.obj,rfl,rfl,ho⟩,hl⟩
section
variable {prog:Program}{w:World}{A:Around}{E:Value->Shared->Prop}{s:Shared}{K:W.Frag}{x dx C f:Addr}{mA:Str->Option Value}{name:Str}{v:Value}
theorem get_map{expr:Bool}{Q:Value->Shared->Prop}(X:K.In s.heap)(I:G1 s.heap x dx C mA)(hg:W.plainGet K C name=true)(hh:W.hasDictIn K C=true)
  (ha:W.findIn K (.ref C) name=some none) (hv:mA name=some v) (Ab:W.handedIn v=true) (h:Q v {s with toks:=s.toks+1}):
  wpAny (model prog w) A (getAttr (.ref x) name expr) Q E s:=by
 obtain⟨od,J,hl⟩:=I.look;exact W.get_value X J (W.plainGet_of hg).1 (W.findObj_own hh ha rfl (by rw[hl,hv])) Ab h
theorem JK{ns:List Str}{Q:Unit->Shared->Prop}(X:K.In s.heap)(I:G1 s.heap x dx C mA)
  (hs:W.findIn K (.ref C) "__setattr__" =some (some (.builtin "object.__setattr__"))) (hp:W.plainOver K C=true) (ht:W.takerIn K C name=some none) (hh:W.hasDictIn K C=true)
  (hw:PySem.Within mA ns) (hsz:ns.length<=sizeLine)
  (h:∀h',G1 h' x dx C (fun y=>if y=name then some v else mA y)->Heap.SameBut dx s.heap h'->Q () {s with heap:=h',toks:=s.toks+2}):
  wpAny (model prog w) A (setAttr (.ref x) name v) Q E s:=by
 obtain⟨od,J,hl⟩:=I.look;refine W.set_plain X J hs (W.osa_open (s:={s with toks:=s.toks+1}) (r:=none) X J hp ht fun b=>?_);obtain⟨cd,hc,vm⟩:=W.any_some hh;have hx:s.heap.get? x=some ⟨.ref C,some dx,.plain,#[]⟩:=I.obj;refine aa (af (aa (aa (wpAny_loadPart hx (aa (W.Looks.here (s:={s with toks:=s.toks+1}) (W.looks_clsIn X hc) ?_))))));rw[vm];refine af (a:=some dx) (aa (af (aa ?_)));refine wpAny_nsSet1 (s:={s with toks:=s.toks+1}) I.ns fun h' rg si=>?_
 obtain⟨oD,esD,epD,hoD,hdD,hcD⟩:=rg.count (PySem.Within.cons name v hw);refine aa (wpAny_lookBehind hoD (by rw[hdD];exact pastItsLine_dict (df hcD (by rw[bo];omega))) ?_);exact af (h _ ⟨(si.2 _ (Ne.symm I.ne)).trans I.obj,rg,I.ne⟩ si)
theorem HR{R:Result->Shared->Prop}{vs:List Value}{kw:List (Str×Value)}(X:K.In s.heap)(hm:W.makesIn K C=true)
  (hi:W.findIn K (.ref C) "__init__" =some (some (.ref f))) (hf:W.typeIn K (.ref f)=some (.type "function"))
  (h:codeAny (model prog w) (A.under (.builtin "type.__call__" ⟨.ref C::vs,kw⟩)) (.call (.ref f) ⟨.ref (s.heap.objs.size+1)::vs,kw⟩) (W.InitBack (s.heap.objs.size+1) R)
   {s with heap:=(s.heap.push W.emptyDict).push (W.instObj C s.heap.objs.size)}):
  codeAny (model prog w) A (.call (.ref C) ⟨vs,kw⟩) R s:=by
 obtain⟨hh,g,d,t,os⟩:=s;exact W.make_core (W.makes_of X hm) (W.looks_findIn X hi) (fun self=>W.bind_fn X self hf) (.inl rfl) h
end
noncomputable def bR(f:Str)(v:V):List (Str×V)->List (Str×V)
 |[]=>[(f,v)]
 |(g,x)::r=>if g=f then(g,v)::r else(g,x)::bR f v r
theorem bM(f g:Str)(v:V):∀fs:List (Str×V),(bR f v fs).lookup g=if g=f then some v else fs.lookup g
 |[]=>by
  show List.lookup g [(f,v)]=_
  by_cases h:g=f
  ·have hb:(g==f)=true:=beq_iff_eq.mpr h;simp only[List.lookup,hb,ah h]
  ·have hb:(g==f)=false:=beq_eq_false_iff_ne.mpr h;simp only[List.lookup,hb,ag h]
 |(k,x)::r=>by
  have ih:=bM f g v r;rw[show bR f v ((k,x)::r)=(if k=f then(k,v)::r else(k,x)::bR f v r)from rfl];by_cases hk:k=f
  ·rw[ah hk];by_cases h:g=k
   ·have hb:(g==k)=true:=beq_iff_eq.mpr h;simp only[List.lookup,hb,ah (h.trans hk)]
   ·have hb:(g==k)=false:=beq_eq_false_iff_ne.mpr h;simp only[List.lookup,hb,ag (fun e:g=f=>h (e.trans hk.symm))]
  ·rw[ag hk];by_cases h:g=k
   ·have hb:(g==k)=true:=beq_iff_eq.mpr h;simp only[List.lookup,hb,ag (fun e:g=f=>hk (h.symm.trans e))]
   ·have hb:(g==k)=false:=beq_eq_false_iff_ne.mpr h;simp only[List.lookup,hb];exact ih
theorem pN(f:Str)(v:V):∀fs:List (Str×V),f∈(bR f v fs).map (·.1)/\∀g,g∈fs.map (·.1)->g∈(bR f v fs).map (·.1)
 |[]=>⟨by simp[bR],fun g h=>by simp at h⟩
 |(k,x)::r=>by
  obtain⟨i1,i2⟩:=pN f v r;rw[show bR f v ((k,x)::r)=(if k=f then(k,v)::r else(k,x)::bR f v r)from rfl];by_cases hk:k=f
  ·rw[ah hk];subst hk;exact⟨by simp,fun g h=>by simpa using h⟩
  ·rw[ag hk];refine⟨?_,fun g h=>?_⟩
   ·rw[bf];exact ar _ i1
   ·rw[bf]at h ⊢;rcases ao.mp h with e|e
    ·exact ao.mpr (.inl e)
    ·exact ar _ (i2 g e)
theorem dH(f:Str)(v:V):∀fs:List (Str×V),(bR f v fs).length<=fs.length+1
 |[]=>by simp[bR]
 |(k,x)::r=>by
  have ih:=dH f v r;rw[show bR f v ((k,x)::r)=(if k=f then(k,v)::r else(k,x)::bR f v r)from rfl];by_cases hk:k=f
  ·rw[ah hk,bo,bo];omega
  ·rw[ag hk,bo,bo];omega
theorem mM.some_of{v:V}{o:Option Value}(r:mM (some v) o):∃u,o=some u/\RelV v u:=by
 cases o with
 |none=>exact(show False from r).elim
 |some u=>exact⟨u,rfl,r⟩
theorem F2{v:V}{u:Value}(r:RelV v u):W.handedIn u=true:=by
 cases v with
 |non=>cases (show u=Value.none from r);rfl
 |bl b=>cases (show u=Value.bool b from r);rfl
 |int i=>obtain⟨t,e⟩:=(show∃t,u=Value.int i t from r);cases e;rfl
 |str x=>obtain⟨t,e⟩:=(show∃t,u=Value.str x t from r);cases e;rfl
 |byt b=>obtain⟨t,e⟩:=(show∃t,u=Value.bytes b t from r);cases e;rfl
 |flt b=>obtain⟨t,e⟩:=(show∃t,u=Value.float b t from r);cases e;rfl
 |ref a=>cases (show u=Value.ref a from r);rfl
 |ty n=>cases (show u=Value.type n from r);rfl
section
variable {P:Program}{w:World}{H H':Hp}{h h':Heap}{a C dx:Addr}{fs fs':List (Str×V)}
theorem D4(hok:HOk P w H h)(e:H a=some (.ins C dx fs)):∃mA,G1 h a dx C mA/\(∀f,mM (fs.lookup f) (mA f))/\PySem.Within mA (fs.map (·.1))/\fs.length<=1000/\H dx=some (.own a):=by obtain⟨d,z,ne,ob,mA,n,r,q⟩:=(show d3 P w H h a (.ins C dx fs)from hok a _ e);exact⟨mA,⟨ob,n,ne⟩,r,q,z,d⟩
end
structure Cls(K:W.Frag)(C:Addr):Prop where
 pg:W.plainGet K C Str.empty=true
 hd:W.hasDictIn K C=true
 po:W.plainOver K C=true
 sa:W.findIn K (.ref C) "__setattr__" =some (some (.builtin "object.__setattr__"))
theorem Cls.get{K:W.Frag}{C:Addr}(c:Cls K C)(f:Str):W.plainGet K C f=true:=c.pg
def g8(K:W.Frag)(C:Addr)(f:Str):Prop:=W.findIn K (.ref C) f=some none
theorem g8.ND{K:W.Frag}{C:Addr}{f:Str}(n:g8 K C f):W.takerIn K C f=some none:=by unfold W.takerIn;rw[show W.findIn K (.ref C) f=some none from n];rfl
section
variable {X:Cx}{jh:List (Addr×Obj)}{σ:St}{H:Hp}{s:Shared}{a C dx:Addr}{fs:List (Str×V)}{f:Str}{v:V}{A:Around}{E:Value->Shared->Prop}
theorem BQ{b:Bool}{Q:Value->Shared->Prop}(I:Inv X jh σ H s)(e:H a=some (.ins C dx fs))(c:Cls X.K C)(n:g8 X.K C f)(l:fs.lookup f=some v)
  (h:∀u s',Inv X jh σ H s'->RelV v u->Q u s'):wpAny (model X.prog X.w) A (getAttr (.ref a) f b) Q E s:=by
 obtain⟨mA,O,r,_,_,_⟩:=D4 I.hok e;obtain⟨u,hu,ru⟩:=mM.some_of (v:=v) (o:=mA f) (by rw[<- l];exact r f);exact get_map I.kIn O (c.get f) c.hd n hu (F2 ru) (h u _ (I.tok _) ru)
theorem AU{y:V}{u:Value}{Q:Unit->Shared->Prop}(I:Inv X jh σ H s)(e:H a=some (.ins C dx fs))(c:Cls X.K C)(n:g8 X.K C f)(hl:fs.length<1000)(ry:RelV y u)
  (h:∀s',Inv X jh σ (upd H a (.ins C dx (bR f y fs))) s'->Q () s'):wpAny (model X.prog X.w) A (setAttr (.ref a) f u) Q E s:=by
 obtain⟨mA,O,r,wi,_,ho⟩:=D4 I.hok e;have hz:(fs.map (·.1)).length<=sizeLine:=by rw[ai,sizeLine_eq];omega
 refine JK I.kIn O c.sa c.po n.ND c.hd wi hz fun h' O' sb=>h _ ?_
 have hd:∃o,h'.get? dx=some o:=let⟨o,_,_,e',_⟩:=O'.ns;⟨o,e'⟩
 refine I.write (x:=a) (e:=dx) (by rw[e];exact True.intro) (.inr ho) (fun b q hb z=>(sb.2 b hb).trans z) hd ?_;refine⟨by rw[aA O.ne];exact ho,?_,O.ne,O'.obj,_,O'.ns,fun g=>?_,fun g hg=>?_⟩
 ·have:=dH f y fs;omega
 ·show mM ((bR f y fs).lookup g) (if g=f then some u else mA g)
  rw[bM];by_cases q:g=f
  ·rw[ah q,ah q];exact ry
  ·rw[ag q,ag q];exact r g
 ·by_cases q:g=f
  ·rw[q];exact(pN f y fs).1
  ·refine(pN f y fs).2 g (wi g fun z=>hg ?_);show(if g=f then some u else mA g)=none
   rw[ag q];exact z
theorem Inv.made(I:Inv X jh σ H s):Inv X jh σ (upd (upd H s.heap.objs.size (.own (s.heap.objs.size+1))) (s.heap.objs.size+1) (.ins C s.heap.objs.size []))
  {s with heap:=(s.heap.push W.emptyDict).push (W.instObj C s.heap.objs.size)}:=by
 have e1:(s.heap.push W.emptyDict).get? s.heap.objs.size=some W.emptyDict:=ax s.heap rfl;have e2:((s.heap.push W.emptyDict).push (W.instObj C s.heap.objs.size)).get? (s.heap.objs.size+1)=some (W.instObj C s.heap.objs.size):=by
  have:=ax (s.heap.push W.emptyDict) (o:=W.instObj C s.heap.objs.size) rfl
  rwa [fi]at this
 have e3:(s.heap.push W.emptyDict).Ns s.heap.objs.size (fun _=>none):=⟨W.emptyDict,#[],_,e1,rfl,(fun e he=>absurd he (by simp)),fun _=>rfl⟩;have I1:=I.laid (a:=s.heap.objs.size) (o:=.own (s.heap.objs.size+1)) (h':=s.heap.push W.emptyDict) (t':=s.toks) (fun b u q=>aj _ q) (au _) ⟨_,e1⟩;refine I1.laid (a:=s.heap.objs.size+1) (o:=.ins C s.heap.objs.size []) (t':=s.toks) (fun b u q=>aj _ q) (ik (fi _ _)) ?_;have ne:s.heap.objs.size≠s.heap.objs.size+1:=cf (iu _);refine⟨by rw[aA ne,a7],cn _,ne,e2,fun _=>none,(Heap.Ns1.of_empty e3).at fun o q=>aj _ q,fun _=>True.intro,fun y hy=>absurd rfl hy⟩
theorem L0{prog:Program}{w:World}{env:Env}{e:Expr}{f:Str}{pos:Pos}{s:Shared}{Q:Value->Shared->Prop}(hb:attributeBase e f env (eval e env)=eval e env)
  (h:wpAny (model prog w) A (eval e env) (fun o s₁=>wpAny (model prog w) A (getAttr o f true) Q E s₁) E s):wpAny (model prog w) A (eval (.Attribute e f pos) env) Q E s:=
 Attribute_any_ h (by rw[arm_eval_Attribute,hb])
end
noncomputable def SS(K:W.Frag)(ta:TE)(f:Str):TE:=fun σ H Q=>ta σ H fun x H1=>∃a C dx fs v,x=.ref a/\H1 a=some (.ins C dx fs)/\Cls K C/\g8 K C f/\fs.lookup f=some v/\Q v H1
noncomputable def T5(K:W.Frag)(ta tv:TE)(f:Str):TS:=fun D σ H=>tv σ H fun y H1=>ta σ H1 fun x H2=>∃a C dx fs,x=.ref a/\H2 a=some (.ins C dx fs)/\Cls K C/\g8 K C f/\fs.length<1000/\
 D.nx σ (upd H2 a (.ins C dx (bR f y fs)))
section
variable {X:Cx}{o e ke:Expr}{f:Str}{pos kn ng:Pos}{ta tv:TE}
theorem kC(he:PE X e ta)(hb:attributeBase e f X.env (eval e X.env)=eval e X.env):PE X (.Attribute e f pos) (SS X.K ta f):=by intro jh s σ H Q I h;refine L0 hb (thn (he jh s σ H _ I h) fun u s1 ⟨x,H1,I1,rx,a,C,dx,fs,v,ex,ea,c,n,l,q⟩=>?_);subst ex;obtain rfl:u=Value.ref a:=rx;exact BQ I1 ea c n l fun u' s2 I2 ru=>⟨v,H1,I2,ru,q⟩
theorem p9(ha:PE X o ta)(hv:PE X ke tv)(hs:swapsWith ke (some (.Attribute o f kn)) pos.line X.env=pure false):PS X (.Assign [.Attribute o f kn] ke pos) (T5 X.K ta tv f):=by intro jh s σ H D I h;refine plainObj_wpAny_Assign_Attribute (thn (hv jh s σ H _ I h) fun u s1 ⟨y,H1,I1,ry,q⟩=>thn (ha jh s1 σ H1 _ I1 q) fun ov s2 ⟨x,H2,I2,rx,a,C,dx,fs,ex,ea,c,n,l,q2⟩=>?_) hs;subst ex;obtain rfl:ov=Value.ref a:=rx;exact AU I2 ea c n l ry fun s3 I3=>⟨σ,_,I3,q2⟩
end
structure cO(k:Nat)(A:Around):Prop where
 hd:A.handled=none
 dp:A.depth+3*k+5<recursionLimit
 un:A.units+16*k+200<cLine
theorem cO.mono{j k:Nat}{A:Around}(r:cO k A)(h:j<=k):cO j A:=⟨r.hd,by have:=r.dp;omega,by have:=r.un;omega⟩
theorem cO.deeper{k:Nat}{A:Around}(r:cO (k+1) A)(env:Env):cO k (A.deeper env):=
 ⟨r.hd,by have:=r.dp;show A.depth+1+3*k+5< _;omega,by have:=r.un;show A.units+3+16*k+200< _;omega⟩
theorem cO.in1{k:Nat}{A:Around}(r:cO (k+1) A):cO k A.in1:=
 ⟨r.hd,by have:=r.dp;show A.depth+3*k+5< _;omega,by have:=r.un;show A.units+1+16*k+200< _;omega⟩
theorem BC{A:Around}{C:Addr}{us:List Value}{kw:List (Str×Value)}:(A.under (.builtin "type.__call__" ⟨.ref C::us,kw⟩)).depth=A.depth+1:=by first|rfl|simp[Around.under,Code.weight,Code.isCreation,Code.isGuard,Code.isCaller,Code.frames,Code.isFrame,guardIds]
theorem BB{A:Around}{C:Addr}{us:List Value}{kw:List (Str×Value)}:(A.under (.builtin "type.__call__" ⟨.ref C::us,kw⟩)).units=A.units+1:=by first|rfl|simp[Around.under,Code.cUnits,Code.frames,Code.isFrame]
theorem cO.make{k:Nat}{A:Around}(r:cO (k+1) A)(C:Addr)(us:List Value)(kw:List (Str×Value)):cO k (A.under (.builtin "type.__call__" ⟨.ref C::us,kw⟩)):=
 ⟨r.hd,by have:=r.dp;rw[BC];omega,by have:=r.un;rw[BB];omega⟩
theorem cO.depth{k:Nat}{A:Around}(r:cO k A):A.depth<recursionLimit:=by have:=r.dp;omega
theorem cO.units{k:Nat}{A:Around}(r:cO k A):A.units+64<cLine:=by have:=r.un;omega
def LR:TA:=fun _ H Q=>Q [] H
noncomputable def yB(ta:TE)(tr:TA):TA:=fun σ H Q=>ta σ H fun x H1=>tr σ H1 fun xs H2=>Q (x::xs) H2
section
variable {X:Cx}{e:Expr}{es:List Expr}{te:TE}{t:TA}{pos:Pos}
theorem aC:PA X [] LR:=fun _ _ _ _ H Q I h=>Calls.spliced_nil ⟨[],H,I,.nil,h⟩
theorem a8(ha:PE X e te)(hr:PA X es t)(hs:starEach (e::es) X.env=(false,eval e X.env)::starEach es X.env:=by rfl):PA X (e::es) (yB te t):=by
 intro pos jh s σ H Q I h;rw[hs];show wpAny _ _ (spliced ((false,eval e X.env)::backTo pos (starEach es X.env))) _ _ s
 refine Calls.spliced_cons (thn (ha jh s σ H _ I h) fun u s1 ⟨x,H1,I1,r1,q1⟩=>?_);exact thn (hr pos jh s1 σ H1 _ I1 q1) fun us s2 ⟨xs,H2,I2,r2,q2⟩=>⟨x::xs,H2,I2,.cons r1 r2,q2⟩
noncomputable def SK(t:TA):TE:=fun σ H Q=>t σ H fun xs H1=>xs.length<=sizeLine/\∀p,H1 p=none->Q (.ref p) (upd H1 p (.tup xs))
noncomputable def SO(t:TA):TE:=fun σ H Q=>t σ H fun xs H1=>xs.length<=sizeLine/\∀p,H1 p=none->Q (.ref p) (upd H1 p (.lst xs))
theorem d7{x1}(h:PA X es t):PE X (.Tuple es x1 pos) (SK t):=by intro jh s σ H Q I hq;refine wpAny_Tuple_spliced (thn (h pos jh s σ H _ I hq) fun us s1 ⟨xs,H1,I1,r,z,q⟩=>⟨by rw[<- r.length];exact z,?_⟩);have hf:H1 s1.heap.objs.size=none:=I1.hok.fresh (au _);refine⟨.ref s1.heap.objs.size,upd H1 s1.heap.objs.size (.tup xs),I1.laid (t':=s1.toks) (fun b u e=>aj _ e) (au _) ?_,rfl,q _ hf⟩;exact⟨z,us,r,⟨_,ax _ rfl,rfl,_,rfl⟩⟩
theorem eU(h:PA X es t):PE X (.List es pos) (SO t):=by intro jh s σ H Q I hq;refine wpAny_List_spliced (thn (h pos jh s σ H _ I hq) fun us s1 ⟨xs,H1,I1,r,z,q⟩=>⟨by rw[<- r.length];exact z,?_⟩);have hf:H1 s1.heap.objs.size=none:=I1.hok.fresh (au _);refine⟨.ref s1.heap.objs.size,upd H1 s1.heap.objs.size (.lst xs),I1.laid (t':=s1.toks) (fun b u e=>aj _ e) (au _) ?_,rfl,q _ hf⟩;exact⟨z,us,0,r,ax _ rfl⟩
end
abbrev Sp:=List V->Hp->VK->XK->Prop
abbrev CXT:=List Env->Hp->Shared->XK->Value->Shared->Prop
structure oM(P:Program)(w:World)(K:W.Frag)(mg:Str->Option Value)(base:Heap)(A:Around)(outer:List Env)(s:Shared)(H:Hp):Prop where
 frames:A.frames=some outer
 mod:Mod K mg base
 bs:∀b o,base.get? b=some o->s.heap.get? b=some o/\H b=none
 bsz:base.objs.size<=s.heap.objs.size
 kK:s.heap.FunFrames base outer
 frf:∀b∈frs outer,H b=none
 hok:HOk P w H s.heap
 bare:AllBare s.gens
noncomputable def CE(outer:List Env)(P:Program)(w:World)(H:Hp)(s:Shared)(Q:VK)(u:Value)(s':Shared):Prop:=
 ∃v H',s'.os=s.os/\AllBare s'.gens/\Un (frs outer) [] H H' s.heap s'.heap/\HOk P w H' s'.heap/\RelV v u/\Q v H'
noncomputable def CR(CX:CXT)(outer:List Env)(P:Program)(w:World)(H:Hp)(s:Shared)(Q:VK)(E:XK)(r:Result)(s':Shared):Prop:=
 match r with
 | .ok (.ret u)=>CE outer P w H s Q u s'
 | .ok _=>False
 | .error e=>CX outer H s E e s'
structure bJ(P:Program)(w:World)(K:W.Frag)(mg:Str->Option Value)(base:Heap)(CX:CXT)(k:Nat)(f:Addr)(fd:FuncData)(ps:List Str)(sp:Sp):Prop where
 len:∀vs H Q E,sp vs H Q E->vs.length=ps.length
 run:∀(A:Around)(outer:List Env)(s:Shared)(H:Hp)(args:Args)(us:List Value)(vs:List V)(Q:VK)(E:XK),cO k A->oM P w K mg base A outer s H->BindsTo s fd args (ps.zip us)->Vals vs us->sp vs H Q E ->
  codeAny (model P w) A (.call (.ref f) args) (CR CX outer P w H s Q E) s
theorem oM.make{P:Program}{w:World}{K:W.Frag}{mg:Str->Option Value}{base:Heap}{A:Around}{outer:List Env}{s:Shared}{H:Hp}(e:oM P w K mg base A outer s H)(C:Addr)(us:List Value)(kw:List (Str×Value)):
  oM P w K mg base (A.under (.builtin "type.__call__" ⟨.ref C::us,kw⟩)) outer s H:=⟨by first|exact e.frames|(simpa[Around.under,Code.envs,Code.isFrame,pushEnvs]using e.frames),e.mod,e.bs,e.bsz,e.kK,e.frf,e.hok,e.bare⟩
theorem oM.in1{P:Program}{w:World}{K:W.Frag}{mg:Str->Option Value}{base:Heap}{A:Around}{outer:List Env}{s:Shared}{H:Hp}(e:oM P w K mg base A outer s H):
  oM P w K mg base A.in1 outer s H:=⟨e.frames,e.mod,e.bs,e.bsz,e.kK,e.frf,e.hok,e.bare⟩
section
variable {X:Cx}{jh:List (Addr×Obj)}{σ:St}{H:Hp}{s s':Shared}
theorem Inv.IQ(I:Inv X jh σ H s):oM X.prog X.w X.K X.mg X.base X.A X.stack s H:=
 ⟨I.ok.frames,I.ok.mod,I.bs,df I.ok.bsz I.sz,I.stack,I.wN,I.hok,I.bare⟩
theorem Inv.after{Q:VK}{u:Value}(I:Inv X jh σ H s)(h:CE X.stack X.prog X.w H s Q u s'):EP X jh σ Q u s':=by obtain⟨v,H',os,bare,un,hok,r,q⟩:=h;obtain⟨hh,g,d,t,os'⟩:=s';obtain rfl:os'=s.os:=os;exact⟨v,H',I.call (h':=hh) (g':=g) (d':=d) (t':=t) (ch:=[]) un hok bare (fun b z=>absurd z (by simp)),r,q⟩
end
noncomputable def CG(sp:Sp)(qj:List V)(E:XK)(t:TA):TE:=fun σ H Q=>t σ H fun vs H1=>sp (vs++qj) H1 Q E
noncomputable def NL(C:Addr)(sp:Sp)(qj:List V)(E:XK)(t:TA):TE:=fun σ H Q=>t σ H fun vs H1=>∀x dx,H1 x=none->H1 dx=none->dx≠x ->
 sp (.ref x::(vs++qj)) (upd (upd H1 dx (.own x)) x (.ins C dx [])) (fun v H2=>v=.non/\Q (.ref x) H2) E
noncomputable def Binds(K:W.Frag)(fd:FuncData)(ps:List Str)(ds:List Value):Prop:=
 ∀(s:Shared)(us:List Value),K.In s.heap->(us++ds).length=ps.length->BindsTo s fd ⟨us,[]⟩ (ps.zip (us++ds))
theorem Binds.all{K:W.Frag}{fd:FuncData}{ps:List Str}(h:∀us:List Value,us.length=ps.length->bindArgs fd ⟨us,[]⟩=pure (ps.zip us)):Binds K fd ps []:=fun s us _ hl=>by rw[dj]at hl ⊢;exact .of_eq (h us hl)
noncomputable def Passes(CX:CXT)(X:Cx)(E:XK):Prop:=∀(jh:List (Addr×Obj))(σ:St)(H:Hp)(s:Shared)(e:Value)(s':Shared),Inv X jh σ H s->CX X.stack H s E e s'->X.xe e s'
section
variable {X:Cx}{CX:CXT}{k:Nat}{f C:Addr}{fd:FuncData}{ps:List Str}{sp:Sp}{qj:List V}{ds:List Value}{E:XK}{x m:Str}{p pos kc:Pos}{e o:Expr}{es:List Expr}{ta:TE}{t:TA}
theorem M4{jh:List (Addr×Obj)}{σ:St}{H:Hp}{s:Shared}{Q:VK}{us:List Value}{vs:List V}(F:bJ X.prog X.w X.K X.mg X.base CX k f fd ps sp)(hr:cO k X.A)(hb:Binds X.K fd ps ds)(hd:Vals qj ds)(hx:Passes CX X E)
  (I:Inv X jh σ H s) (r:Vals vs us) (h:sp (vs++qj) H Q E):wpAny (model X.prog X.w) X.A (call (.ref f) us) (EP X jh σ Q) X.xe s:=by
 have r2:Vals (vs++qj) (us++ds):=r.append hd;have hl:(us++ds).length=ps.length:=by rw[<- r2.length];exact F.len _ _ _ _ h
 refine wpAny_call (codeAny_mono (F.run X.A X.stack s H ⟨us,[]⟩ (us++ds) (vs++qj) Q E hr I.IQ (hb s us I.kIn hl) r2 h) fun r s' hq=>?_);cases r with
 |error e=>exact hx jh σ H s e s' I hq
 |ok fl=>
  cases fl with
  |ret u=>exact I.after hq
  |next=>exact False.elim hq
  |brk=>exact False.elim hq
  |cont=>exact False.elim hq
theorem JU(F:bJ X.prog X.w X.K X.mg X.base CX k f fd ps sp)(hr:cO k X.A)(hg:Gl X x)(hm:X.mg x=some (.ref f))(hk:W.keepIn X.K (.ref f)=true)(hb:Binds X.K fd ps ds)(hd:Vals qj ds)(hx:Passes CX X E)
  (ha:PA X (e::es) t) (so:(x==("__debug__" : Str))=false:=by decide) (he:starEach (e::es) X.env=(false,eval e X.env)::starEach es X.env:=by rfl) (qo:(backTo pos (starEach es X.env)).any (·.1)=false:=by rfl):
  PE X (.Call (.Name x p) (e::es) [] pos) (CG sp qj E t):=by
 intro jh s σ H Q I h;refine wpAny_Call_Name_kw (jF I hg hm ?_ so);refine W.callWith_K (h₀:=X.base) I.ok.mod.kin hk (thn (ha pos jh s σ H _ I h) fun us s1 ⟨vs,H1,I1,r,q⟩=>⟨I1.kIn,?_⟩) he qo;exact M4 F hr hb hd hx I1 r q
structure Mk(K:W.Frag)(C f:Addr):Prop where
 makes:W.makesIn K C=true
 init:W.findIn K (.ref C) "__init__" =some (some (.ref f))
 fn:W.isFn K (.ref f)=true
 kp:W.keepIn K (.ref C)=true
theorem GL{jh:List (Addr×Obj)}{σ:St}{H:Hp}{s:Shared}{Q:VK}{us:List Value}{vs:List V}(M:Mk X.K C f)(F:bJ X.prog X.w X.K X.mg X.base CX k f fd ps sp)(hr:cO (k+1) X.A)(hb:Binds X.K fd ps ds)(hd:Vals qj ds)
  (hx:Passes CX X E) (I:Inv X jh σ H s) (r:Vals vs us)
  (h:∀x dx,H x=none->H dx=none->dx≠x->sp (.ref x::(vs++qj)) (upd (upd H dx (.own x)) x (.ins C dx [])) (fun v H2=>v=.non/\Q (.ref x) H2) E):
  wpAny (model X.prog X.w) X.A (call (.ref C) us) (EP X jh σ Q) X.xe s:=by
 have hq:=h (s.heap.objs.size+1) s.heap.objs.size (I.hok.fresh (Nat.le_succ _)) (I.hok.fresh (au _)) (cf (iu _));have I2:=Inv.made (C:=C) I;have r2:Vals (V.ref (s.heap.objs.size+1)::(vs++qj)) (Value.ref (s.heap.objs.size+1)::(us++ds)):=.cons rfl (r.append hd);have hl:(Value.ref (s.heap.objs.size+1)::us++ds).length=ps.length:=by have e:=r2.length;rw[F.len _ _ _ _ hq]at e;exact e.symm
 refine wpAny_call (HR (f:=f) I.kIn M.makes M.init (beq_iff_eq.mp M.fn) (codeAny_mono (F.run _ X.stack _ _ ⟨Value.ref (s.heap.objs.size+1)::us,[]⟩ (Value.ref (s.heap.objs.size+1)::(us++ds)) _ _ E (hr.make C us [])
  (I2.IQ.make C us []) (hb _ (Value.ref (s.heap.objs.size+1)::us) I2.kIn hl) r2 hq) fun r s' om=>?_))
 cases r with
 |error e=>exact hx jh σ _ _ e s' I2 om
 |ok fl=>
  cases fl with
  |ret u=>obtain⟨v,H',I3,rv,ev,q3⟩:=I2.after om;subst ev;exact⟨rv,⟨V.ref (s.heap.objs.size+1),H',I3,rfl,q3⟩⟩
  |next=>exact False.elim om
  |brk=>exact False.elim om
  |cont=>exact False.elim om
theorem JS(M:Mk X.K C f)(F:bJ X.prog X.w X.K X.mg X.base CX k f fd ps sp)(hr:cO (k+1) X.A)(hg:Gl X x)(hm:X.mg x=some (.ref C))(hb:Binds X.K fd ps ds)(hd:Vals qj ds)(hx:Passes CX X E)
  (ha:PA X (e::es) t) (so:(x==("__debug__" : Str))=false:=by decide) (he:starEach (e::es) X.env=(false,eval e X.env)::starEach es X.env:=by rfl) (qo:(backTo pos (starEach es X.env)).any (·.1)=false:=by rfl):
  PE X (.Call (.Name x p) (e::es) [] pos) (NL C sp qj E t):=by
 intro jh s σ H Q I h;refine wpAny_Call_Name_kw (jF I hg hm ?_ so);refine W.callWith_K (h₀:=X.base) I.ok.mod.kin M.kp (thn (ha pos jh s σ H _ I h) fun us s1 ⟨vs,H1,I1,r,q⟩=>⟨I1.kIn,?_⟩) he qo;exact GL M F hr hb hd hx I1 r q
end
structure aJ(N P:List Str)(sc:Scope):Prop where
 kind:sc.kind=.function
 co:sc.isCoroutine=false
 gen:sc.isGenerator=false
 nd:N.Nodup
 pre:N.take P.length=P
 par:∀x∈P,sc.names.lookup x=some .local\/sc.names.lookup x=some .cell
 ME:∀y∈sc.names,y.2≠ .free
theorem wC{kindOf:Str->Option NameKind}{x:Str}:∀{binds:List (Str×Value)}{m:Str->Option Value},(∀v,(x,v)∉binds)->bindL kindOf binds m x=m x
 |[],_,_=>rfl
 |(n,v)::r,m,h=>by
  unfold bindL;rw[wC fun w hw=>h w (ar _ hw)];split
  ·have:x≠n:=by rintro rfl;exact h v bb
   simp[this]
  ·rfl
theorem wF{kindOf:Str->Option NameKind}{x:Str}:∀{binds:List (Str×Value)}{m:Str->Option Value},(∀v,(x,v)∉binds)->bindC kindOf binds m x=m x
 |[],_,_=>rfl
 |(n,v)::r,m,h=>by
  unfold bindC;rw[wF fun w hw=>h w (ar _ hw)];split
  ·rfl
  ·have:x≠n:=by rintro rfl;exact h v bb
   simp[this]
theorem wD{kindOf:Str->Option NameKind}{x:Str}{v:Value}:∀{P:List Str}{vs:List Value}{i:Nat}{m:Str->Option Value},P.Nodup->P[i]? =some x->vs[i]? =some v->kindOf x=some .local ->
  bindL kindOf (P.zip vs) m x=some v
 |[],_,_,_,_,h,_,_=>by simp at h
 |_::_,[],_,_,_,_,h,_=>by simp at h
 |p::P,w::vs,0,m,nd,h1,h2,hk=>by
  simp at h1 h2;subst h1;subst h2;show bindL kindOf ((p,w)::P.zip vs) m p=_
  unfold bindL;rw[wC fun v hv=>(bx.mp nd).1 (of_mem_zip hv).1,ah hk];simp
 |p::P,w::vs,i+1,m,nd,h1,h2,hk=>by
  show bindL kindOf ((p,w)::P.zip vs) m x=_
  unfold bindL;exact wD (i:=i) (bx.mp nd).2 (by simpa using h1) (by simpa using h2) hk
theorem wG{kindOf:Str->Option NameKind}{x:Str}{v:Value}:∀{P:List Str}{vs:List Value}{i:Nat}{m:Str->Option Value},P.Nodup->P[i]? =some x->vs[i]? =some v->kindOf x≠some .local ->
  bindC kindOf (P.zip vs) m x=some v
 |[],_,_,_,_,h,_,_=>by simp at h
 |_::_,[],_,_,_,_,h,_=>by simp at h
 |p::P,w::vs,0,m,nd,h1,h2,hk=>by
  simp at h1 h2;subst h1;subst h2;show bindC kindOf ((p,w)::P.zip vs) m p=_
  unfold bindC;rw[wF fun v hv=>(bx.mp nd).1 (of_mem_zip hv).1,ag hk];simp
 |p::P,w::vs,i+1,m,nd,h1,h2,hk=>by
  show bindC kindOf ((p,w)::P.zip vs) m x=_
  unfold bindC;exact wG (i:=i) (bx.mp nd).2 (by simpa using h1) (by simpa using h2) hk
noncomputable def start(N:List Str)(vs:List V):St:=vs.map some++List.replicate (N.length - vs.length) none
noncomputable def uK(CX:CXT)(P:Program)(w:World)(K:W.Frag)(mg:Str->Option Value)(base:Heap)(N:List Str)(qual:Str)(scope:Scope)(f:Addr)(cd:Value)(A:Around)(outer:List Env)(s:Shared)(H:Hp)(E:XK):Cx where
 prog:=P
 w:=w
 K:=K
 mg:=mg
 base:=base
 A:=A.deeper (envOfC qual scope s.heap.objs.size f cd)
 N:=N
 s_0:=s
 H_0:=H
 env:=envOfC qual scope s.heap.objs.size f cd
 outer:=outer
 stack:=envOfC qual scope s.heap.objs.size f cd::outer
 ex:=[]
 calm:=true
 fn:=fun _=>true
 pn:=[]
 xe:=fun e s'=>wpAny (model P w) (A.deeper (envOfC qual scope s.heap.objs.size f cd)) (leaving (envOfC qual scope s.heap.objs.size f cd) e) (fun _ xy=>CX outer H s E e xy) (fun e' xy=>CX outer H s E e' xy) s'
theorem A7{sc:Scope}{n:Nat}{x:Str}(h:sc.names.lookup x=some .cell):∃c,(cellsFrom n sc.names []).lookup x=some c:=by have q:=W.cellsFrom_some sc.names n [] (.inl h);exact Option.isSome_iff_exists.mp q
theorem pP{CX:CXT}{P:Program}{w:World}{K:W.Frag}{mg:Str->Option Value}{base:Heap}{N ps:List Str}{qual:Str}{scope:Scope}{f:Addr}{cd:Value}{A:Around}{outer:List Env}{s s1:Shared}{H:Hp}{E:XK}{us:List Value}{vs:List V}
  (S:aJ N ps scope) (hd:A.handled=none) (e0:oM P w K mg base A outer s H) (hl:vs.length=ps.length) (r:Vals vs us)
  (x:InCallC s s.heap.objs.size (bindL (envOfC qual scope s.heap.objs.size f cd).kindOf (ps.zip us) fun _=>none) (cellsFrom (s.heap.objs.size+1) scope.names []) (bindC (envOfC qual scope s.heap.objs.size f cd).kindOf (ps.zip us) fun _=>none) s1):
  Inv (uK CX P w K mg base N qual scope f cd A outer s H E) [] (start N vs) H s1:=by
 have qo:ps.length<=N.length:=by have:=congrArg List.length S.pre;rw[bu]at this;omega
 obtain⟨h1,tk,rfl,hk⟩:=x.done;have noA:∀b:Addr,b∉ (uK CX P w K mg base N qual scope f cd A outer s H E).ex:=fun b z=>absurd (show b∈([]:List Addr)from z) (by simp)
 refine⟨⟨e0.mod,S.kind,rfl,rfl,au _,fun y z c h1 h2=>?_,fun y hy=>?_,fun y c _ h=>?_,fun _=>hd,Around.frames_deeper e0.frames,.inr ⟨rfl,rfl⟩,fun b z=>absurd z (noA b),e0.bs,e0.bsz,fun b _ _=>noA b,fun b z=>absurd z (noA b),e0.kK,e0.frf⟩,
  rfl,e0.bare,Un.kept hk,⟨_,x.toInCall.ns,fun i y v h1 h2 h3=>?_⟩,fun y c h=>⟨_,x.cell y c h⟩,e0.hok.fresh (au _),fun y c h=>?_,fun p hp=>absurd (show p∈([]:List (Addr×Obj))from hp) (by simp),e0.hok.kept hk,?_⟩
 ·exact name_of_addr x.apart (PySem.mem_of_lookup h1) (PySem.mem_of_lookup h2)
 ·have hy:scope.names.lookup y=some .cell\/scope.names.lookup y=some .free:=hy;rcases hy with hy|hy
  ·exact A7 hy
  ·exact absurd rfl (S.ME _ (PySem.mem_of_lookup hy))
 ·exact le_of_lt (x.above y c (PySem.mem_of_lookup h))
 ·have hi:i<vs.length:=by
   unfold start at h2;by_cases hi:i<vs.length
   ·exact hi
   ·rw[dc (by simpa using hi)]at h2;rw[List.getElem?_replicate]at h2;split at h2<;>cases h2
  have ha:vs[i]? =some v:=by
   unfold start at h2;rw[fj (by simpa using hi),ba]at h2;cases e:vs[i]? with
   |none=>rw[e]at h2;cases h2
   |some a=>rw[e]at h2;cases h2;rfl
  obtain⟨u,hu,rv⟩:=r.get ha;have hp:ps[i]? =some y:=by rw[<- S.pre,fo (by omega)];exact h1
  have ndP:ps.Nodup:=by rw[<- S.pre];exact S.nd.sublist (List.take_sublist _ _)
  refine⟨u,rv,?_⟩;rcases S.par y (az hp)with k|k
  ·exact .inl ⟨k,wD ndP hp hu k⟩
  ·obtain⟨c,e⟩:=A7 (n:=s.heap.objs.size+1) k;refine .inr ⟨.inl k,c,e,?_⟩;have q:=x.cell y c e;rw[wG ndP hp hu (by show scope.names.lookup y≠ _;rw[k];decide)]at q;exact q
 ·exact e0.hok.fresh (le_of_lt (x.above y c (PySem.mem_of_lookup h)))
 ·unfold start;show _=N.length
  rw[aq,ai,List.length_replicate];omega
theorem S6{CX:CXT}{P:Program}{w:World}{K:W.Frag}{mg:Str->Option Value}{base:Heap}{k:Nat}{f:Addr}{name qual:Str}{params:Arguments}{body:List Stmt}{scope:Scope}{dV kV lg pm js ct oc:Value}{an od:Option Addr}
  {mi:Array (Option Value)}{N ps:List Str}{sp:Sp} (lk:K.lookup f=some ⟨oc,od,.func (W.fnOf name qual params body scope dV kV lg pm an js ct),mi⟩) (nj:W.codeIn K js qual=true) (S:aJ N ps scope)
  (len:∀vs H Q E,sp vs H Q E->vs.length=ps.length)
  (kr:∀(A:Around)(outer:List Env)(s:Shared)(H:Hp)(vs:List V)(Q:VK)(E:XK),cO k (A.deeper (envOfC qual scope s.heap.objs.size f js))->sp vs H Q E ->
   ∃t,PSs (uK CX P w K mg base N qual scope f js A outer s H E) body t/\t {nx:=fun _ H'=>Q .non H',rt:=Q} (start N vs) H):
  bJ P w K mg base CX (k+1) f (W.fnOf name qual params body scope dV kV lg pm an js ct) ps sp:=by
 refine⟨len,fun A outer s H args us vs Q E hr e0 hb r sh=>?_⟩;have hl:=len _ _ _ _ sh;have KX:K.In s.heap:=e0.mod.kin.keeps fun b o e=>(e0.bs b o e).1
 have yi:s.heap.NoLimit:=e0.mod.nolimit.keeps fun b o e=>(e0.bs b o e).1
 have pf:∀y∈ps.zip us,scope.names.lookup y.1=some .local\/(scope.names.lookup y.1=some .cell/\((cellsFrom (s.heap.objs.size+1) scope.names []).lookup y.1).isSome=true):=fun⟨n,v⟩ hy=>by
  rcases S.par n (of_mem_zip hy).1 with q|q
  ·exact .inl q
  ·exact .inr ⟨q,W.cellsFrom_some _ _ _ (.inl q)⟩
 refine codeAny_call_function hr.depth (KX _ _ lk) rfl S.co S.gen rfl (W.codeRec_of KX nj) (hb _ _ _ _ ?_);refine wpAny_newFunctionEnv_cells S.kind pf fun env he s1 x=>?_
 subst he;refine⟨yi.keeps x.toInCall.keep,codeAny_func ?_⟩;obtain⟨t,ht,hq⟩:=kr A outer s H vs Q E (hr.deeper _) sh;have I:Inv (uK CX P w K mg base N qual scope f js A outer s H E) [] (start N vs) H s1:=pP S hr.hd e0 hl r x;refine wpAny_mono (ht [] s1 (start N vs) H _ I hq) (fun fl s' hs=>?_) fun e s' hs=>hs
 have fin:∀{σ':St}{H':Hp}{v:V}{u:Value},Inv (uK CX P w K mg base N qual scope f js A outer s H E) [] σ' H' s'->RelV v u->Q v H'->CE outer P w H s Q u s':=
  fun{σ' H' v u} J rv q=>⟨v,H',J.os,J.bare,J.base,J.hok,rv,q⟩
 cases fl with
 |ret u=>obtain⟨v,σ',H',J,rv,q⟩:=hs;exact fin J rv q
 |next=>obtain⟨σ',H',J,q⟩:=hs;exact fin (v:=V.non) (u:=Value.none) J rfl q
 |brk=>obtain⟨_,_,_,q⟩:=hs;exact False.elim q
 |cont=>obtain⟨_,_,_,q⟩:=hs;exact False.elim q
section
variable {X:Cx}{x:Str}{p pos:Pos}{e:Expr}{es:List Expr}{t:TA}{id T:String}{r:List V->Hp->VK->Prop}
noncomputable def tCB(r:List V->Hp->VK->Prop)(t:TA):TE:=fun σ H Q=>t σ H fun vs H1=>r vs H1 Q
theorem bG(hc:jV X (.builtin id) r)(hg:Gl X x)(hm:X.mg x=none)(hv:bootBuiltins x=some (.builtin id))(ha:PA X (e::es) t)(hn:x≠ "__name__" :=by decide)(so:(x==("__debug__" : Str))=false:=by decide)
  (he:starEach (e::es) X.env=(false,eval e X.env)::starEach es X.env:=by rfl) (qo:(backTo pos (starEach es X.env)).any (·.1)=false:=by rfl):PE X (.Call (.Name x p) (e::es) [] pos) (tCB r t):=by
 intro jh s σ H Q I h;refine wpAny_Call_Name_kw (kH I hg hm hv ?_ hn so);exact PyProof.Rows.callWith_builtin1 (thn (ha pos jh s σ H _ I h) fun us s1 ⟨vs,H1,I1,r1,q1⟩=>hc jh s1 σ H1 vs us Q I1 r1 q1) he qo
theorem vF(hc:jV X (.type T) r)(hg:Gl X x)(hm:X.mg x=none)(hv:bootBuiltins x=some (.type T))(ha:PA X (e::es) t)(hn:x≠ "__name__" :=by decide)(so:(x==("__debug__" : Str))=false:=by decide)
  (he:starEach (e::es) X.env=(false,eval e X.env)::starEach es X.env:=by rfl) (qo:(backTo pos (starEach es X.env)).any (·.1)=false:=by rfl):PE X (.Call (.Name x p) (e::es) [] pos) (tCB r t):=by
 intro jh s σ H Q I h;refine wpAny_Call_Name_kw (kH I hg hm hv ?_ hn so);exact PyProof.Rows.callWith_type1 (thn (ha pos jh s σ H _ I h) fun us s1 ⟨vs,H1,I1,r1,q1⟩=>hc jh s1 σ H1 vs us Q I1 r1 q1) he qo
end
end L2
namespace HT
open PySem PyProof.Rows
noncomputable def lexLt:List Int->List Int->Bool
 |[],[]=>false
 |[],_::_=>true
 |_::_,[]=>false
 |x::xs,y::ys=>if x=y then lexLt xs ys else decide (x<y)
theorem fG(x y:Int)(xs ys:List Int):lexLt (x::xs) (y::ys)=if x=y then lexLt xs ys else decide (x<y):=rfl
theorem uE:lexLt [] []=false:=rfl
theorem sZ(y:Int)(ys:List Int):lexLt [] (y::ys)=true:=rfl
theorem t7(x:Int)(xs:List Int):lexLt (x::xs) []=false:=rfl
theorem IP(A:Around)(s:Shared)(a:Int)(t:Tok)(c:Int)(u:Tok):∃e,SeqAt.EqAt A s (.int a t) (.int c u) e/\(e=true↔a=c):=
 ⟨(a==c),SeqAt.EqAt.int_int a t c u,by simp⟩
theorem GR(A:Around)(s:Shared)(a:Int)(t:Tok)(c:Int)(u:Tok)(prog:Program)(w:World)(E:Value->Shared->Prop)(Q:Value->Shared->Prop)(h:Q (.bool (decide (a<c))) s):
  wpAny (model prog w) A (richCompare .Lt (.int a t) (.int c u)) Q E s:=
 (PyProof.Rows.lt_int h:wpAny (model prog w) A (compareOp .Lt (.int a t) (.int c u)) Q E s)
section
open PySem.SeqAt
open PySem.AutoSeq1 (wpAny_loadPart')
open PySem.MeetsSeq PySem.MeetsSeq2 PySem.MeetsSeq3
theorem u7(l b:Addr)(items kh:Array Value)(n n2:Nat)(dd Cy:Option Addr)(sl qe:Array (Option Value))(ns ms:List Int)(hi:IntsAre items.toList ns)(hj:IntsAre kh.toList ms):
  Meets (Builtin.«tuple.__lt__» ⟨[.ref l,.ref b],[]⟩)
   (fun _ R s=>s.heap.get? l=some {cls:=.type "tuple",dict:=dd,data:=.seq items n,slots:=sl}/\s.heap.get? b=some {cls:=.type "tuple",dict:=Cy,data:=.seq kh n2,slots:=qe}/\
    R (.ok (.ret (.bool (lexLt ns ms)))) s):=
 .of_wp fun prog w A R s h=>by
  obtain⟨hp,g,d,tk,os⟩:=s;obtain⟨hl,hb,h⟩:=h;have f2:=AutoSeq1.sub_tuple_tuple;have z1:items.size=ns.length:=by rw[<- hi.length];simp
  have z2:kh.size=ms.length:=by rw[<- hj.length];simp
  wp_walk using wpAny_loadPart' hl,wpAny_loadPart' hb,wpAny_forIn_list _ (fun rest b s'=>b.1=none/\s'=⟨hp,g,d,tk,os⟩/\∃(vs ws:List Value)(zw zy:List Int),rest=vs.zip ws/\
   IntsAre vs zw/\IntsAre ws zy/\zw.length+kh.size=zy.length+items.size/\R (.ok (.ret (.bool (lexLt zw zy)))) ⟨hp,g,d,tk,os⟩) _
  case turn=>
   rintro⟨y,x⟩ rest b s' ⟨qi,rfl,vs,ws,zw,zy,hz,hvi,hwi,jt,hR⟩;cases hvi with
   |nil=>rw[List.zip_nil_left]at hz;cases hz
   |cons a t hvi'=>
    cases hwi with
    |nil=>rw[List.zip_nil_right]at hz;cases hz
    |cons c u hwi'=>
     rw[List.zip_cons_cons]at hz;injection hz with hyx sj
     injection hyx with hy hx
     subst hy hx;rw[fG]at hR;simp only[bo]at jt;obtain⟨e,he,By⟩:=IP A.in1 ⟨hp,g,d,tk,os⟩ a t c u;refine aa (he prog w _ _ ?_);cases e with
     |true=>
      rw[ah (By.mp rfl)]at hR
      wp_walk
      exact⟨rfl,rfl,_,_,_,_,sj,hvi',hwi',by omega,hR⟩
     |false=>
      rw[ag (fun q=>absurd (By.mpr q) bg)]at hR;have hri:=GR A.in1 ⟨hp,g,d,tk,os⟩ a t c u prog w
      wp_walk using hri
      exact⟨_,rfl,by simpa using hR⟩
  case fin=>
   rintro⟨b1,b2⟩ s' ⟨qi,rfl,vs,ws,zw,zy,hz,hvi,hwi,jt,hR⟩;simp only at qi;subst qi;have hv:lexLt zw zy=decide (items.size<kh.size):=by
    cases hvi with
    |nil=>
     cases hwi with
     |nil=>simp only[dt]at jt;rw[uE];exact(decide_eq_false (by omega)).symm
     |cons c u hw=>simp only[dt,bo]at jt;rw[sZ];exact(decide_eq_true (by omega)).symm
    |cons a t hv=>
     cases hwi with
     |nil=>simp only[dt,bo]at jt;rw[t7];exact(decide_eq_false (by omega)).symm
     |cons c u hw=>rw[List.zip_cons_cons]at hz;cases hz
   rw[hv]at hR
   wp_walk
   exact⟨_,rfl,by simpa[Builtin.Tuple.tupleCompareSizes]using hR⟩
  case h=>exact⟨rfl,rfl,items.toList,kh.toList,ns,ms,rfl,hi,hj,by omega,h⟩
end
section
variable {prog:Program}{w:World}{A:Around}{E:Value->Shared->Prop}{s:Shared}
theorem BD{l b:Addr}{items kh:Array Value}{ns ms:List Int}{Q:Value->Shared->Prop}(hl:IsTup s.heap l items)(hb:IsTup s.heap b kh)(hi:IntsAre items.toList ns)(hj:IntsAre kh.toList ms)
  (hu:A.units<cLine) (h:Q (.bool (lexLt ns ms)) s):wpAny (model prog w) A (compareOp .Lt (.ref l) (.ref b)) Q E s:=by
 obtain⟨⟨cls,dd,data,sl⟩,ho,hc,n,hd⟩:=id hl;obtain⟨⟨cls2,Cy,data2,qe⟩,ho2,su,n2,vk⟩:=id hb;simp only at hc hd su vk;subst hc hd su vk;exact richCompare_meets_room (op:=.Lt) ⟨_,ho,rfl⟩ ⟨_,ho2,rfl⟩ PySem.F.slot_tuple_lt PySem.F.entry_tuple_lt (PySem.F.args_tuple_lt_2 _ _) (u7 l b items kh n n2 dd Cy sl qe ns ms hi hj)
  ⟨ho,ho2,show Value.bool (lexLt ns ms)≠Value.notImplemented/\Q (.bool (lexLt ns ms)) s from⟨(fun x=>nomatch x),h⟩⟩ hu
noncomputable def sIx(n d:Nat):Option Int->Nat
 |none=>d
 |some v=>if v<0 then(v+(n:Int)).toNat else min v.toNat n
end
end HT
namespace L2
open PySem PySem.Spec PyProof.Rows
abbrev TO:=St->Hp->(Option Int->Hp->Prop)->Prop
noncomputable def PO(X:Cx)(e:Option Expr)(t:TO):Prop:=
 ∀(jh:List (Addr×Obj))(s:Shared)(σ:St)(H:Hp)(Q:Option Int->Hp->Prop),Inv X jh σ H s->t σ H Q ->
  wpAny (model X.prog X.w) X.A (evalPart e X.env) (fun u s'=>∃o H',Inv X jh σ H' s'/\IsPart u o/\Q o H') X.xe s
def JF:TO:=fun _ H Q=>Q none H
def NI(t:TE):TO:=fun σ H Q=>t σ H fun x H1=>∃i,x=.int i/\Q (some i) H1
theorem intsAre_of{ns:List Int}:∀{us:List Value},Vals (ns.map V.int) us->IntsAre us ns:=by
 induction ns with
 |nil=>intro us r;rw[ie]at r;cases r;exact .nil
 |cons n ns ih=>
  intro us r;rw[bf]at r;cases r with
  |cons r1 r2=>obtain⟨t,e⟩:=r1;subst e;exact .cons n t (ih r2)
section
variable {X:Cx}{e:Expr}{te:TE}{lo hi:Option Expr}{tl th:TO}{pos p2:Pos}
theorem JQ:PO X none JF:=by intro jh s σ H Q I h;rw[evalPart_none];exact af ⟨none,H,I,.none,h⟩
theorem JP(h:PE X e te):PO X (some e) (NI te):=by
 intro jh s σ H Q I hw;rw[evalPart_some];refine thn (h jh s σ H _ I hw) fun u s1 ⟨x,H1,I1,r1,q1⟩=>?_
 obtain⟨i,rfl,q⟩:=q1;obtain⟨t,rfl⟩:=r1;exact⟨some i,H1,I1,.int i t,q⟩
noncomputable def SlR(X:Cx)(r:V->Option Int->Option Int->Hp->VK->Prop):Prop:=
 ∀(jh:List (Addr×Obj))(s:Shared)(σ:St)(H:Hp)(x:V)(v vl vu:Value)(lo hi:Option Int)(sl:Addr)(Q:VK),Inv X jh σ H s->RelV x v->s.heap.IsSliceOf sl vl vu .none->IsPart vl lo->IsPart vu hi->r x lo hi H Q ->
  ∃T id,typeLookup (.type T) "__getitem__" =pure (some (.builtin id))/\s.TypeIs v T/\wpAny (model X.prog X.w) X.A (getItem v (.ref sl)) (EP X jh σ Q) X.xe s
noncomputable def tSl(r:V->Option Int->Option Int->Hp->VK->Prop)(te:TE)(tl th:TO):TE:=fun σ H Q=>te σ H fun x H1=>tl σ H1 fun l H2=>th σ H2 fun u H3=>r x l u H3 Q
theorem HB{r:V->Option Int->Option Int->Hp->VK->Prop}(hr:SlR X r)(he:PE X e te)(hl:PO X lo tl)(hu:PO X hi th):PE X (.Subscript e (.Slice lo hi none p2) pos) (tSl r te tl th):=by
 intro jh s σ H Q I h;refine Subscript_ (thn (he jh s σ H _ I h) fun v s1 ⟨x,H1,I1,r1,q1⟩=>?_);refine wpAny_Slice (thn (hl jh s1 σ H1 _ I1 q1) fun vl s2 ⟨l,H2,I2,pl,q2⟩=>thn (hu jh s2 σ H2 _ I2 q2) fun vu s3 ⟨u,H3,I3,pu,q3⟩=>?_);rw[evalPart_none];refine af ?_;have I4:Inv X jh σ H3 {s3 with heap:=s3.heap.push {cls:=.type "slice",data:=.fields #[vl,vu,.none]}}:=I3.kept (t':=s3.toks) fun b ob q=>aj _ q
 obtain⟨T,id,hT,ht,hg⟩:=hr jh {s3 with heap:=s3.heap.push {cls:=.type "slice",data:=.fields #[vl,vu,.none]}} σ H3 x v vl vu l u s3.heap.objs.size Q I4 r1 (Heap.IsSliceOf.new ..) pl pu q3;show wpAny (model X.prog X.w) X.A (subscriptTail e (.Slice lo hi none p2) v (.ref s3.heap.objs.size)) (EP X jh σ Q) X.xe {s3 with heap:=s3.heap.push {cls:=.type "slice",data:=.fields #[vl,vu,.none]}}
 exact tail_any (ops:=[.ref s3.heap.objs.size,v]) ht hT hg (by with_unfolding_all rfl)
noncomputable def FL(xs:List V)(lo hi:Option Int):List V:=(xs.drop (HT.sIx xs.length 0 lo)).take (HT.sIx xs.length xs.length hi - HT.sIx xs.length 0 lo)
theorem A4(xs:List V)(lo hi:Option Int):(FL xs lo hi).length<=xs.length:=by unfold FL;rw[bu,gm];omega
end
noncomputable def ixN(n:Nat)(i:Int):Option Nat:=if 0<=i then(if i<n then some i.toNat else none)else if -(n:Int)<=i then some (i+n).toNat else none
def atI{α:Type}(xs:List α)(i:Int):Option α:=(ixN xs.length i).bind fun j=>xs[j]?
theorem K6{n:Nat}{i:Int}{j:Nat}(h:ixN n i=some j):seqIndex? i n=some j/\j<n/\-(n:Int)<=i/\i<n:=by
 unfold ixN at h;by_cases h0:0<=i
 ·rw[ah h0]at h;by_cases h1:i<n
  ·rw[ah h1]at h;have e:i.toNat=j:=Option.some.inj h;exact⟨by rw[seqIndex_of h0 h1,e],by omega,by omega,h1⟩
  ·rw[ag h1]at h;cases h
 ·rw[ag h0]at h;by_cases h1:-(n:Int)<=i
  ·rw[ah h1]at h;have e:(i+n).toNat=j:=Option.some.inj h;exact⟨by rw[seqIndex_neg (by omega) h1,e],by omega,h1,by omega⟩
  ·rw[ag h1]at h;cases h
theorem DG{α:Type}{xs:List α}{i:Int}{v:α}(h:atI xs i=some v):∃j,seqIndex? i xs.length=some j/\xs[j]? =some v/\j<xs.length/\-(xs.length:Int)<=i/\i<xs.length:=by
 unfold atI at h;cases e:ixN xs.length i with
 |none=>rw[e]at h;cases h
 |some j=>rw[e]at h;obtain⟨h1,h2,h3,h4⟩:=K6 e;exact⟨j,h1,h,h2,h3,h4⟩
theorem L4{α:Type}{xs:List α}{j:Nat}{v:α}(h:xs[j]? =some v):atI xs (j:Int)=some v:=by
 have hj:j<xs.length:=(ak.mp h).1;have e:ixN xs.length (j:Int)=some j:=by unfold ixN;rw[ah (by omega),ah (by omega)];simp
 unfold atI;rw[e];exact h
def L6(b:Expr):Prop:=∀o i,subscripted b false o i=operate [o,i] (getItem o i)
noncomputable def IxR(X:Cx)(r:R2):Prop:=
 ∀(ke slice:Expr)(jh:List (Addr×Obj))(s:Shared)(σ:St)(H:Hp)(x y:V)(v u:Value)(Q:VK),Inv X jh σ H s->RelV x v->RelV y u->r x y H Q ->
  subscripted slice false v u=operate [v,u] (getItem v u)->wpAny (model X.prog X.w) X.A (subscriptTail ke slice v u) (EP X jh σ Q) X.xe s
noncomputable def MtR(X:Cx)(id:String)(r:V->List V->Hp->VK->Prop):Prop:=
 ∀(jh:List (Addr×Obj))(s:Shared)(σ:St)(H:Hp)(x:V)(xs:List V)(v:Value)(us:List Value)(Q:VK),Inv X jh σ H s->RelV x v->Vals xs us->r x xs H Q ->
  wpAny (model X.prog X.w) X.A (call (.builtin id) (v::us)) (EP X jh σ Q) X.xe s
section
variable {X:Cx}{a b:Expr}{ta tb:TE}{pos:Pos}
theorem cD{r:R2}(hr:IxR X r)(ha:PE X a ta)(hb:PE X b tb)(hs:L6 b):PE X (.Subscript a b pos) (tOp r ta tb):=by intro jh s σ H Q I h;exact Subscript_ (N7 ha hb I h fun v u s2 x y H2 I2 rx ry q=>hr a b jh s2 σ H2 x y v u Q I2 rx ry q (hs _ _))
noncomputable def NW(K:W.Frag):R2:=fun x y H Q=>∃p xs i v,x=.ref p/\y=.int i/\SqL K H p xs/\atI xs i=some v/\Q v H
noncomputable def TF(K:W.Frag):R2:=fun x y H Q=>∃p xs i v,x=.ref p/\y=.int i/\SqT K H p xs/\atI xs i=some v/\Q v H
theorem lP:IxR X (NW X.K):=by
 intro ke slice jh s σ H x y v u Q I rx ry h hs;obtain⟨p,xs,i,z,rfl,rfl,hq,he,q⟩:=h;cases rx;obtain⟨t,rfl⟩:=ry;obtain⟨its,r,pl,hz⟩:=I.list hq;obtain⟨j,h1,h2,h3,h4,h5⟩:=DG he;obtain⟨w,ew,qp⟩:=r.get h2;have hl:=r.length;have hn:=sY;have fin:EP X jh σ Q w s:=⟨z,H,I,qp,q⟩;by_cases h0:0<=i
 ·have hj:i.toNat=j:=by rw[seqIndex_of h0 h5]at h1;exact Option.some.inj h1
  exact item_listR pl.isList h0 (by omega) (by rw[hj];simpa using ew) fin hs
 ·have hj:(i+(its.toArray.size:Int)).toNat=j:=by rw[seqIndex_neg (by omega) h4]at h1;rw[br,<- hl];exact Option.some.inj h1
  exact subscriptTail_builtinR (x:=w) pl.isList.typeIs slot_list_getitem.lookup
   (wpAny_getItem_list_neg (Q:=fun r s'=>r=w/\EP X jh σ Q r s') pl.isList (by omega) (by rw[br]<;>omega) (by omega) (by rw[hj];simpa using ew) ⟨rfl,fin⟩) hs
theorem c7:IxR X (TF X.K):=by
 intro ke slice jh s σ H x y v u Q I rx ry h hs;obtain⟨p,xs,i,z,rfl,rfl,hq,he,q⟩:=h;cases rx;obtain⟨t,rfl⟩:=ry;obtain⟨its,r,pl,hz⟩:=I.tuple hq;obtain⟨j,h1,h2,h3,h4,h5⟩:=DG he;obtain⟨w,ew,qp⟩:=r.get h2;have hl:=r.length;have hn:=sY;have fin:EP X jh σ Q w s:=⟨z,H,I,qp,q⟩;exact subscriptTail_builtinR (x:=w) pl.typeIs slot_tuple_getitem.lookup
  (getItem_tuple (j:=j) (Q:=fun r s'=>r=w/\EP X jh σ Q r s') pl (by omega) (by omega) (by rw[br,<- hl];exact h1) (by simpa using ew) ⟨rfl,fin⟩) hs
theorem wQ(lo hi:Option Int)(n:Nat):(sliceBounds lo hi none n).1=((HT.sIx n 0 lo:Nat):Int)/\(sliceBounds lo hi none n).2.1=((HT.sIx n n hi:Nat):Int)/\(sliceBounds lo hi none n).2.2=1:=by
 refine⟨?_,?_,rfl⟩
 ·cases lo with
  |none=>simp[sliceBounds,HT.sIx]
  |some i=>
   simp only[sliceBounds,HT.sIx,Option.getD_none,show(1:Int)>0 by decide,if_true];by_cases h:i<0
   ·simp only[h,if_true]<;>omega
   ·simp only[h,if_false]<;>omega
 ·cases hi with
  |none=>simp[sliceBounds,HT.sIx]
  |some i=>
   simp only[sliceBounds,HT.sIx,Option.getD_none,show(1:Int)>0 by decide,if_true];by_cases h:i<0
   ·simp only[h,if_true]<;>omega
   ·simp only[h,if_false]<;>omega
theorem uB(its:List Value)(lo hi:Option Int):slicePick its.toArray lo hi none=((its.drop (HT.sIx its.length 0 lo)).take (HT.sIx its.length its.length hi - HT.sIx its.length 0 lo)).toArray:=by obtain⟨h1,h2,h3⟩:=wQ lo hi its.toArray.size;unfold slicePick;rw[h1,h2,h3];simp only[sliceRange_one,pick_run,br]<;>rfl
noncomputable def T8(K:W.Frag):V->Option Int->Option Int->Hp->VK->Prop:=fun x lo hi H Q=>∃a xs,x=.ref a/\SqL K H a xs/\∀p,H p=none->Q (.ref p) (upd H p (.lst (FL xs lo hi)))
theorem JJ:SlR X (T8 X.K):=by intro jh s σ H x v vl vu lo hi sl Q I rx hs pl pu h;obtain⟨a,xs,rfl,hx,q⟩:=h;cases rx;obtain⟨its,r,ht,hz⟩:=I.list hx;have jt:=r.length;refine⟨"list",_,slot_list_getitem.lookup,ht.isList.typeIs,?_⟩;refine wpAny_getItem_list_slice ht.isList hs pl pu .none (by simp) ?_ (by rw[br]<;>omega);rw[uB,<- jt];refine⟨.ref s.heap.objs.size,_,I.laid (t':=s.toks) (o:=.lst (FL xs lo hi)) (fun b ob q=>aj _ q) (au _) ?_,rfl,q _ (I.hok.fresh (au _))⟩;exact⟨df (A4 xs lo hi) hz,_,0,(r.drop (HT.sIx xs.length 0 lo)).take (HT.sIx xs.length xs.length hi - HT.sIx xs.length 0 lo),ax _ rfl⟩
theorem bP:jV X (.builtin "len") (fun xs H Q=>∃p ys,xs=[.ref p]/\(SqL X.K H p ys\/SqT X.K H p ys)/\Q (.int ys.length) H):=by
 intro jh s σ H xs us Q I r h;obtain⟨p,ys,rfl,hq,q⟩:=h;obtain⟨u,rfl,rx⟩:=vals1 r;cases rx;have hn:=sY;rcases hq with hq|hq
 ·obtain⟨its,r',pl,hz⟩:=I.list hq;have jt:=r'.length;exact Calls.call_len_list pl.isList (by simp only[br]<;>omega) ⟨.int ys.length,H,I.tok _,⟨s.toks+1,by rw[br,jt]⟩,q⟩
 ·obtain⟨its,r',pl,hz⟩:=I.tuple hq;have jt:=r'.length;exact len_tuple pl (by simp only[br]<;>omega) ⟨.int ys.length,H,I.tok _,⟨s.toks+1,by rw[br,jt]⟩,q⟩
noncomputable def tyV(K:W.Frag)(T:String)(x:V)(H:Hp):Prop:=match x with
 | .str _=>T= "str"
 | .int _=>T= "int"
 | .ref p=>(T= "list" /\∃xs,SqL K H p xs)\/(T= "tuple" /\∃o,K.lookup p=some o/\o.cls=.type "tuple" /\o.dict=none)\/
   (T= "dict" /\((∃kvs,H p=some (.dK kvs))\/∃kvs,H p=some (.dT kvs)))\/(T= "set" /\∃S n,H p=some (.set S n))
 |_=>False
theorem GA{jh:List (Addr×Obj)}{σ:St}{H:Hp}{s:Shared}{T:String}{x:V}{v:Value}(I:Inv X jh σ H s)(r:RelV x v)(ty:tyV X.K T x H):
  s.TypeIs v T/\∀a,v=.ref a->∃ob,s.heap.get? a=some ob/\ob.dict=none:=by
 cases x with
 |str z=>obtain⟨t,rfl⟩:=r;cases (show T= "str" from ty);exact⟨typeIs_str s z t,fun _ e=>nomatch e⟩
 |int i=>obtain⟨t,rfl⟩:=r;cases (show T= "int" from ty);exact⟨typeIs_int s i t,fun _ e=>nomatch e⟩
 |ref p=>
  cases r;rcases ty with⟨rfl,xs,hq⟩|⟨rfl,o,hk,hc,hd⟩|⟨rfl,hk⟩|⟨rfl,S,n,hk⟩
  ·obtain⟨its,_,pl,_⟩:=I.list hq;refine⟨pl.isList.typeIs,fun a e=>?_⟩;cases e;obtain⟨o,n,e,c,hd,_⟩:=pl;exact⟨o,e,hd⟩
  ·refine⟨⟨o,I.kIn p o hk,hc⟩,fun a e=>?_⟩;cases e;exact⟨o,I.kIn _ o hk,hd⟩
  ·have z:∃o,s.heap.get? p=some o/\o.ExactDict:=by
    rcases hk with⟨kvs,hk⟩|⟨kvs,hk⟩
    ·obtain⟨_,_,_,_,o,_,_,e,ex,_⟩:=I.hok p _ hk;exact⟨o,e,ex⟩
    ·obtain⟨_,_,_,_,o,_,_,e,ex,_⟩:=I.hok p _ hk;exact⟨o,e,ex⟩
   obtain⟨o,e,ex⟩:=z;refine⟨⟨o,e,ex.1⟩,fun a e2=>?_⟩;cases e2;exact⟨o,e,ex.2.1⟩
  ·obtain⟨o,_,_,_,e,ex,_⟩:=I.hok p _ hk;refine⟨⟨o,e,ex.1⟩,fun a e2=>?_⟩;cases e2;exact⟨o,e,ex.2.1⟩
 |_=>exact False.elim ty
noncomputable def SV(K:W.Frag)(T:String)(r:V->List V->Hp->VK->Prop)(to:TE):TE:=fun σ H Q=>to σ H fun x H1=>tyV K T x H1/\r x [] H1 Q
noncomputable def tBM(K:W.Frag)(T:String)(r:V->List V->Hp->VK->Prop)(to:TE)(t:TA):TE:=fun σ H Q=>to σ H fun x H1=>tyV K T x H1/\t σ H1 fun xs H2=>r x xs H2 Q
variable {o e:Expr}{es:List Expr}{to:TE}{t:TA}{name:Str}{kc jn:Pos}{T id:String}{r:V->List V->Hp->VK->Prop}
theorem AZ(pa:PlainAttrs T)(slot:Slot T name id)(Bc:typeOf (.builtin id)=pure (.type "method_descriptor"))(hm:MtR X id r)(ho:PE X o to)
  (ll:attributeBase o name X.env (eval o X.env)=eval o X.env:=by rfl) (my:(kc.endLine==jn.line)=true:=by rfl):PE X (.Call (.Attribute o name kc) [] [] jn) (SV X.K T r to):=by
 intro jh s σ H Q I h;refine wpAny_Call_method0_late ll my (thn (ho jh s σ H _ I h) fun v s1 ⟨x,H1,I1,r1,ty,q1⟩=>?_);obtain⟨h1,h2⟩:=GA I1 r1 ty;exact⟨T,id,pa,slot,Bc,h1,h2,Calls.callWith_builtin rfl (PySem.evalArgs_none (hm jh s1 σ H1 x [] v [] Q I1 r1 .nil q1))⟩
theorem hV(pa:PlainAttrs T)(slot:Slot T name id)(Bc:typeOf (.builtin id)=pure (.type "method_descriptor"))(hm:MtR X id r)(ho:PE X o to)(ha:PA X (e::es) t)
  (ll:attributeBase o name X.env (eval o X.env)=eval o X.env:=by rfl)
  (hfew:((backTo jn (starEach (e::es) X.env)).all (fun x=>!x.1)&& (backToKw jn (keywordEach [] X.env)).all (fun x=>x.1.isSome)
   && decide ((e::es).length+([]:List Keyword).length+(if([]:List Keyword).isEmpty then 0 else 1)<30))=true:=by rfl)
  (my:(kc.endLine==jn.line)=true:=by rfl) (hs:starEach (e::es) X.env=(false,eval e X.env)::starEach es X.env:=by rfl) (yx:(backTo jn (starEach es X.env)).any (·.1)=false:=by rfl):
  PE X (.Call (.Attribute o name kc) (e::es) [] jn) (tBM X.K T r to t):=by
 intro jh s σ H Q I h;refine wpAny_Call_method_late ll hfew my rfl (thn (ho jh s σ H _ I h) fun v s1 ⟨x,H1,I1,r1,ty,q1⟩=>?_);obtain⟨h1,h2⟩:=GA I1 r1 ty;refine⟨T,id,pa,slot,Bc,h1,h2,?_⟩;have hA:=ha jn jh s1 σ H1 _ I1 q1;rw[hs]at hA ⊢;refine Calls.callWith_builtin (by show(false||(backTo jn (starEach es X.env)).any (·.1))=false;rw[yx]<;>rfl) (Calls.evalArgs_plain ?_);exact thn hA fun us s2 ⟨vs,H2,I2,r2,q2⟩=>hm jh s2 σ H2 x vs v us Q I2 r1 r2 q2
end
noncomputable def MtM(X:Cx)(id:String)(r:V->List V->Hp->VK->Prop):Prop:=
 ∀(jh:List (Addr×Obj))(s:Shared)(σ:St)(H:Hp)(x:V)(xs:List V)(v:Value)(us:List Value)(Q:VK),Inv X jh σ H s->RelV x v->Vals xs us->r x xs H Q ->
  wpAny (model X.prog X.w) X.A (call (.builtin id) (v::us)) (EP X jh σ Q) X.xe s
theorem Vals.one:∀{x:V}{us:List Value},Vals [x] us->∃u,us=[u]/\RelV x u
 |_,_,.cons r .nil=>⟨_,rfl,r⟩
theorem Vals.zero:∀{us:List Value},Vals [] us->us=[]
 |_,.nil=>rfl
theorem Vals.dropLast{xs:List V}{us:List Value}(h:Vals xs us):Vals xs.dropLast us.dropLast:=by
 induction h with
 |nil=>exact .nil
 |cons r t ih=>
  cases t with
  |nil=>exact .nil
  |cons q t'=>exact .cons r ih
theorem C0{α:Type}(l:List α):l.eraseIdx (l.length - 1)=l.dropLast:=by
 induction l with
 |nil=>rfl
 |cons a r ih=>
  cases r with
  |nil=>rfl
  |cons b r=>
   have e:(a::b::r).length - 1=((b::r).length - 1)+1:=by have h1:(a::b::r).length=r.length+2:=rfl;have h2:(b::r).length=r.length+1:=rfl;omega
   rw[e,List.eraseIdx_cons_succ,ih];all_goals rfl
section
variable {X:Cx}{jh:List (Addr×Obj)}{σ:St}{H:Hp}{s:Shared}{l b:Addr}{xs ys zs:List V}
theorem Inv.EM{its its':List Value}{n:Nat}{f:Array Value->Array Value}{t':Nat}(I:Inv X jh σ H s)(hH:H l=some (.lst xs))
  (e:s.heap.get? l=some {cls:=.type "list",data:=.seq its.toArray n}) (hf:f its.toArray=its'.toArray) (hv:Vals ys its') (hz:ys.length<=sizeLine):
  Inv X jh σ (upd H l (.lst ys)) {s with heap:=s.heap.update l (Obj.mapSeq f),toks:=t'}:=by
 have q:=PySem.IsL.update e f;rw[hf]at q;refine I.write (x:=l) (e:=l) (by rw[hH];exact trivial) (.inl rfl) (fun b' u hb hu=>(fe s.heap (Obj.mapSeq f) (Ne.symm hb)).trans hu) ⟨_,q⟩ ?_;exact⟨hz,its',_,hv,q⟩
theorem Inv.RV{its:List Value}{t':Nat}(I:Inv X jh σ H s)(hv:Vals ys its)(hz:ys.length<=sizeLine):
  Inv X jh σ (upd H s.heap.objs.size (.lst ys)) {s with heap:=s.heap.push {cls:=.type "list",data:=.seq its.toArray},toks:=t'}:=
 I.laid (fun _ _ q=>aj _ q) (au _) ⟨hz,its,0,hv,ax _ rfl⟩
theorem Inv.fresh(I:Inv X jh σ H s):H s.heap.objs.size=none:=I.hok.fresh (au _)
theorem Inv.EL(I:Inv X jh σ H s)(hH:H l=some (.lst xs)):xs.length<=sizeLine/\∃(its:List Value)(n:Nat),Vals xs its/\xs.length=its.length/\s.heap.get? l=some {cls:=.type "list",data:=.seq its.toArray n}:=by obtain⟨z,its,n,r,e⟩:=I.hok l _ hH;exact⟨z,its,n,r,r.length,e⟩
end
section
variable {X:Cx}
noncomputable def JM:V->List V->Hp->VK->Prop:=fun x vs H Q=>∃l xs y,x=.ref l/\vs=[y]/\H l=some (.lst xs)/\xs.length<sizeLine/\Q .non (upd H l (.lst (xs++[y])))
theorem cF:MtM X "list.append" JM:=by intro jh s σ H x vs v us Q I rx rv h;obtain⟨l,xs,y,rfl,rfl,hH,hz,q⟩:=h;cases rx;obtain⟨u,rfl,ru⟩:=rv.one;obtain⟨z,its,n,r,hl,e⟩:=I.EL hH;refine call_meets F.slot_list_append ⟨_,e,rfl⟩ F.entry_list_append (F.args_list_append_2 _ _) (PySem.list_append l its.toArray n u (by rw[br];omega)) ⟨e,?_⟩;refine⟨.non,_,I.EM (its':=its++[u]) hH e (by simp) (r.append (.cons ru .nil)) ?_,rfl,q⟩;rw[aq,List.length_singleton];omega
noncomputable def T9:V->List V->Hp->VK->Prop:=fun x vs H Q=>∃l xs y,x=.ref l/\vs=[]/\H l=some (.lst xs)/\xs[xs.length - 1]? =some y/\Q y (upd H l (.lst xs.dropLast))
theorem B8:MtM X "list.pop" T9:=by
 intro jh s σ H x vs v us Q I rx rv h;obtain⟨l,xs,y,rfl,rfl,hH,hy,q⟩:=h;cases rx;have hus:=rv.zero;subst hus;obtain⟨z,its,n,r,hl,e⟩:=I.EL hH;obtain⟨u,hu,ru⟩:=r.get hy;have qu:its.toArray[its.toArray.size - 1]? =some u:=by
  show its.toArray[its.length - 1]? =some u
  rw[<- gf,<- hl];exact hu
 refine call_meets F.slot_list_pop ⟨_,e,rfl⟩ F.entry_list_pop (F.args_list_pop_1 _) (MeetsSeq.list_pop_last l its.toArray n u qu (by rw[br];omega)) ⟨e,?_⟩;refine⟨y,_,I.EM (its':=its.dropLast) hH e ?_ r.dropLast ?_,ru,q⟩
 ·show its.toArray.eraseIdxIfInBounds (its.toArray.size - 1)=its.dropLast.toArray
  rw[br,List.eraseIdxIfInBounds_toArray,C0]
 ·rw[gc];omega
end
theorem Vals.ints:∀{ns:List Int}{us:List Value},Vals (ns.map V.int) us->IntsAre us ns
 |[],us,h=>by rw[ie]at h;cases h;exact IntsAre.nil
 |n::ns,us,h=>by
  rw[bf]at h;cases h with
  |cons r t=>obtain⟨k,rfl⟩:=r;exact IntsAre.cons n k (Vals.ints t)
theorem Vals.bls:∀{bs:List Bool}{us:List Value},Vals (bs.map V.bl) us->us=bs.map Value.bool
 |[],us,h=>by rw[ie]at h;cases h;rfl
 |b::bs,us,h=>by
  rw[bf]at h;cases h with
  |cons r t=>cases r;rw[Vals.bls t,bf]
theorem Vals.JL{a:Addr}{us:List Value}(r:Vals [V.ref a] us):us=[Value.ref a]:=by
 cases r with
 |cons r t=>cases t;cases r;rfl
section
variable {prog:Program}{w:World}{A:Around}{E:Value->Shared->Prop}{s:Shared}{l:Addr}{its:List Value}{ns:List Int}{Q:Value->Shared->Prop}
theorem JH(hh:A.handled=none)(hl:s.heap.IsList l its.toArray)(hi:IntsAre its ns)
  (h:∀h' tk t',(∀b o,s.heap.get? b=some o->h'.get? b=some o)->Q (.int ns.sum t') {s with heap:=h',toks:=tk}):wpAny (model prog w) A (call (.builtin "sum") [.ref l]) Q E s:=by
 obtain⟨xs,e⟩:=hi.allInts.items;have hn:numsOf (intItems xs).toList=ns:=by rw[<- e];exact hi.numsOf
 rw[nums_intItems]at hn;rw[e]at hl;refine PySem.sum_intListG hh hl fun h' tk t' hk=>?_
 have:=h h' tk t' hk;rw[preSum_eq,bc (by simp),hn];exact this
theorem K0(hh:A.handled=none)(hl:s.heap.IsList l its.toArray)(hi:IntsAre its ns)(jl:0<ns.length)
  (h:∀h' tk M t',(∀b o,s.heap.get? b=some o->h'.get? b=some o)->M∈ns->(∀a,a∈ns->M<=a)->Q (.int M t') {s with heap:=h',toks:=tk}):wpAny (model prog w) A (call (.builtin "min") [.ref l]) Q E s:=by
 obtain⟨xs,e⟩:=hi.allInts.items;have hn:numsOf (intItems xs).toList=ns:=by rw[<- e];exact hi.numsOf
 rw[nums_intItems]at hn;subst hn;rw[e]at hl;have hsz:0<xs.size:=by simpa using jl
 refine PySem.min_intList hh hl hsz fun v h' tk hv hk=>?_
 obtain⟨t,rfl⟩:=intItems_at hv;obtain⟨h1,h2⟩:=argBest_lt (numAt xs) (xs.size - 1);refine h h' tk _ t hk ?_ fun a ha=>?_
 ·rw[numAt_eq];exact PySem.getD_mem (by rw[ai,dm];omega)
 ·obtain⟨j,hj,rfl⟩:=mem_getD ha;rw[ai,dm]at hj;rw[<- numAt_eq];exact h2 j (by omega)
end
section
variable {X:Cx}
noncomputable def T7(K:W.Frag):List V->Hp->VK->Prop:=fun vs H Q=>∃(a:Addr)(ns:List Int),vs=[V.ref a]/\SqL K H a (ns.map V.int)/\Q (.int ns.sum) H
noncomputable def TC(K:W.Frag):List V->Hp->VK->Prop:=fun vs H Q=>∃(a:Addr)(ns:List Int),vs=[V.ref a]/\SqL K H a (ns.map V.int)/\0<ns.length/\∀m,m∈ns->(∀y,y∈ns->m<=y)->Q (.int m) H
theorem IW(hc:X.calm=true):jV X (.builtin "sum") (T7 X.K):=by intro jh s σ H vs us Q I r h;obtain⟨a,ns,rfl,hs,q⟩:=h;obtain⟨its,rv,hl,_⟩:=I.list hs;rw[Vals.JL r];exact JH (I.ok.hd hc) hl.isList rv.ints fun h' tk t' hk=>⟨.int _,H,I.kept hk,⟨_,rfl⟩,q⟩
theorem MZ(hc:X.calm=true):jV X (.builtin "min") (TC X.K):=by intro jh s σ H vs us Q I r h;obtain⟨a,ns,rfl,hs,jl,q⟩:=h;obtain⟨its,rv,hl,_⟩:=I.list hs;rw[Vals.JL r];exact K0 (I.ok.hd hc) hl.isList rv.ints jl fun h' tk m t' hk h1 h2=>⟨.int _,H,I.kept hk,⟨_,rfl⟩,q m h1 h2⟩
end
theorem HY{prog:Program}{w:World}{A:Around}{E:Value->Shared->Prop}{s:Shared}{l:Addr}{items:Array Value}{Q:Value->Shared->Prop}(hl:s.heap.IsList l items)
  (h:∀s₂:Shared,s₂={s with heap:=s.heap.push {cls:=.type "list_iterator",data:=.fields #[.ref l,.int 0 0]}} ->
   (s₂.heap.IsListIter s.heap.objs.size l 0/\s₂.heap.IsList l items)->l≠s.heap.objs.size->Q (.ref s.heap.objs.size) s₂):wpAny (model prog w) A (pyIter (.ref l)) Q E s:=by
 have jw:l<s.heap.objs.size:=by obtain⟨_,e,_⟩:=hl;exact bj e
 exact wpAny_pyIter_list hl (h _ rfl ⟨⟨_,ax _ rfl,rfl,rfl⟩,hl.push _⟩ (cf jw))
theorem y9{prog:Program}{w:World}{A:Around}{bs:List Bool}{its:List Value}(e:its=bs.map Value.bool):
  TruthOf prog w A (fun i v=>its.toArray[i]? =some v) (fun i=>bs.getD i false):=fun i v s Q E hv hq=>by
 have Ab:its[i]? =some v:=by simpa using hv
 rw[e,ba]at Ab;obtain⟨b,hb,rfl⟩:=Option.map_eq_some_iff.mp Ab;have hg:bs.getD i false=b:=by rw[dk,hb]<;>rfl
 have om:Q (bs.getD i false) s:=hq;rw[hg]at om;exact wpAny_truthy_bool om
theorem any_range:∀bs:List Bool,(List.range bs.length).any (fun i=>bs.getD i false)=bs.any id
 |[]=>rfl
 |b::bs=>by rw[bo,List.range_succ_eq_map,any_cons,any_map,any_cons,<- any_range bs];all_goals rfl
section
variable {X:Cx}
noncomputable def TH(K:W.Frag):List V->Hp->VK->Prop:=fun vs H Q=>∃(a:Addr)(bs:List Bool),vs=[V.ref a]/\SqL K H a (bs.map V.bl)/\Q (.bl (bs.any id)) H
theorem N5(hc:X.calm=true):jV X (.builtin "any") (TH X.K):=by
 intro jh s σ H vs us Q I r h;obtain⟨a,bs,rfl,hs,q⟩:=h;obtain⟨its,rv,hl,_⟩:=I.list hs;rw[Vals.JL r];have hb:=rv.bls;refine call_any_walk (HY hl.isList fun s₂ e2 st jl=>?_);subst e2;refine⟨_,_,_,_,_,_,_,rfl,Walks.list (A:=X.A.in1) (I.ok.hd hc) _ a jl its.toArray,st,y9 hb,fun h' tk hk=>?_⟩;refine⟨.bl _,H,I.kept fun b o eo=>hk b o (fun hmem=>?_) (aj _ eo),?_,q⟩
 ·rcases ao.mp hmem with e1|hmem
  ·exact absurd (e1▸bj eo) (gd _)
  ·cases hmem
 ·show Value.bool _=Value.bool _
  rw[<- any_range,hb,br,ai]
end
mutual
inductive Dp (K:W.Frag) (H:Hp):V->PyData->Prop
 |non:Dp K H .non .none
 |bl (b:Bool):Dp K H (.bl b) (.bool b)
 |int (i:Int):Dp K H (.int i) (.int i)
 |str (x:Str):Dp K H (.str x) (.str x)
 |lst {a:Addr}{xs:List V}{ds:List PyData}:SqL K H a xs->tX K H xs ds->Dp K H (.ref a) (.list ds)
 |tup {a:Addr}{xs:List V}{ds:List PyData}:SqT K H a xs->tX K H xs ds->Dp K H (.ref a) (.tuple ds)
inductive tX (K:W.Frag) (H:Hp):List V->List PyData->Prop
 |nil:tX K H [] []
 |cons {v:V}{vs:List V}{d:PyData}{ds:List PyData}:Dp K H v d->tX K H vs ds->tX K H (v::vs) (d::ds)
end
section
variable {X:Cx}{jh:List (Addr×Obj)}{σ:St}{H:Hp}{s:Shared}
mutual
theorem Dp.reads(I:Inv X jh σ H s):∀(d:PyData)(v:V)(u:Value),Dp X.K H v d->RelV v u->∃as,Reads s.heap u d as
 | .none,_,_,h,r=>by cases h;cases r;exact⟨_,Reads.none⟩
 | .bool b,_,_,h,r=>by cases h;cases r;exact⟨_,Reads.bool b⟩
 | .int i,_,_,h,r=>by cases h;obtain⟨t,rfl⟩:=r;exact⟨_,Reads.int i t⟩
 | .str x,_,_,h,r=>by cases h;obtain⟨t,rfl⟩:=r;exact⟨_,Reads.str x t⟩
 | .list ds,_,_,h,r=>by
  cases h with
  |lst hs ha=>cases r;obtain⟨its,rv,⟨o,n,ho,hc,_,hd⟩,_⟩:=I.list hs;obtain⟨as,hr⟩:=Dp.readsAll I ds _ its ha rv;exact⟨_,Reads.list ho hc hd hr⟩
 | .tuple ds,_,_,h,r=>by
  cases h with
  |tup hs ha=>cases r;obtain⟨its,rv,⟨o,ho,hc,n,hd⟩,_⟩:=I.tuple hs;obtain⟨as,hr⟩:=Dp.readsAll I ds _ its ha rv;exact⟨_,Reads.tuple ho hc hd hr⟩
 | .dict _,_,_,h,_=>by cases h
theorem Dp.readsAll(I:Inv X jh σ H s):∀(ds:List PyData)(vs:List V)(us:List Value),tX X.K H vs ds->Vals vs us->∃as,ReadsAll s.heap us ds as
 |[],_,_,h,r=>by cases h;cases r;exact⟨_,ReadsAll.nil⟩
 |d::ds,_,_,h,r=>by
  cases h with
  |cons h1 h2=>
   cases r with
   |cons r1 r2=>obtain⟨as,q1⟩:=Dp.reads I d _ _ h1 r1;obtain⟨bs,q2⟩:=Dp.readsAll I ds _ _ h2 r2;exact⟨_,ReadsAll.cons q1 q2⟩
end
end
section
variable {X:Cx}
noncomputable def TB(K:W.Frag):R2:=fun x y H Q=>∃d e,Dp K H x d/\Dp K H y e/\SeqAt.shaped d=true/\SeqAt.shaped e=true/\Q (.bl (!PyData.eqv d e)) H
theorem MC(hu:X.A.units+64<cLine):OpR X (compareOp .NotEq) (TB X.K):=by intro jh s σ H x y v u Q I rx ry h;obtain⟨d,e,hd,he,sd,se,q⟩:=h;obtain⟨as,r1⟩:=Dp.reads I d x v hd rx;obtain⟨bs,r2⟩:=Dp.reads I e y u he ry;exact SeqAt.compareNe_shaped r1 r2 sd se hu ⟨.bl _,H,I,rfl,q⟩
end
abbrev J9(h:Heap)(c:Addr)(v:Option Value):Prop:=h.IsCell c v
noncomputable def T6(scope sc:Scope):Scope:=
 {scope with names:=scope.names.map fun(n,k)=>if(k== .free&& sc.kind== .function&& sc.names.lookup n==some .cell)then(n,.cell)else(n,k)}
noncomputable def bE(cells:List (Str×Addr)):List (Str×NameKind)->List (Str×Addr)->List (Str×Addr)
 |[],acc=>acc
 |(n,k)::r,acc=>if k== .free then bE cells r ((n,(cells.lookup n).getD 0)::acc)else bE cells r acc
theorem oI(env:Env)(f:Str×NameKind->List (Str×Addr)->Sem (ForInStep (List (Str×Addr))))
  (hf:∀n k c,f (n,k) c=if k== .free then(do let a<- cellOf env n;pure (.yield ((n,a)::c)))else pure (.yield c)):
  ∀(names:List (Str×NameKind))(acc:List (Str×Addr)),(∀y∈names,y.2=.free->∃c,env.cells.lookup y.1=some c)->forIn names acc f=pure (bE env.cells names acc)
 |[],acc,_=>by rw[List.forIn_nil];rfl
 |(n,k)::r,acc,h=>by
  rw[List.forIn_cons,hf];have ih:=fun acc=>oI env f hf r acc fun y hy=>h y (ar _ hy)
  unfold bE;by_cases hk:(k==NameKind.free)=true
  ·rw[ah hk,ah hk];obtain⟨c,hc⟩:=h (n,k) bb (by simpa using hk);have e:cellOf env n=pure c:=by unfold cellOf;rw[hc]
   rw[e];have e2:(env.cells.lookup n).getD 0=c:=by rw[hc];rfl
   rw[e2];exact ih _
  ·rw[ag hk,ag hk];exact ih _
theorem mK{scope:Scope}{env:Env}(h:∀y∈scope.names,y.2=.free->∃c,env.cells.lookup y.1=some c):closureFor scope env=pure (bE env.cells scope.names []):=by simp only[closureFor];rw[oI env _ (fun n k c=>rfl) scope.names [] h];rfl
theorem mem_lookup{α:Type}:∀{l:List (Str×α)}{n:Str}{c:α},(n,c)∈l->∃c',l.lookup n=some c'
 |(k,v)::r,n,c,h=>by
  rw[fw];cases hb:n==k with
  |true=>exact⟨_,rfl⟩
  |false=>
   rcases ao.mp h with e|h
   ·cases e;simp at hb
   ·exact mem_lookup h
theorem fT{cells:List (Str×Addr)}:∀{names:List (Str×NameKind)}{acc:List (Str×Addr)}{n:Str}{c:Addr},(n,c)∈bE cells names acc->(n,c)∈acc\/((n,.free)∈names/\c=(cells.lookup n).getD 0)
 |[],_,_,_,h=>.inl h
 |(m,k)::r,acc,n,c,h=>by
  unfold bE at h;split at h
  ·rename_i hk;have hk:k=.free:=by simpa using hk
   rcases fT h with h|⟨h1,h2⟩
   ·rcases ao.mp h with e|h
    ·cases e;exact .inr ⟨hk▸bb,rfl⟩
    ·exact .inl h
   ·exact .inr ⟨ar _ h1,h2⟩
  ·rcases fT h with h|⟨h1,h2⟩
   ·exact .inl h
   ·exact .inr ⟨ar _ h1,h2⟩
theorem kU{cells:List (Str×Addr)}:∀{names:List (Str×NameKind)}{acc:List (Str×Addr)}{p:Str×Addr},p∈acc->p∈bE cells names acc
 |[],_,_,h=>h
 |(m,k)::r,acc,p,h=>by
  unfold bE;split
  ·exact kU (ar _ h)
  ·exact kU h
theorem iB{cells:List (Str×Addr)}:∀{names:List (Str×NameKind)}{acc:List (Str×Addr)}{n:Str},(n,.free)∈names->(n,(cells.lookup n).getD 0)∈bE cells names acc
 |(m,k)::r,acc,n,h=>by
  unfold bE;rcases ao.mp h with e|h
  ·cases e;exact kU bb
  ·split
   ·exact iB h
   ·exact iB h
theorem j3:∀{names:List (Str×NameKind)}{h:Heap}{acc:List (Str×Addr)}{x:Str}{c:Addr},(x,c)∈cellsFrom h.objs.size names acc ->
  (x,c)∈acc\/((x,.cell)∈names/\h.objs.size<=c/\J9 (pushCells h names) c none)
 |[],_,_,_,_,h=>.inl h
 |(n,k)::r,h,acc,x,c,hm=>by
  unfold cellsFrom at hm;unfold pushCells;split at hm
  ·rename_i hk;rw[ah hk];have hk:k=.cell:=by simpa using hk
   rw[<- fi h {cls:=.type "cell",data:=.cell none}]at hm;rcases j3 hm with hm|⟨h1,h2,h3⟩
   ·rcases ao.mp hm with e|hm
    ·cases e;exact .inr ⟨hk▸bb,au _,_,pushCells_keeps r _ _ _ (ax _ rfl),rfl⟩
    ·exact .inl hm
   ·rw[fi]at h2;exact .inr ⟨ar _ h1,jf h2,h3⟩
  ·rename_i hk;rw[ag hk];rcases j3 hm with hm|⟨h1,h2,h3⟩
   ·exact .inl hm
   ·exact .inr ⟨ar _ h1,h2,h3⟩
theorem lT:∀{names:List (Str×NameKind)}{n:Nat}{acc:List (Str×Addr)}{p:Str×Addr},p∈acc->p∈cellsFrom n names acc
 |[],_,_,_,h=>h
 |(m,k)::r,n,acc,p,h=>by
  unfold cellsFrom;split
  ·exact lT (ar _ h)
  ·exact lT h
theorem pZ:∀{names:List (Str×NameKind)}{n:Nat}{acc:List (Str×Addr)}{x:Str},(x,.cell)∈names->∃c,(x,c)∈cellsFrom n names acc
 |(m,k)::r,n,acc,x,h=>by
  unfold cellsFrom;rcases ao.mp h with e|h
  ·cases e;exact⟨n,lT bb⟩
  ·split
   ·exact pZ h
   ·exact pZ h
theorem pY:∀{names:List (Str×NameKind)}{h:Heap}{acc:List (Str×Addr)}{x y:Str}{c:Addr},(∀p∈acc,p.2<h.objs.size)->(∀x y c,(x,c)∈acc->(y,c)∈acc->x=y) ->
  (x,c)∈cellsFrom h.objs.size names acc->(y,c)∈cellsFrom h.objs.size names acc->x=y
 |[],_,_,_,_,_,_,hi,h1,h2=>hi _ _ _ h1 h2
 |(n,k)::r,h,acc,x,y,c,hl,hi,h1,h2=>by
  unfold cellsFrom at h1 h2;split at h1
  ·rename_i hk;rw[ah hk]at h2;rw[<- fi h {cls:=.type "cell",data:=.cell none}]at h1 h2;refine pY (h:=h.push _) (fun p hp=>?_) (fun x y c a b=>?_) h1 h2
   ·rw[fi];rcases ao.mp hp with rfl|hp
    ·exact iu _
    ·exact jg (hl p hp)
   ·rcases ao.mp a with e|a<;>rcases ao.mp b with e'|b
    ·cases e;cases e';rfl
    ·cases e;exact absurd (hl _ b) (gd _)
    ·cases e';exact absurd (hl _ a) (gd _)
    ·exact hi _ _ _ a b
  ·rename_i hk;rw[ag hk]at h2;exact pY hl hi h1 h2
theorem qR{M:Model}{A:Around}{E:Value->Shared->Prop}{s:Shared}{scope:Scope}{globals:Addr}{closure:List (Str×Addr)}{qual:Str}{func:Option Addr}{code:Value}{sy:Env}{builtins:Addr}{Q:Env->Shared->Prop}
  (h:Q (newEnv scope s.heap.objs.size globals (cellsFrom (s.heap.objs.size+1) scope.names closure) qual func code (some sy) builtins)
   {s with heap:=pushCells (s.heap.push {cls:=.type "dict",data:=.dict #[]}) scope.names}):
  wpAny M A (newFunctionEnv scope globals closure [] qual func code (some sy) builtins) Q E s:=by
 simp only[newFunctionEnv,Option.isSome_some,if_true];refine aa (wpAny_alloc ?_);refine aa (wpAny_layCells _ (fun n k c=>rfl) scope.names closure _ _ ?_);rw[show({s with heap:=s.heap.push {cls:=.type "dict",data:=.dict #[]}}:Shared).heap.objs.size=s.heap.objs.size+1 from fi ..];rw[List.forIn_nil];exact aa (af (af h))
theorem kF{sc:Scope}:∀{names:List (Str×NameKind)}{x:Str}{k:NameKind},
  (names.map fun(n,k)=>if(k==NameKind.free&& sc.kind== .function&& sc.names.lookup n==some .cell)then(n,NameKind.cell)else(n,k)).lookup x=some k ->
  ∃k',names.lookup x=some k'/\(k=k'\/(k'=.free/\k=.cell))
 |[],_,_,h=>by simp at h
 |(n,k₀)::r,x,k,h=>by
  have ih:=@kF sc r x k;have h':List.lookup x ((if(k₀==NameKind.free&& sc.kind== .function&& sc.names.lookup n==some .cell)=true then(n,NameKind.cell)else(n,k₀))::(r.map _))=some k:=h;cases hx:x==n with
  |true=>
   simp only[fw,hx];by_cases hc:(k₀==NameKind.free&& sc.kind== .function&& sc.names.lookup n==some .cell)=true
   ·rw[ah hc]at h';simp only[fw,hx]at h';cases h';simp only[dh,beq_iff_eq]at hc;exact⟨k₀,rfl,.inr ⟨hc.1.1,rfl⟩⟩
   ·rw[ag hc]at h';simp only[fw,hx]at h';cases h';exact⟨_,rfl,.inl rfl⟩
  |false=>
   simp only[fw,hx];by_cases hc:(k₀==NameKind.free&& sc.kind== .function&& sc.names.lookup n==some .cell)=true
   ·rw[ah hc]at h';simp only[fw,hx]at h';exact ih h'
   ·rw[ag hc]at h';simp only[fw,hx]at h';exact ih h'
structure oN(N:List Str)(sc scope:Scope)(own:List (Str×Nat)):Prop where
 kind:scope.kind=.function
 uniq:∀y∈scope.names,scope.names.lookup y.1=some y.2
 ix:∀p∈own,N[p.2]? =some p.1
 free:∀y∈scope.names,y.2=.free->sc.names.lookup y.1=some .cell\/sc.names.lookup y.1=some .free
 own:∀y∈scope.names,y.2=.local\/y.2=.cell->y.1∈own.map (·.1)\/y.1∉N
def wipe(σ:St):List Nat->St
 |[]=>σ
 |v::vs=>(wipe σ vs).set v none
theorem gZ(σ:St):∀vs:List Nat,(wipe σ vs).length=σ.length
 |[]=>rfl
 |v::vs=>by unfold wipe;rw[List.length_set,gZ σ vs]
theorem lG{σ:St}{i:Nat}{x:V}:∀{vs:List Nat},(wipe σ vs)[i]? =some (some x)->σ[i]? =some (some x)/\i∉vs
 |[],h=>⟨h,by simp⟩
 |v::vs,h=>by
  unfold wipe at h;by_cases hi:v=i
  ·subst hi;by_cases hv:v<(wipe σ vs).length
   ·rw[List.getElem?_set_self hv]at h;cases h
   ·rw[List.getElem?_eq_none (by simpa using hv)]at h;cases h
  ·rw[List.getElem?_set_ne hi]at h;obtain⟨h1,h2⟩:=lG h;exact⟨h1,by simp only[ao,not_or];exact⟨fun e=>hi e.symm,h2⟩⟩
noncomputable abbrev Cx.blk(X:Cx)(s:Shared)(H:Hp)(scope:Scope)(jk:Env)(fp:List Addr):Cx:={X with s_0:=s,H_0:=H,env:=jk,outer:=X.stack,ex:=fp,fn:=fun x=>scope.names.lookup x==some .cell,pn:=[],xe:=fun _ _=>False}
section
variable {X:Cx}{jh:List (Addr×Obj)}{σ:St}{H:Hp}{s:Shared}
theorem r8{scope:Scope}{own:List (Str×Nat)}{fp:List Addr}(I:Inv X jh σ H s)(ok:oN X.N X.env.scope scope own)(hN:X.N.Nodup)(xc:∀b∈fp,mO X jh H b/\b<s.heap.objs.size):
  Inv (X.blk s H scope (compEnvC scope (cellsFrom (s.heap.objs.size+1) scope.names (bE X.env.cells scope.names [])) s.heap.objs.size X.env) fp) [] (wipe σ (own.map (·.2))) H {s with heap:=pushCells (s.heap.push {cls:=.type "dict",data:=.dict #[]}) scope.names}:=by
 have kq:∀y∈scope.names,y.2=.free->∃c,X.env.cells.lookup y.1=some c:=fun y hy e=>by
  rcases ok.free y hy e with k|k
  ·exact I.ok.has _ (.inl k)
  ·exact I.ok.has _ (.inr k)
 generalize hcenv:compEnvC scope (cellsFrom (s.heap.objs.size+1) scope.names (bE X.env.cells scope.names [])) s.heap.objs.size X.env=jk;have kp:∀b o,s.heap.get? b=some o->(pushCells (s.heap.push {cls:=.type "dict",data:=.dict #[]}) scope.names).get? b=some o:=fun b o e=>pushCells_keeps _ _ _ _ (aj _ e)
 have hL:jk.locals=s.heap.objs.size:=by rw[<- hcenv];rfl
 have mz:jk.cells=cellsFrom (s.heap.objs.size+1) scope.names (bE X.env.cells scope.names []):=by rw[<- hcenv];rfl
 have hsc:jk.scope=T6 scope X.env.scope:=by rw[<- hcenv];rfl
 rw[<- fi s.heap {cls:=.type "dict",data:=.dict #[]}]at mz;have cm:∀{y c},(y,c)∈bE X.env.cells scope.names []->X.env.cells.lookup y=some c/\c<s.heap.objs.size:=fun{y c} hm=>by
  rcases fT hm with hm|⟨h1,rfl⟩
  ·cases hm
  ·obtain⟨c,hc⟩:=kq _ h1 rfl;rw[hc];obtain⟨w,z⟩:=I.cell _ _ hc;exact⟨rfl,z.lt⟩
 have mem:∀{y c},jk.cells.lookup y=some c->(X.env.cells.lookup y=some c/\c<s.heap.objs.size)\/(s.heap.objs.size+1<=c/\J9 (pushCells (s.heap.push {cls:=.type "dict",data:=.dict #[]}) scope.names) c none):=fun{y c} e=>by
  rw[mz]at e;rcases j3 (PySem.mem_of_lookup e)with hm|⟨_,h2,h3⟩
  ·exact .inl (cm hm)
  ·rw[fi]at h2;exact .inr ⟨h2,h3⟩
 have look:∀{y},scope.names.lookup y=some .free->∃c,jk.cells.lookup y=some c/\X.env.cells.lookup y=some c:=fun{y} hl=>by
  have hy:(y,NameKind.free)∈scope.names:=PySem.mem_of_lookup hl;obtain⟨c',e'⟩:=mem_lookup (lT (names:=scope.names) (n:=(s.heap.push {cls:=.type "dict",data:=.dict #[]}).objs.size) (iB (cells:=X.env.cells) (acc:=[]) hy));rw[<- mz]at e';refine⟨c',e',?_⟩;rw[mz]at e';rcases j3 (PySem.mem_of_lookup e')with hm|⟨h1,_,_⟩
  ·exact(cm hm).1
  ·have:=ok.uniq _ h1;rw[hl]at this;cases this
 have okB:(X.blk s H scope jk fp).Ok:=by
  refine⟨I.ok.mod,by show jk.scope.kind=_;rw[hsc];exact ok.kind,by show jk.globals=_;rw[<- hcenv];exact I.ok.glob,by show jk.builtins=_;rw[<- hcenv];exact I.ok.blt,by show s.heap.objs.size<=jk.locals;rw[hL];exact au _,
   fun y z c e1 e2=>?_,fun y hy=>?_,fun y c z e=>?_,I.ok.hd,I.ok.frames,.inl rfl,fun b hb=>⟨?_,fun y c e z=>?_⟩,I.bs,df I.ok.bsz I.sz,fun b o e hb=>?_,fun b hb z=>?_,I.stack,I.wN⟩
  ·have e1:jk.cells.lookup y=some c:=e1;have e2:jk.cells.lookup z=some c:=e2;rw[mz]at e1 e2;refine pY (fun p hp=>?_) (fun y z c a b=>I.ok.inj y z c (cm a).1 (cm b).1) (PySem.mem_of_lookup e1) (PySem.mem_of_lookup e2);rw[fi];exact jg (cm (y:=p.1) (c:=p.2) hp).2
  ·show∃c,jk.cells.lookup y=some c
   have key:∀k,jk.kindOf y=some k->(k=.cell\/k=.free)->∃c,jk.cells.lookup y=some c:=fun k hk Bx=>by
    unfold Env.kindOf at hk;rw[hsc]at hk;obtain⟨k',e,r⟩:=kF hk;have:k'=.cell\/k'=.free:=by
     rcases r with rfl|⟨rfl,_⟩
     ·exact Bx
     ·exact .inr rfl
    rcases this with rfl|rfl
    ·obtain⟨c,hm⟩:=pZ (n:=(s.heap.push {cls:=.type "dict",data:=.dict #[]}).objs.size) (acc:=bE X.env.cells scope.names []) (PySem.mem_of_lookup e);obtain⟨c',e'⟩:=mem_lookup hm;exact⟨c',by rw[mz];exact e'⟩
    ·obtain⟨c,h1,_⟩:=look e;exact⟨c,h1⟩
   rcases hy with hy|hy
   ·exact key _ hy (.inl rfl)
   ·exact key _ hy (.inr rfl)
  ·have z:(scope.names.lookup y==some NameKind.cell)=true:=z;have z:scope.names.lookup y=some .cell:=by simpa using z
   have e:jk.cells.lookup y=some c:=e;rw[mz]at e;rcases j3 (PySem.mem_of_lookup e)with hm|⟨_,h2,_⟩
   ·rcases fT hm with hm|⟨h1,_⟩
    ·cases hm
    ·have q:=ok.uniq _ h1;rw[z]at q;cases q
   ·rw[fi]at h2;exact jf h2
  ·show b≠jk.locals
   rw[hL];exact cf (xc b hb).2
  ·have e:jk.cells.lookup y=some c:=e;rcases mem e with⟨h1,_⟩|⟨h1,_⟩
   ·exact(xc b hb).1.2.2.2.2.1 y c h1 z
   ·have h2:s.heap.objs.size+1<=b:=by rw[<- z];exact h1
    exact absurd (bz (xc b hb).2 (jf h2)) (gd _)
  ·rcases(xc b hb).1.2.2.2.1 with z|z
   ·exact I.ok.HN b o e z
   ·exact absurd (bz (bj e) (df I.ok.bsz z)) (gd _)
  ·rcases ao.mp (I.rX b z)with z|z
   ·exact(xc b hb).1.2.1 z
   ·exact(xc b hb).1.2.2.1 z
 refine⟨okB,rfl,I.bare,Un.kept kp,⟨fun _=>none,?_,fun i y av e1 e2 e3=>?_⟩,fun y c e=>?_,?_,fun y c e=>?_,fun p hp=>?_,I.hok.kept kp,by rw[gZ];exact I.len⟩
 ·show Heap.Ns _ jk.locals _
  rw[hL];exact Heap.Ns.keeps (Heap.Ns.new ..) fun b o e=>pushCells_keeps _ _ _ _ e
 ·obtain⟨e2,jl⟩:=lG e2;have vc:scope.names.lookup y=some .free/\(jk.kindOf y=some .cell\/jk.kindOf y=some .free):=by
   have key:∀k,jk.scope.names.lookup y=some k->k=.local\/k=.cell\/k=.free->scope.names.lookup y=some .free/\(jk.kindOf y=some .cell\/jk.kindOf y=some .free):=fun k hk Bx=>by
    have hk0:=hk;rw[hsc]at hk;obtain⟨k',e,r⟩:=kF hk;have no:¬(k'=.local\/k'=.cell):=fun hh=>by
     rcases ok.own _ (PySem.mem_of_lookup e) hh with e'|e'
     ·obtain⟨p,hp,hpy⟩:=aw.mp e';have e3:=ok.ix p hp;have:p.1=y:=hpy;rw[this]at e3;exact jl (aw.mpr ⟨p,hp,sV hN e3 e1⟩)
     ·exact e' (az e1)
    rcases r with rfl|⟨rfl,rfl⟩
    ·rcases Bx with rfl|rfl|rfl
     ·exact absurd (.inl rfl) no
     ·exact absurd (.inr rfl) no
     ·exact⟨e,.inr hk0⟩
    ·exact⟨e,.inl hk0⟩
   have e3:Vis jk.scope y:=e3;rcases e3 with e3|e3|e3
   ·exact key _ e3 (.inl rfl)
   ·exact key _ e3 (.inr (.inl rfl))
   ·exact key _ e3 (.inr (.inr rfl))
  obtain⟨m,hn,hl⟩:=I.loc;have hvis:Vis X.env.scope y:=(ok.free _ (PySem.mem_of_lookup vc.1) rfl).elim (fun k=>.inr (.inl k)) (fun k=>.inr (.inr k));obtain⟨w,r,q⟩:=hl i y av e1 e2 hvis;refine⟨w,r,.inr ⟨vc.2,?_⟩⟩;obtain⟨c,h1,h2⟩:=look vc.1;rcases q with⟨k,_⟩|⟨_,c',e',z⟩
  ·have k:X.env.scope.names.lookup y=some .local:=k;rcases ok.free _ (PySem.mem_of_lookup vc.1) rfl with k'|k'<;>rw[show X.env.scope.names.lookup y=_ from k']at k<;>cases k
  ·rw[h2]at e';cases e';exact⟨c,h1,z.keeps kp⟩
 ·have e:jk.cells.lookup y=some c:=e;rcases mem e with⟨h1,_⟩|⟨_,z⟩
  ·obtain⟨w,z⟩:=I.cell y c h1;exact⟨w,z.keeps kp⟩
  ·exact⟨_,z⟩
 ·show H jk.locals=none
  rw[hL];exact I.hok.fresh (au _)
 ·have e:jk.cells.lookup y=some c:=e;rcases mem e with⟨h1,_⟩|⟨h1,_⟩
  ·exact I.gU y c h1
  ·exact I.hok.fresh (jf h1)
 ·exact absurd (show p∈([]:List (Addr×Obj))++[]from hp) (by simp)
theorem J1{E:Value->Shared->Prop}{D:Addr}{xs:List V}{y:V}{v:Value}{Q:Value->Shared->Prop}(I:Inv X jh σ H s)(hD:H D=some (.lst xs))(hz:xs.length<sizeLine)(r:RelV y v)
  (h:∀s',Inv X jh σ (upd H D (.lst (xs++[y]))) s'->Q .none s'):wpAny (model X.prog X.w) X.A (call (.builtin "list.append") [.ref D,v]) Q E s:=by
 obtain⟨ql,its,n,ri,e⟩:=I.hok D _ hD;have hl:=ri.length;refine append_at (hsz:=by rw[br];omega) e fun h' sb rf=>?_
 refine h {s with heap:=h'} (I.write (t':=s.toks) (by rw[hD];trivial) (.inl rfl) (fun b u hb q=>(sb.2 b hb).trans q) ⟨_,rf⟩ ⟨by rw[aq];exact hz,its++[v],n+1,ri.append (.cons r .nil),?_⟩);rw[rf];simp
noncomputable def PTs(X:Cx)(oj:List Expr)(t:TT):Prop:=
 ∀(jh:List (Addr×Obj))(s:Shared)(σ:St)(H:Hp)(Q:Bool->Hp->Prop),Inv X jh σ H s->t σ H Q ->
  wpAny (model X.prog X.w) X.A (forIn oj true fun c r=>if r=true then do let ok<- isTrue c X.env (eval c X.env);pure (ForInStep.yield ok)else pure (ForInStep.yield r)) (TP X jh σ Q) X.xe s
def GD:TT:=fun _ H Q=>Q true H
theorem hO:PTs X [] GD:=fun _ _ _ H _ I h=>wpAny_tests_nil ⟨H,I,h⟩
theorem JN{c:Expr}{t:TT}(h:PT X c t):PTs X [c] t:=fun jh s σ H Q I hw=>wpAny_tests_one (h jh s σ H Q I hw)
end
theorem wM{α:Type}{t:Sem α}{Q Q':α->Shared->Prop}{M:Model}{A:Around}{E:Value->Shared->Prop}{s:Shared}(h:wpAny M A t Q (fun _ _=>False) s)(hQ:∀a s,Q a s->Q' a s):wpAny M A t Q' E s:=wpAny_mono h hQ fun _ _ z=>False.elim z
theorem oH{prog:Program}{w:World}{A:Around}{R:Result->Shared->Prop}{s:Shared}{lj md iter:Expr}{oj:List Expr}{scope:Scope}{pos:Pos}{it acc:Value}{env:Env}(I:Nat->Shared->Prop)
  (turn:∀n s,I n s->wpAny (model prog w) A (pyNext it) (fun r s₁=>match r with
   |none=>R (.ok .next) s₁
   |some v=>wpAny (model prog w) A (letOwnedTupleGo md it v) (fun _ s₁'=>wpAny (model prog w) A (assign md env v) (fun _ s₂=>
     wpAny (model prog w) A (forIn oj true fun c r=>if r=true then do let ok<- isTrue c env (eval c env);pure (ForInStep.yield ok)else pure (ForInStep.yield r)) (fun ok s₃=>
      if ok=true then wpAny (model prog w) A (eval lj env) (fun x s₄=>
       wpAny (model prog w) A (call (.builtin "list.append") [acc,x]) (fun _ s₅=>∃m,m<n/\I m s₅) (notedBy (model prog w) A env fun e s'=>R (.error e) s') s₄) (notedBy (model prog w) A env fun e s'=>R (.error e) s') s₃
      else∃m,m<n/\I m s₃) (notedBy (model prog w) A env fun e s'=>R (.error e) s') s₂) (notedBy (model prog w) A env fun e s'=>R (.error e) s') s₁') (notedBy (model prog w) A env fun e s'=>R (.error e) s') s₁) (notedBy (model prog w) A env fun e s'=>R (.error e) s') s)
  (n:Nat) (h:I n s):
  codeAny (model prog w) A (.compLoop (.ListComp lj [⟨md,iter,oj,0⟩] scope pos) 0 it acc env) R s:=by
 refine codeAny_loop rfl I (fun n s hI=>?_) n h;show wpAny _ A ((compTurn (.ListComp lj [⟨md,iter,oj,0⟩] scope pos) 0 it acc env).onRaise (fun x=>do noteFrame x env;theTreesLotGoes x)) _ _ s
 refine wpAny_noted ?_;rw[compTurn_list];refine aa (wpAny_standAt (aa (wpAny_mono (turn n s hI) (fun r s₁ h₁=>?_) fun _ _ h'=>h')));cases r with
 |none=>exact af h₁
 |some v=>
  refine aa (wpAny_mono h₁ (fun _ s₁' h₁'=>?_) fun _ _ h'=>h');refine aa (wpAny_mono h₁' (fun _ s₂ h₂=>aa (wpAny_mono h₂ (fun ok s₃ h₃=>?_) fun _ _ h'=>h')) fun _ _ h'=>h');cases ok with
  |false=>exact af ⟨rfl,h₃⟩
  |true=>exact aa (aa (wpAny_mono h₃ (fun x s₄ h₄=>aa (wpAny_mono h₄ (fun _ s₅ h₅=>af (af ⟨rfl,h₅⟩)) fun _ _ h'=>h')) fun _ _ h'=>h'))
section
variable {X:Cx}
noncomputable def tLc(wi:TI)(g:TG)(tt:TT)(te:TE)(vs:List Nat):TE:=fun σ H Q=>wi σ H fun J H1=>∀D,H1 D=none->∃W:Nat->Nat->Hp->Prop,(∃m,W 0 m (upd H1 D (.lst [])))/\∀i m H,W i m H ->
 (J.stop i H/\Q (.ref D) H)\/(J.go i H/\∃Nx:Hp->Prop,(∀H',Nx H'->∃m',m'<m/\W (i+1) m' H')/\∀x H',J.yld i H x H'->g x (wipe σ vs) H' fun σ2 H2=>wipe σ2 vs=wipe σ vs/\tt σ2 H2 fun b H3=>
  if b=true then te σ2 H3 fun y H4=>∃acc,H4 D=some (.lst acc)/\acc.length<sizeLine/\Nx (upd H4 D (.lst (acc++[y])))else Nx H3)
theorem CV{jh:List (Addr×Obj)}{s:Shared}{σ:St}{H:Hp}{Q:VK}{lj tg iter:Expr}{oj:List Expr}{scope:Scope}{own:List (Str×Nat)}{pos kn:Pos}{wi:TI}{g:TG}{tt:TT}{te:TE}{use:Option (Value->Sem Unit)}{Qf:Value->Shared->Prop}
  (hc:X.calm=true) (hN:X.N.Nodup) (I:Inv X jh σ H s) (hi:PI X tg iter wi) (ok:oN X.N X.env.scope scope own)
  (hg:∀(s:Shared)(H:Hp)(C:Addr)(cl:List (Str×Addr))(fp:List Addr),PG (X.blk s H scope (compEnvC scope cl C X.env) fp) tg g) (ht:∀(s:Shared)(H:Hp)(C:Addr)(cl:List (Str×Addr))(fp:List Addr),PTs (X.blk s H scope (compEnvC scope cl C X.env) fp) oj tt)
  (he:∀(s:Shared)(H:Hp)(C:Addr)(cl:List (Str×Addr))(fp:List Addr),PE (X.blk s H scope (compEnvC scope cl C X.env) fp) lj te) (hs:∀x,foldedSetIterable iter X.env x=pure x)
  (h:tLc wi g tt te (own.map (·.2)) σ H Q)
  (hRR:∀D C s' m H',Inv X jh σ H' s'->Q (.ref D) H'->s'.heap.Ns C m->mO X jh H' C->compPost (model X.prog X.w) X.A X.xe use Qf (.ref D) C (.ok .next) s'):
  wpAny (model X.prog X.w) X.A (comprehension (.ListComp lj [⟨tg,iter,oj,0⟩] scope pos) scope X.env kn (newList []) false (eval iter X.env) use) Qf X.xe s:=by
 have kq:∀y∈scope.names,y.2=.free->∃c,X.env.cells.lookup y.1=some c:=fun y hy e=>by
  rcases ok.free y hy e with k|k
  ·exact I.ok.has _ (.inl k)
  ·exact I.ok.has _ (.inr k)
 refine wpAny_comprehension_free (use:=use) rfl hs (mK kq) ok.kind (fun y hy e=>by rw[ok.uniq y hy,e])
  (thn (hi jh s σ H _ I h) fun xv s1 hx=>thn hx fun itv s2 h2=>?_)
 obtain⟨it,fp,tn,J,H2,e,I2,T,xw,f2,q⟩:=h2;subst e;refine wpAny_newObj_type (qR ?_) (by show 0<=sizeLine;decide);generalize hD:s2.heap.objs.size=D;have hDn:H2 D=none:=I2.hok.fresh (ik hD);obtain⟨W,⟨m0,w0⟩,turn⟩:=q D hDn;generalize hs3:({s2 with heap:=s2.heap.push {cls:=.type "list",data:=.seq ([]:List Value).toArray}}:Shared)=s3;have I3:Inv X jh σ (upd H2 D (.lst [])) s3:=by rw[<- hs3];refine I2.laid (t':=s2.toks) (fun b o e=>aj _ e) (ik hD) ⟨cn _,[],0,.nil,?_⟩;rw[<- hD];exact ax _ rfl
 have h3:s3.heap=s2.heap.push {cls:=.type "list",data:=.seq ([]:List Value).toArray}:=by rw[<- hs3]
 have sz:∀b∈fp,b<s2.heap.objs.size:=fun b hb=>by obtain⟨o,e,_⟩:=T.obj _ _ xw b hb;exact bj e
 have f3:∀b∈fp,mO X jh (upd H2 D (.lst [])) b/\b<s3.heap.objs.size:=fun b hb=>by have jw:=sz b hb;refine⟨⟨?_,(f2 b hb).2⟩,by rw[h3,fi];exact jg jw⟩;rw[aA (by rw[<- hD];exact cf jw)];exact(f2 b hb).1
 have zr:tn 0 s3.heap:=T.keep _ _ _ xw fun b _ o e=>by rw[h3];exact aj _ e
 have I4:=r8 I3 ok hN f3;have pg:=hg s3 (upd H2 D (.lst [])) s3.heap.objs.size (cellsFrom (s3.heap.objs.size+1) scope.names (bE X.env.cells scope.names [])) fp;have pt:=ht s3 (upd H2 D (.lst [])) s3.heap.objs.size (cellsFrom (s3.heap.objs.size+1) scope.names (bE X.env.cells scope.names [])) fp;have pe:=he s3 (upd H2 D (.lst [])) s3.heap.objs.size (cellsFrom (s3.heap.objs.size+1) scope.names (bE X.env.cells scope.names [])) fp;show codeAny _ _ (.compStart (.ListComp lj [⟨tg,iter,oj,0⟩] scope pos) 0 (.ref it) (.ref D) (compEnvC scope (cellsFrom (s3.heap.objs.size+1) scope.names (bE X.env.cells scope.names [])) s3.heap.objs.size X.env)) (compPost (model X.prog X.w) X.A X.xe use Qf (.ref D) s3.heap.objs.size) {s3 with heap:=pushCells (s3.heap.push {cls:=.type "dict",data:=.dict #[]}) scope.names}
 have Ax:∀b∈fp,(upd H2 D (.lst [])) b=none:=fun b hb=>(f3 b hb).1.1
 generalize hce:compEnvC scope (cellsFrom (s3.heap.objs.size+1) scope.names (bE X.env.cells scope.names [])) s3.heap.objs.size X.env=ce at I4 pg pt pe ⊢;have cL:ce.locals=s3.heap.objs.size:=by subst hce;rfl
 generalize hH3:upd H2 D (.lst [])=H3 at I3 I4 pg pt pe w0 Ax f3;generalize hs4:({s3 with heap:=pushCells (s3.heap.push {cls:=.type "dict",data:=.dict #[]}) scope.names}:Shared)=s4 at I4 ⊢;have An:tn 0 s4.heap:=T.keep _ _ _ zr fun b _ o e=>by rw[<- hs4];exact pushCells_keeps _ _ _ _ (aj _ e)
 have mv:∀{σ':St}{H':Hp}{s':Shared},Inv (X.blk s3 H3 scope ce fp) [] σ' H' s'->(∀b∈fp,H' b=none)->∀b∈fp,mO (X.blk s3 H3 scope ce fp) [] H' b:=fun{σ' H' s'} I' hn b hb=>
  ⟨hn b hb,(I'.ok.exf b hb).1,I'.ok.BZ b hb,.inl hb,fun x c e=>(I'.ok.exf b hb).2 x c e,fun p hp=>absurd (show p∈([]:List (Addr×Obj))++[]from hp) (by simp)⟩
 have loop:codeAny (model X.prog X.w) X.A (.compLoop (.ListComp lj [⟨tg,iter,oj,0⟩] scope pos) 0 (.ref it) (.ref D) ce) (compPost (model X.prog X.w) X.A X.xe use Qf (.ref D) s3.heap.objs.size) s4:=by
  refine oH (fun n s'=>∃i H',Inv (X.blk s3 H3 scope ce fp) [] (wipe σ (own.map (·.2))) H' s'/\tn i s'.heap/\(∀b∈fp,H' b=none)/\W i n H') ?_ m0 ⟨0,H3,I4,An,Ax,w0⟩;rintro n s5 ⟨i,H5,I5,ug,n5,w5⟩;rcases turn i n H5 w5 with⟨stop,qq⟩|⟨go,Nx,hNx,step⟩
  ·have td:=T.done (X.blk s3 H3 scope ce fp) rfl rfl rfl hc i [] s5 _ H5 (fun _ _=>False) I5 (mv I5 n5) ug stop;refine wM td fun r s6 ⟨hr,I6⟩=>?_
   subst hr;have I7:Inv X jh σ H5 s6:=I3.DE (ch:=fp) I6.os I6.base I6.hok I6.bare fun b hb=>⟨(f3 b hb).1.2.2.2.1,(f3 b hb).1.2.1,(f3 b hb).1.2.2.2.2.1,(f3 b hb).1.2.2.2.2.2⟩
   have nC:H5 s3.heap.objs.size=none:=by have z:H5 ce.locals=none:=I6.free;rw[cL]at z;exact z
   obtain⟨m,hn,_⟩:=I6.loc;have hn:s6.heap.Ns ce.locals m:=hn;rw[cL]at hn;exact hRR D s3.heap.objs.size s6 m H5 I7 qq hn (I3.BV (au _) nC)
  ·have ti:=T.item (X.blk s3 H3 scope ce fp) rfl rfl rfl hc i [] s5 _ H5 (fun _ _=>False) I5 (mv I5 n5) ug go;refine wM ti fun r s6 ⟨u,hr,h6⟩=>?_
   subst hr;refine wM h6 fun _ s7 ⟨x,H7,I7,r7,y7,xu,n7⟩=>?_
   have I7':=I7.pinned (mv I7 n7) (T.obj _ _ xu);refine wM (pg _ s7 _ H7 x u _ I7' r7 (step x H7 y7)) fun _ s8 ⟨σ8,H8,I8,Bb,q8⟩=>?_
   refine wM (pt _ s8 σ8 H8 _ I8 q8) fun b s9 ⟨H9,I9,q9⟩=>?_
   have fin:∀{s':Shared}{H':Hp},Inv (X.blk s3 H3 scope ce fp) ([]++pB fp s7.heap) σ8 H' s'->Nx H'->∃m,m<n/\∃i H',Inv (X.blk s3 H3 scope ce fp) [] (wipe σ (own.map (·.2))) H' s'/\tn i s'.heap/\(∀b∈fp,H' b=none)/\W i m H':=fun{s' H'} I' nx=>by
    obtain⟨m',hm,w'⟩:=hNx H' nx;have rm:∀b∈fp,∀o,s7.heap.get? b=some o->s'.heap.get? b=some o/\H' b=none:=fun b hb o e=>
     let z:=I'.pin (b,o) (bh _ (bh _ (jE hb e)))
     ⟨z.1,z.2.1⟩
    have hl:(wipe σ (own.map (·.2))).length=σ8.length:=by rw[<- Bb,gZ]
    refine⟨m',hm,i+1,H',(I'.jZ (jh:=[])).weak hl (fun j v e=>?_),T.keep _ _ _ xu fun b hb o e=>(rm b hb o e).1,fun b hb=>?_,w'⟩
    ·rw[<- Bb]at e;exact(lG e).1
    ·obtain⟨o,e,_⟩:=T.obj _ _ xu b hb;exact(rm b hb o e).2
   cases b with
   |false=>simp only[dv,if_false]at q9 ⊢;exact fin I9 q9
   |true=>
    simp only[if_true]at q9 ⊢;refine wM (pe _ s9 σ8 H9 _ I9 q9) fun z s10 ⟨yv,H10,I10,r10,acc,zl,ym,nx⟩=>?_
    exact J1 (X:=X.blk s3 H3 scope ce fp) I10 zl ym r10 fun s11 I11=>fin I11 nx
 exact codeAny_compStart_list loop (T.self X.A 0 _ _ _ An loop)
theorem sP{lj tg iter:Expr}{oj:List Expr}{scope:Scope}{own:List (Str×Nat)}{pos:Pos}{wi:TI}{g:TG}{tt:TT}{te:TE}(hc:X.calm=true)(hN:X.N.Nodup)(hi:PI X tg iter wi)(ok:oN X.N X.env.scope scope own)
  (hg:∀(s:Shared)(H:Hp)(C:Addr)(cl:List (Str×Addr))(fp:List Addr),PG (X.blk s H scope (compEnvC scope cl C X.env) fp) tg g) (ht:∀(s:Shared)(H:Hp)(C:Addr)(cl:List (Str×Addr))(fp:List Addr),PTs (X.blk s H scope (compEnvC scope cl C X.env) fp) oj tt)
  (he:∀(s:Shared)(H:Hp)(C:Addr)(cl:List (Str×Addr))(fp:List Addr),PE (X.blk s H scope (compEnvC scope cl C X.env) fp) lj te) (hs:∀x,foldedSetIterable iter X.env x=pure x:=by intro _;rfl):
  PE X (.ListComp lj [⟨tg,iter,oj,0⟩] scope pos) (tLc wi g tt te (own.map (·.2))):=by
 intro jh s σ H Q I h;rw[eval_ListComp];refine CV hc hN I hi ok hg ht he hs h fun D C s' m H' I' q hn f=>⟨m,hn,fun wb sb=>?_⟩
 obtain⟨f0,f1,f2,f3,f4,f5⟩:=f;exact⟨.ref D,H',I'.turned (t':=s'.toks) (fun b o hb e=>(sb.2 b hb).trans e) f0 f1 f3 f4 f5,rfl,q⟩
theorem yM{i:Nat}{y:Str}{py:Pos}{lj tg iter:Expr}{oj:List Expr}{scope:Scope}{own:List (Str×Nat)}{pos rl:Pos}{wi:TI}{g:TG}{tt:TT}{te:TE}(hc:X.calm=true)(hN:X.N.Nodup)(hy:X.N[i]? =some y)(sg:X.env.scope.names.lookup y=some .local)
  (hsw:swapsWith (.ListComp lj [⟨tg,iter,oj,0⟩] scope pos) (some (.Name y py)) rl.line X.env=pure true) (hi:PI X tg iter wi) (ok:oN X.N X.env.scope scope own)
  (hg:∀(s:Shared)(H:Hp)(C:Addr)(cl:List (Str×Addr))(fp:List Addr),PG (X.blk s H scope (compEnvC scope cl C X.env) fp) tg g) (ht:∀(s:Shared)(H:Hp)(C:Addr)(cl:List (Str×Addr))(fp:List Addr),PTs (X.blk s H scope (compEnvC scope cl C X.env) fp) oj tt)
  (he:∀(s:Shared)(H:Hp)(C:Addr)(cl:List (Str×Addr))(fp:List Addr),PE (X.blk s H scope (compEnvC scope cl C X.env) fp) lj te) (hs:∀x,foldedSetIterable iter X.env x=pure x:=by intro _;rfl):
  PS X (.Assign [.Name y py] (.ListComp lj [⟨tg,iter,oj,0⟩] scope pos) rl) (AR (tLc wi g tt te (own.map (·.2))) (j2 i)):=by
 intro jh s σ H D I h;rw[exec_Assign_Name_used _ _ _ _ hsw];refine aa (wpAny_standAt (aa ?_));show wpAny _ X.A (do let _<- comprehension (.ListComp lj [⟨tg,iter,oj,0⟩] scope pos) scope X.env (firstIterPos [⟨tg,iter,oj,0⟩] pos) (newList []) false (eval iter X.env) (some (assign (.Name y py) X.env))) _ _ s
 have h:tLc wi g tt te (own.map (·.2)) σ H (fun x H1=>j2 i x σ H1 D.nx):=h;refine aa (thn (CV (Qf:=fun _ s'=>SP X jh D .next s') hc hN I hi ok hg ht he hs h fun L C s' m H' I' q hn f=>?_) fun _ s' hq=>af (af hq));show wpAny _ _ (assign (.Name y py) X.env (.ref L)) _ _ _
 refine wpAny_assign_Name (oS (v:=V.ref L) I' hN hy (.inl sg) rfl (fun s2 I2 ⟨a,sb,ha⟩=>?_) (.inr sg));obtain⟨f0,f1,f2,f3,f4,f5⟩:=f;have haC:C≠a:=by
  rcases ha with z|z
  ·rw[z];exact f1
  ·exact fun e=>f4 y a z e.symm
 refine⟨m,hn.sameBut sb haC,fun h3 sb3=>?_⟩;exact⟨_,H',I2.turned (t':=s2.toks) (fun b o hb e=>(sb3.2 b hb).trans e) f0 f1 f3 f4 f5,q⟩
theorem rH{lj:Expr}{gs:List Comprehension}{scope:Scope}{pos py:Pos}{y:Str}{l:Nat}{env:Env}(hk:env.scope.kind=.function)(hy:env.scope.names.lookup y=some .local)(hl:(py.line==pos.line)=true)
  (ha:(scope.names.any fun(n,k)=>n==y&& (k== .local||k== .cell))=false):swapsWith (.ListComp lj gs scope pos) (some (.Name y py)) l env=pure true:=by
 have ky:env.kindOf y=some .local:=hy;have hb:env.blockKind=.function:=by unfold Env.blockKind;rw[hk];rfl
 unfold swapsWith;simp only[hb,ky,ha,Expr.pos,hl];rfl
end
theorem gH{K:W.Frag}{a:Addr}{xs:List V}{g:TG}{tt:TT}{te:TE}{vs:List Nat}{σ:St}{H1:Hp}{D:Addr}{Qd:Hp->Prop}(Pv:Nat->Hp->Prop)(h0:Pv 0 (upd H1 D (.lst [])))(hl:∀i H,i<=xs.length->Pv i H->SqL K H a xs)
  (hs:∀i x H,xs[i]? =some x->Pv i H->g x (wipe σ vs) H fun σ2 H2=>wipe σ2 vs=wipe σ vs/\tt σ2 H2 fun b H3=>
   if b=true then te σ2 H3 fun y H4=>∃acc,H4 D=some (.lst acc)/\acc.length<sizeLine/\Pv (i+1) (upd H4 D (.lst (acc++[y])))else Pv (i+1) H3) (hd:∀H,Pv xs.length H->Qd H):
  ∃W:Nat->Nat->Hp->Prop,(∃m,W 0 m (upd H1 D (.lst [])))/\∀i m H,W i m H ->
   ((Itl K a).stop i H/\Qd H)\/((Itl K a).go i H/\∃Nx:Hp->Prop,(∀H',Nx H'->∃m',m'<m/\W (i+1) m' H')/\∀x H',(Itl K a).yld i H x H'->g x (wipe σ vs) H' fun σ2 H2=>wipe σ2 vs=wipe σ vs/\tt σ2 H2 fun b H3=>
    if b=true then te σ2 H3 fun y H4=>∃acc,H4 D=some (.lst acc)/\acc.length<sizeLine/\Nx (upd H4 D (.lst (acc++[y])))else Nx H3):=by
 refine⟨fun i m H=>m=xs.length - i/\i<=xs.length/\Pv i H,⟨xs.length,by simp,cn _,h0⟩,?_⟩;rintro i m H ⟨rfl,hi,p⟩;have q:=hl i H hi p;by_cases jw:i<xs.length
 ·refine .inr ⟨⟨xs,xs[i],q,by simp[jw]⟩,Pv (i+1),fun H' p'=>⟨xs.length - (i+1),by omega,rfl,jw,p'⟩,fun x H' y=>?_⟩;obtain⟨e,y⟩:=y;subst e;exact hs i x _ (y xs q) p
 ·have e:i=xs.length:=by omega
  subst e;exact .inl ⟨⟨xs,q,au _⟩,hd H p⟩
theorem MG{K:W.Frag}{a:Addr}{xs:List V}{g:TG}{tt:TT}{te:TE}{vs:List Nat}{σ:St}{H1:Hp}{D:Addr}{Qd:Hp->Prop}(Pv:Nat->Hp->Prop)(h0:Pv 0 (upd H1 D (.lst [])))(hl:∀i H,i<=xs.length->Pv i H->SqT K H a xs)
  (hs:∀i x H,xs[i]? =some x->Pv i H->g x (wipe σ vs) H fun σ2 H2=>wipe σ2 vs=wipe σ vs/\tt σ2 H2 fun b H3=>
   if b=true then te σ2 H3 fun y H4=>∃acc,H4 D=some (.lst acc)/\acc.length<sizeLine/\Pv (i+1) (upd H4 D (.lst (acc++[y])))else Pv (i+1) H3) (hd:∀H,Pv xs.length H->Qd H):
  ∃W:Nat->Nat->Hp->Prop,(∃m,W 0 m (upd H1 D (.lst [])))/\∀i m H,W i m H ->
   ((Itt K a).stop i H/\Qd H)\/((Itt K a).go i H/\∃Nx:Hp->Prop,(∀H',Nx H'->∃m',m'<m/\W (i+1) m' H')/\∀x H',(Itt K a).yld i H x H'->g x (wipe σ vs) H' fun σ2 H2=>wipe σ2 vs=wipe σ vs/\tt σ2 H2 fun b H3=>
    if b=true then te σ2 H3 fun y H4=>∃acc,H4 D=some (.lst acc)/\acc.length<sizeLine/\Nx (upd H4 D (.lst (acc++[y])))else Nx H3):=by
 refine⟨fun i m H=>m=xs.length - i/\i<=xs.length/\Pv i H,⟨xs.length,by simp,cn _,h0⟩,?_⟩;rintro i m H ⟨rfl,hi,p⟩;have q:=hl i H hi p;by_cases jw:i<xs.length
 ·refine .inr ⟨⟨xs,xs[i],q,by simp[jw]⟩,Pv (i+1),fun H' p'=>⟨xs.length - (i+1),by omega,rfl,jw,p'⟩,fun x H' y=>?_⟩;obtain⟨e,y⟩:=y;subst e;exact hs i x _ (y xs q) p
 ·have e:i=xs.length:=by omega
  subst e;exact .inl ⟨⟨xs,q,au _⟩,hd H p⟩
noncomputable def SE(N:List Str)(sc scope:Scope)(own:List (Str×Nat)):Bool:=
 (match scope.kind with| .function=>true|_=>false)&& (scope.names.all fun y=>decide (scope.names.lookup y.1=some y.2))&& (own.all fun p=>decide (N[p.2]? =some p.1))&&
  (scope.names.all fun y=>match y.2 with
   | .free=>(match sc.names.lookup y.1 with|some .cell=>true|some .free=>true|_=>false)
   | .local=>decide (y.1∈own.map (·.1))||decide (y.1∉N)
   | .cell=>decide (y.1∈own.map (·.1))||decide (y.1∉N)
   |_=>true)
theorem cZ{N:List Str}{sc scope:Scope}{own:List (Str×Nat)}(h:SE N sc scope own=true):oN N sc scope own:=by
 unfold SE at h;simp only[dh,ig,decide_eq_true_eq]at h;obtain⟨⟨⟨h1,h2⟩,h3⟩,h4⟩:=h;refine⟨?_,h2,h3,fun y hy e=>?_,fun y hy e=>?_⟩
 ·split at h1
  ·assumption
  ·cases h1
 ·have q:=h4 y hy;simp only[e]at q;split at q<;>first|exact .inl (by assumption)|exact .inr (by assumption)|cases q
 ·have q:=h4 y hy;rcases e with e|e<;>(simp only[e,gy,decide_eq_true_eq]at q;exact q)
section
variable {κ:Type} [DecidableEq κ]
noncomputable def rR(kvs:List (κ×V))(k:κ):Option V:=(kvs.find? fun kv=>decide (kv.1=k)).map (·.2)
noncomputable def putK(kvs:List (κ×V))(k:κ)(v:V):List (κ×V):=
 if(kvs.any fun kv=>decide (kv.1=k))=true then kvs.map (fun kv=>if kv.1=k then(kv.1,v)else kv)else kvs++[(k,v)]
theorem mR{p:κ×V}{r:List (κ×V)}{k:κ}(e:p.1=k):rR (p::r) k=some p.2:=by simp[rR,iw,e]
theorem mS{p:κ×V}{r:List (κ×V)}{k:κ}(e:¬p.1=k):rR (p::r) k=rR r k:=by simp[rR,iw,e]
theorem xW(k:κ):∀kvs:List (κ×V),(kvs.any fun kv=>decide (kv.1=k))=(rR kvs k).isSome
 |[]=>rfl
 |p::r=>by
  rw[any_cons];by_cases e:p.1=k
  ·simp only[mR e,decide_eq_true e,Bool.true_or,Option.isSome_some]
  ·rw[mS e,decide_eq_false e,Bool.false_or];exact xW k r
theorem kG(kvs:List (κ×V))(k:κ)(v:V):(putK kvs k v).length<=kvs.length+1:=by
 unfold putK;split
 ·rw[ai];omega
 ·rw[aq,bo,dt];omega
theorem mM.j0{o:Option V}{u:Option Value}(r:mM o u):o.isSome=u.isSome:=by
 cases o with
 |none=>cases u with
  |none=>rfl
  |some _=>exact(show False from r).elim
 |some _=>cases u with
  |none=>exact(show False from r).elim
  |some _=>rfl
theorem mM.getD{o:Option V}{u:Option Value}{d:V}{d':Value}(r:mM o u)(rd:RelV d d'):RelV (o.getD d) (u.getD d'):=by
 cases o with
 |none=>cases u with
  |none=>exact rd
  |some _=>exact(show False from r).elim
 |some _=>cases u with
  |none=>exact(show False from r).elim
  |some _=>exact r
theorem KV.val{kvs:List (κ×V)}{vs:List (κ×Value)}(r:KV kvs vs)(k:κ):mM (rR kvs k) (valueAt vs k):=by
 unfold KV at r;induction r with
 |nil=>exact True.intro
 | @cons p q ps qs h t ih=>
  obtain⟨h1,h2⟩:=h;by_cases e:p.1=k
  ·have e':q.1=k:=h1.symm.trans e;have b:valueAt (q::qs) k=some q.2:=by simp[valueAt,iw,e']
   rw[mR e,b];exact h2
  ·have e':¬q.1=k:=fun z=>e (h1.trans z)
   have b:valueAt (q::qs) k=valueAt qs k:=by simp[valueAt,iw,e']
   rw[mS e,b];exact ih
theorem KV.any{kvs:List (κ×V)}{vs:List (κ×Value)}(r:KV kvs vs)(k:κ):(kvs.any fun kv=>decide (kv.1=k))=vs.any fun kv=>decide (kv.1=k):=by
 unfold KV at r;induction r with
 |nil=>rfl
 |cons h t ih=>rw[any_cons,any_cons,ih,h.1]
theorem KV.M6{kvs:List (κ×V)}{vs:List (κ×Value)}(r:KV kvs vs)(k:κ){y:V}{u:Value}(ry:RelV y u):
  KV (kvs.map fun kv=>if kv.1=k then(kv.1,y)else kv) (vs.map fun kv=>if kv.1=k then(kv.1,u)else kv):=by
 unfold KV at r ⊢;induction r with
 |nil=>exact .nil
 | @cons p q ps qs h t ih=>
  rw[bf,bf];refine .cons ?_ ih;obtain⟨h1,h2⟩:=h;by_cases e:p.1=k
  ·rw[ah e,ah (h1.symm.trans e)];exact⟨h1,ry⟩
  ·rw[ag e,ag (fun z=>e (h1.trans z))];exact⟨h1,h2⟩
theorem KV.put{kvs:List (κ×V)}{vs:List (κ×Value)}(r:KV kvs vs)(k:κ){y:V}{u:Value}(ry:RelV y u):KV (putK kvs k y) (stored vs k u):=by
 unfold putK stored;rw[r.any k];by_cases e:(vs.any fun kv=>decide (kv.1=k))=true
 ·rw[ah e,ah e];exact r.M6 k ry
 ·rw[ag e,ag e];exact Paired.snoc r ⟨rfl,ry⟩
theorem KV.length{kvs:List (κ×V)}{vs:List (κ×Value)}(r:KV kvs vs):kvs.length=vs.length:=Paired.length r
end
theorem t9{P:Program}{w:World}{k:Key}{u:Value}(r:RelV (kV k) u):(bY P w).is k u=true:=by
 cases k with
 |inl i=>obtain⟨t,e⟩:=(show∃t,u=Value.int i t from r);subst e;exact z4 P w i t
 |inr x=>obtain⟨t,e⟩:=(show∃t,u=Value.str x t from r);subst e;exact yZ P w x t
theorem vQ{P:Program}{w:World}:∀{ks:List Key}{us:List Value},Vals (ks.map kV) us->ItemsAre (bY P w) ks us
 |[],_,r=>by rw[ie]at r;cases r;exact .nil
 |k::ks,_,r=>by
  rw[bf]at r;cases r with
  |cons h t=>exact .cons (t9 h) (vQ t)
noncomputable abbrev KT(H:Hp):List (List Key×V)->List (List Key×Addr×Value)->Prop:=Paired fun p q=>p.1=q.1/\H q.2.1=some (.tup (p.1.map kV))/\RelV p.2 q.2.2
theorem KT.val{H:Hp}{kvs:List (List Key×V)}{xs:List (List Key×Addr×Value)}(r:KT H kvs xs)(k:List Key):mM (rR kvs k) ((atKey xs k).map (·.2)):=by
 induction r with
 |nil=>exact True.intro
 | @cons p q ps qs h t ih=>
  obtain⟨h1,_,h2⟩:=h;by_cases e:p.1=k
  ·have e':q.1=k:=h1.symm.trans e;have b:atKey (q::qs) k=some q.2:=by simp[atKey,iw,e']
   rw[mR e,b];exact h2
  ·have e':¬q.1=k:=fun z=>e (h1.trans z)
   have b:atKey (q::qs) k=atKey qs k:=by simp[atKey,iw,e']
   rw[mS e,b];exact ih
theorem KT.M6{H:Hp}{kvs:List (List Key×V)}{xs:List (List Key×Addr×Value)}(r:KT H kvs xs)(k:List Key){y:V}{u:Value}(ry:RelV y u):
  KT H (kvs.map fun kv=>if kv.1=k then(kv.1,y)else kv) (xs.map (putAt k u)):=by
 induction r with
 |nil=>exact .nil
 | @cons p q ps qs h t ih=>
  rw[bf,bf];refine .cons ?_ ih;obtain⟨h1,h2,h3⟩:=h;unfold putAt;by_cases e:p.1=k
  ·rw[ah e,ah (h1.symm.trans e)];exact⟨h1,h2,ry⟩
  ·rw[ag e,ag (fun z=>e (h1.trans z))];exact⟨h1,h2,h3⟩
theorem KT.put{H:Hp}{kvs:List (List Key×V)}{xs:List (List Key×Addr×Value)}(r:KT H kvs xs)(k:List Key){b:Addr}{y:V}{u:Value}(hb:H b=some (.tup (k.map kV)))(ry:RelV y u):
  KT H (putK kvs k y) (storedH xs k b u):=by
 have e:(kvs.any fun kv=>decide (kv.1=k))=(atKey xs k).isSome:=by rw[xW,(r.val k).j0,Option.isSome_map]
 unfold putK storedH;rw[e];by_cases q:(atKey xs k).isSome=true
 ·rw[ah q,ah q];exact r.M6 k ry
 ·rw[ag q,ag q];exact Paired.snoc r ⟨rfl,hb,ry⟩
theorem KT.keeps{H H':Hp}{kvs:List (List Key×V)}{xs:List (List Key×Addr×Value)}(r:KT H kvs xs)(ht:∀b ys,H b=some (.tup ys)->H' b=some (.tup ys)):KT H' kvs xs:=
 Paired.MF r fun _ _ z=>⟨z.1,ht _ _ z.2.1,z.2.2⟩
section
variable {P:Program}{w:World}{H:Hp}{h:Heap}{a:Addr}
theorem L9{u:HO}(ok:HOk P w H h)(e:Rd H a u):d3 P w H h a u:=e.ok ok
theorem r6{kvs:List (Key×V)}(ok:HOk P w H h)(e:Rd H a (.dK kvs)):kvs.length<=sizeLine/\(a==sysModules)=false/\∃vs,KV kvs vs/\h.DictOf (bY P w) a vs:=
 show d3 P w H h a (.dK kvs)from L9 ok e
theorem SA{kvs:List (Key×V)}(ok:HOk P w H h)(e:H a=some (.dK kvs)):kvs.length<=sizeLine/\(a==sysModules)=false/\∃vs,KV kvs vs/\h.DictOf (bY P w) a vs:=r6 ok (.inl e)
theorem kJ{ks:List Key}(ok:HOk P w H h)(e:H a=some (.tup (ks.map kV))):(tupleKind (bY P w)).is h ks a:=by obtain⟨_,its,r,o,h1,h2,n,h3⟩:=(show d3 P w H h a (.tup (ks.map kV))from ok a _ e);exact⟨o,its.toArray,n,h1,h2,h3,by simpa using vQ r⟩
theorem nY{kvs:List (List Key×V)}(ok:HOk P w H h)(e:Rd H a (.dT kvs)):kvs.length<=sizeLine/\(a==sysModules)=false/\
  ∃xs,KT H kvs xs/\h.DictOfH (tupleKind (bY P w)) a xs:=by
 obtain⟨z,y,xs,r,o,es,ep,h1,h2,h3,h4,h5⟩:=(show d3 P w H h a (.dT kvs)from L9 ok e);refine⟨z,y,xs,r,o,es,ep,h1,h2,h3,h4,fun x hx=>?_,h5⟩;have all:∀{l:List (List Key×V)}{m:List (List Key×Addr×Value)},KT H l m->∀x∈m,(tupleKind (bY P w)).is h x.1 x.2.1:=by
  intro l m q;induction q with
  |nil=>intro x hx;exact nomatch hx
  | @cons p q ps qs hq t ih=>
   intro x hx;rcases ao.mp hx with e|hx
   ·subst e;exact kJ ok (by rw[<- hq.1];exact hq.2.1)
   ·exact ih x hx
 exact all r x hx
theorem S9{kvs:List (List Key×V)}(ok:HOk P w H h)(e:H a=some (.dT kvs)):kvs.length<=sizeLine/\(a==sysModules)=false/\
  ∃xs,KT H kvs xs/\h.DictOfH (tupleKind (bY P w)) a xs:=nY ok (.inl e)
end
noncomputable def lF(H:Hp)(a:Addr)(y:V)(r:Option V):Prop:=
 (∃kvs k,Rd H a (.dK kvs)/\y=kV k/\r=rR kvs k)\/∃kvs k b,Rd H a (.dT kvs)/\y=.ref b/\H b=some (.tup (k.map kV))/\r=rR kvs k
noncomputable def L8(H:Hp)(a:Addr)(y v:V)(H':Hp):Prop:=
 (∃kvs k,H a=some (.dK kvs)/\y=kV k/\kvs.length<sizeLine/\H'=upd H a (.dK (putK kvs k v)))\/
 ∃kvs k b,H a=some (.dT kvs)/\y=.ref b/\H b=some (.tup (k.map kV))/\kvs.length<sizeLine/\H'=upd H a (.dT (putK kvs k v))
section
variable {X:Cx}{jh:List (Addr×Obj)}{σ:St}{H:Hp}{s:Shared}{a:Addr}{y v:V}{u r:Value}{o:Option V}{A:Around}{E:Value->Shared->Prop}
theorem Inv.big(I:Inv X jh σ H s):sysModules<s.heap.objs.size:=by have h:mainGlobals<s.heap.objs.size:=(I.mod.glob.keeps I.bk).lt;exact lt_trans (by decide) h
theorem FJ{Q:Value->Shared->Prop}(hu:A.units+1<cLine)(I:Inv X jh σ H s)(g:lF H a y (some v))(ry:RelV y u)(h:∀w' s',Inv X jh σ H s'->RelV v w'->Q w' s'):
  wpAny (model X.prog X.w) A (getItem (.ref a) u) Q E s:=by
 rcases g with⟨kvs,k,e,ey,l⟩|⟨kvs,k,b,e,ey,eb,l⟩
 ·subst ey;obtain⟨z,hd,vs,rel,dd⟩:=r6 I.hok e;obtain⟨w',hw,qp⟩:=mM.some_of (v:=v) (o:=valueAt vs k) (by rw[l];exact rel.val k);exact wpAny_getItem_of (t9 ry) dd.mapOf hw (h w' _ (I.tok _) qp)
 ·subst ey;cases (show u=Value.ref b from ry);obtain⟨z,hd,xs,rel,dd⟩:=nY I.hok e;obtain⟨w',hw,qp⟩:=mM.some_of (v:=v) (o:=(atKey xs k).map (·.2)) (by rw[l];exact rel.val k);obtain⟨p,hp,hp2⟩:=Option.map_eq_some_iff.mp hw;refine wpAny_getItem_heap (tupleKind_room_in1 hu) (kJ I.hok eb) dd hp ?_;rw[hp2];exact h w' _ (I.tok _) qp
theorem X5{Q:Value->Shared->Prop}(hu:A.units+1<cLine)(I:Inv X jh σ H s)(g:lF H a y o)(ry:RelV y u)(h:∀s',Inv X jh σ H s'->Q (.bool o.isSome) s'):
  wpAny (model X.prog X.w) A (compareOp .In u (.ref a)) Q E s:=by
 rcases g with⟨kvs,k,e,ey,l⟩|⟨kvs,k,b,e,ey,eb,l⟩
 ·subst ey;obtain⟨z,hd,vs,rel,dd⟩:=r6 I.hok e;refine wpAny_in_of (t9 ry) hd dd.mapOf ?_;rw[<- (rel.val k).j0,<- l];exact h _ (I.tok _)
 ·subst ey;cases (show u=Value.ref b from ry);obtain⟨z,hd,xs,rel,dd⟩:=nY I.hok e;refine wpAny_in_heap (tupleKind_room_in1 hu) (kJ I.hok eb) hd dd ?_;have q:=(rel.val k).j0;rw[Option.isSome_map]at q;rw[<- q,<- l];exact h _ (I.tok _)
theorem KU{Q:Value->Shared->Prop}(hu:A.units+1<cLine)(I:Inv X jh σ H s)(g:lF H a y o)(ry:RelV y u)(h:∀s',Inv X jh σ H s'->Q (.bool (!o.isSome)) s'):
  wpAny (model X.prog X.w) A (compareOp .NotIn u (.ref a)) Q E s:=by
 rcases g with⟨kvs,k,e,ey,l⟩|⟨kvs,k,b,e,ey,eb,l⟩
 ·subst ey;obtain⟨z,hd,vs,rel,dd⟩:=r6 I.hok e;refine wpAny_notIn_of (t9 ry) hd dd.mapOf ?_;rw[<- (rel.val k).j0,<- l];exact h _ (I.tok _)
 ·subst ey;cases (show u=Value.ref b from ry);obtain⟨z,hd,xs,rel,dd⟩:=nY I.hok e;refine wpAny_notIn_heap (tupleKind_room_in1 hu) (kJ I.hok eb) hd dd ?_;have q:=(rel.val k).j0;rw[Option.isSome_map]at q;rw[<- q,<- l];exact h _ (I.tok _)
theorem DC{h':Heap}{t':Nat}{ob:HO}(I:Inv X jh σ H s)(mu:Mut (H a))(hs:Heap.SameBut a s.heap h')(he:∃q,h'.get? a=some q)(new:d3 X.prog X.w (upd H a ob) h' a ob):
  Inv X jh σ (upd H a ob) {s with heap:=h',toks:=t'}:=
 I.write (x:=a) (e:=a) mu (.inl rfl) (fun b q hb z=>(hs.2 b hb).trans z) he new
theorem MU{P:Program}{w:World}{H':Hp}{h':Heap}{kvs:List (Key×V)}{vs:List (Key×Value)}(z:kvs.length<=sizeLine)(hd:(a==sysModules)=false)(rel:KV kvs vs)(dd:h'.DictOf (bY P w) a vs):
  d3 P w H' h' a (.dK kvs):=⟨z,hd,vs,rel,dd⟩
theorem FI{H':Hp}{Q:Unit->Shared->Prop}(hu:A.units+1<cLine)(I:Inv X jh σ H s)(g:L8 H a y v H')(ry:RelV y u)(rv:RelV v r)(h:∀s',Inv X jh σ H' s'->Q () s'):
  wpAny (model X.prog X.w) A (setItem (.ref a) u r) Q E s:=by
 rcases g with⟨kvs,k,e,ey,l,eH⟩|⟨kvs,k,b,e,ey,eb,l,eH⟩
 ·subst ey eH;obtain⟨z,hd,vs,rel,dd⟩:=SA I.hok e;have hz:vs.length<=sizeLine:=by rw[<- rel.length];exact z
  have hl:(putK kvs k v).length<=sizeLine:=by have:=kG kvs k v;omega
  refine wpAny_setItem_pairs (hsz:=hz) (t9 ry) dd fun h' zo hs=>h _ ?_
  have he:∃q,h'.get? a=some q:=let⟨q,_,_,hq,_⟩:=zo;⟨q,hq⟩
  exact DC I (by rw[e];exact True.intro) hs he (MU hl hd (rel.put k rv) zo)
 ·subst ey eH;cases (show u=Value.ref b from ry);obtain⟨z,hd,xs,rel,dd⟩:=S9 I.hok e;have hz:xs.length<=sizeLine:=by rw[<- Paired.length rel];exact z
  have hl:(putK kvs k v).length<=sizeLine:=by have:=kG kvs k v;omega
  refine wpAny_setItem_heap (hsz:=hz) (tupleKind_room_in1 hu) (kJ I.hok eb) dd fun h' zo hs=>h _ ?_
  obtain⟨q,es,ep,hq,h2,h3,h4,_,h5⟩:=zo;refine DC I (by rw[e];exact True.intro) hs ⟨q,hq⟩ ⟨hl,hd,_,(rel.put k eb rv).keeps fun c ys ec=>?_,q,es,ep,hq,h2,h3,h4,h5⟩;rw[aA (eX ec e (fun z=>nomatch z))];exact ec
end
noncomputable def SG(i:Expr):Prop:=∀ov iv,subscripted i false ov iv=operate [ov,iv] (getItem ov iv)
theorem JI{prog:Program}{w:World}{A:Around}{E:Value->Shared->Prop}{s:Shared}{env:Env}{ke slice:Expr}{pos:Pos}{T id:String}{Q:Value->Shared->Prop}
  (hl:typeLookup (.type T) "__getitem__" =pure (some (.builtin id))) (hs:SG slice)
  (h:wpAny (model prog w) A (eval ke env) (fun o s₁=>wpAny (model prog w) A (eval slice env) (fun i s₂=>s₂.TypeIs o T/\wpAny (model prog w) A (getItem o i) Q E s₂) E s₁) E s):
  wpAny (model prog w) A (eval (.Subscript ke slice pos) env) Q E s:=by
 refine Subscript_ (wpAny_mono h (fun o s₁ h₁=>wpAny_mono h₁ (fun i s₂ h₂=>?_) fun _ _ x=>x) fun _ _ x=>x);obtain⟨hT,h₂⟩:=h₂;unfold subscriptTail;refine aa ?_;rw[getitemInPython_of_ne hT.not_modules];refine aa (wpAny_specialOf hT hl ?_);have fin:wpAny (model prog w) A (subscripted slice false o i) (fun r s₃=>wpAny (model prog w) A (letTemporaryGo ke o r>>=fun _=>pure r) Q E s₃) E s₂:=by rw[hs o i];exact wpAny_operating (wpAny_mono h₂ (fun r s₃ h₃=>aa (wpAny_letTemporaryGo (af h₃))) fun _ _ x=>x)
 first
  |exact af (aa fin)
  |exact aa (af (aa fin))
  |exact aa fin
theorem A0{X:Cx}{jh:List (Addr×Obj)}{σ:St}{H:Hp}{s:Shared}{a:Addr}{y:V}{o:Option V}(I:Inv X jh σ H s)(g:lF H a y o):s.TypeIs (.ref a) "dict" :=by
 rcases g with⟨kvs,k,e,_,_⟩|⟨kvs,k,b,e,_,_,_⟩
 ·obtain⟨_,_,vs,_,dd⟩:=r6 I.hok e;exact dd.typeIs
 ·obtain⟨_,_,xs,_,dd⟩:=nY I.hok e;exact dd.typeIs
noncomputable def NP(td ty:TE):TE:=fun σ H Q=>td σ H fun x H1=>ty σ H1 fun y H2=>∃a v,x=.ref a/\lF H2 a y (some v)/\Q v H2
noncomputable def SU(ty td:TE):TE:=fun σ H Q=>ty σ H fun y H1=>td σ H1 fun x H2=>∃a o,x=.ref a/\lF H2 a y o/\Q (.bl o.isSome) H2
noncomputable def JG(ty td:TE):TE:=fun σ H Q=>ty σ H fun y H1=>td σ H1 fun x H2=>∃a o,x=.ref a/\lF H2 a y o/\Q (.bl (!o.isSome)) H2
noncomputable def NU(td ty tv:TE):TS:=fun D σ H=>tv σ H fun v H1=>td σ H1 fun x H2=>ty σ H2 fun y H3=>∃a H4,x=.ref a/\L8 H3 a y v H4/\D.nx σ H4
section
variable {X:Cx}{o i e ke:Expr}{pos kn ng:Pos}{td ty tv:TE}
theorem lI(hu:X.A.units+1<cLine)(ho:PE X o td)(hi:PE X i ty)(hs:SG i):PE X (.Subscript o i pos) (NP td ty):=by intro jh s σ H Q I h;refine JI PySem.F.slot_dict_getitem.lookup hs (thn (ho jh s σ H _ I h) fun u s1 ⟨x,H1,I1,rx,q1⟩=>thn (hi jh s1 σ H1 _ I1 q1) fun iv s2 ⟨y,H2,I2,ry,a,v,ex,g,q2⟩=>?_);subst ex;obtain rfl:u=Value.ref a:=rx;exact⟨A0 I2 g,FJ hu I2 g ry fun w' s3 I3 qp=>⟨v,H2,I3,qp,q2⟩⟩
theorem B0(hu:X.A.units+1<cLine)(hi:PE X i ty)(ho:PE X o td):PC X .In i o (SU ty td):=by
 intro jh s σ H Q I h;refine thn (hi jh s σ H _ I h) fun iv s1 ⟨y,H1,I1,ry,q1⟩=>thn (ho jh s1 σ H1 _ I1 q1) fun u s2 ⟨x,H2,I2,rx,a,ov,ex,g,q2⟩=>?_
 subst ex;obtain rfl:u=Value.ref a:=rx;exact X5 hu I2 g ry fun s3 I3=>⟨.bl ov.isSome,H2,I3,rfl,q2⟩
theorem d5(hu:X.A.units+1<cLine)(hi:PE X i ty)(ho:PE X o td):PC X .NotIn i o (JG ty td):=by
 intro jh s σ H Q I h;refine thn (hi jh s σ H _ I h) fun iv s1 ⟨y,H1,I1,ry,q1⟩=>thn (ho jh s1 σ H1 _ I1 q1) fun u s2 ⟨x,H2,I2,rx,a,ov,ex,g,q2⟩=>?_
 subst ex;obtain rfl:u=Value.ref a:=rx;exact KU hu I2 g ry fun s3 I3=>⟨.bl (!ov.isSome),H2,I3,rfl,q2⟩
theorem eS(hu:X.A.units+1<cLine)(ho:PE X o td)(hi:PE X i ty)(hv:PE X ke tv)(hs:swapsWith ke (some (.Subscript o i kn)) pos.line X.env=pure false):
  PS X (.Assign [.Subscript o i kn] ke pos) (NU td ty tv):=by
 intro jh s σ H D I h;refine wpAny_Assign_Subscript (thn (hv jh s σ H _ I h) fun r s1 ⟨v,H1,I1,rv,q1⟩=>thn (ho jh s1 σ H1 _ I1 q1) fun u s2 ⟨x,H2,I2,rx,q2⟩=>thn (hi jh s2 σ H2 _ I2 q2) fun iv s3 ⟨y,H3,I3,ry,a,H4,ex,g,q3⟩=>?_) hs;subst ex;obtain rfl:u=Value.ref a:=rx;exact FI hu I3 g ry rv fun s4 I4=>⟨σ,H4,I4,q3⟩
end
theorem IS{P:Program}{w:World}{H:Hp}(h:Heap)(hb:sysModules<h.objs.size):d3 P w H (h.push {cls:=.type "dict",data:=.dict #[]}) h.objs.size (.dT []):=
 ⟨cn _,beq_eq_false_iff_ne.mpr (Ne.symm (cf hb)),[],.nil,_,#[],0,ax _ rfl,⟨rfl,rfl,rfl⟩,rfl,rfl,gw⟩
def LV:TE:=fun _ H Q=>∀p,H p=none->Q (.ref p) (upd H p (.dT []))
section
variable {X:Cx}{pos:Pos}
theorem dG:PE X (.Dict [] [] pos) LV:=fun jh s σ H Q I h=>
 wpAny_Dict_empty ⟨.ref s.heap.objs.size,_,I.laid (a:=s.heap.objs.size) (o:=.dT []) (t':=s.toks) (fun _ _ q=>aj _ q) (au _) (IS s.heap I.big),rfl,h _ (I.hok.fresh (au _))⟩
end
structure M1(X:Cx)(o:Expr)(m:Str)(kc:Pos)(e:Expr)(jn:Pos):Prop where
 base:attributeBase o m X.env (eval o X.env)=eval o X.env
 few:((backTo jn (starEach [e] X.env)).all (fun x=>!x.1)&& (backToKw jn (keywordEach [] X.env)).all (fun x=>x.1.isSome)
  && decide (([e]:List Expr).length+([]:List Keyword).length+(if([]:List Keyword).isEmpty then 0 else 1)<30))=true
 line:(kc.endLine==jn.line)=true
 trees:backTo jn (starEach [e] X.env)=[(false,eval e X.env)]
structure M2(X:Cx)(o:Expr)(m:Str)(kc:Pos)(e f:Expr)(jn:Pos):Prop where
 base:attributeBase o m X.env (eval o X.env)=eval o X.env
 few:((backTo jn (starEach [e,f] X.env)).all (fun x=>!x.1)&& (backToKw jn (keywordEach [] X.env)).all (fun x=>x.1.isSome)
  && decide (([e,f]:List Expr).length+([]:List Keyword).length+(if([]:List Keyword).isEmpty then 0 else 1)<30))=true
 line:(kc.endLine==jn.line)=true
 trees:backTo jn (starEach [e,f] X.env)=[(false,eval e X.env),(false,eval f X.env)]
def IsD(H:Hp)(a:Addr):Prop:=(∃kvs,Rd H a (.dK kvs))\/∃kvs,Rd H a (.dT kvs)
theorem IB{X:Cx}{jh:List (Addr×Obj)}{σ:St}{H:Hp}{s:Shared}{a:Addr}(I:Inv X jh σ H s)(d:IsD H a):
  s.TypeIs (.ref a) "dict" /\(∀b,Value.ref a=.ref b->∃ob,s.heap.get? b=some ob/\ob.dict=none)/\(a==sysModules)=false:=by
 rcases d with⟨kvs,e⟩|⟨kvs,e⟩
 ·obtain⟨_,hd,vs,_,dd⟩:=r6 I.hok e;refine⟨dd.typeIs,fun b q=>?_,hd⟩;cases q;obtain⟨ob,_,_,h1,h2,_⟩:=dd;exact⟨ob,h1,h2.2.1⟩
 ·obtain⟨_,hd,xs,_,dd⟩:=nY I.hok e;refine⟨dd.typeIs,fun b q=>?_,hd⟩;cases q;obtain⟨ob,_,_,h1,h2,_⟩:=dd;exact⟨ob,h1,h2.2.1⟩
section
variable {X:Cx}{jh:List (Addr×Obj)}{σ:St}{H:Hp}{s:Shared}{a:Addr}{y d:V}{u r:Value}{o:Option V}{A:Around}{E:Value->Shared->Prop}
theorem MY{Q:Value->Shared->Prop}(hu:A.units+1<cLine)(I:Inv X jh σ H s)(g:lF H a y o)(ry:RelV y u)(h:∀w' s',Inv X jh σ H s'->RelV (o.getD .non) w'->Q w' s'):
  wpAny (model X.prog X.w) A (call (.builtin "dict.get") [.ref a,u]) Q E s:=by
 rcases g with⟨kvs,k,e,ey,l⟩|⟨kvs,k,b,e,ey,eb,l⟩
 ·subst ey;obtain⟨z,hd,vs,rel,dd⟩:=r6 I.hok e;refine call_meetsIn PySem.F.slot_dict_get dd.typeIs PySem.F.entry_dict_get (PySem.F.args_dict_get_2 _ _) (meets_dict_get (bY X.prog X.w) a (t9 ry) hd) ⟨_,dd.mapOf,h _ _ (I.tok _) ?_⟩;rw[l];exact(rel.val k).getD rfl
 ·subst ey;cases (show u=Value.ref b from ry);obtain⟨z,hd,xs,rel,dd⟩:=nY I.hok e;refine call_meetsIn PySem.F.slot_dict_get dd.typeIs PySem.F.entry_dict_get (PySem.F.args_dict_get_2 _ _) (meetsH_dict_get (tupleKind (bY X.prog X.w)) a b hd) ⟨tupleKind_room_in1 hu,k,xs,kJ I.hok eb,dd,h _ _ (I.tok _) ?_⟩;rw[l];exact(rel.val k).getD rfl
theorem MX{Q:Value->Shared->Prop}(hu:A.units+1<cLine)(I:Inv X jh σ H s)(g:lF H a y o)(ry:RelV y u)(rd:RelV d r)(h:∀w' s',Inv X jh σ H s'->RelV (o.getD d) w'->Q w' s'):
  wpAny (model X.prog X.w) A (call (.builtin "dict.get") [.ref a,u,r]) Q E s:=by
 rcases g with⟨kvs,k,e,ey,l⟩|⟨kvs,k,b,e,ey,eb,l⟩
 ·subst ey;obtain⟨z,hd,vs,rel,dd⟩:=r6 I.hok e;refine call_meetsIn PySem.F.slot_dict_get dd.typeIs PySem.F.entry_dict_get (PySem.F.args_dict_get_3 _ _ _) (meets_dict_get_default (bY X.prog X.w) a (t9 ry) hd r) ⟨_,dd.mapOf,h _ _ (I.tok _) ?_⟩;rw[l];exact(rel.val k).getD rd
 ·subst ey;cases (show u=Value.ref b from ry);obtain⟨z,hd,xs,rel,dd⟩:=nY I.hok e;refine call_meetsIn PySem.F.slot_dict_get dd.typeIs PySem.F.entry_dict_get (PySem.F.args_dict_get_3 _ _ _) (meetsH_dict_get_default (tupleKind (bY X.prog X.w)) a b hd r) ⟨tupleKind_room_in1 hu,k,xs,kJ I.hok eb,dd,h _ _ (I.tok _) ?_⟩;rw[l];exact(rel.val k).getD rd
end
noncomputable def LX(td ty:TE):TE:=fun σ H Q=>td σ H fun x H1=>∃a,x=.ref a/\IsD H1 a/\ty σ H1 fun y H2=>∃o,lF H2 a y o/\Q (o.getD .non) H2
noncomputable def LW(td ty tx:TE):TE:=fun σ H Q=>td σ H fun x H1=>∃a,x=.ref a/\IsD H1 a/\ty σ H1 fun y H2=>tx σ H2 fun z H3=>∃o,lF H3 a y o/\Q (o.getD z) H3
section
variable {X:Cx}{o e f:Expr}{kc jn:Pos}{td ty tx:TE}
theorem HE(hu:X.A.units+1<cLine)(ho:PE X o td)(he:PE X e ty)(m:M1 X o "get" kc e jn):PE X (.Call (.Attribute o "get" kc) [e] [] jn) (LX td ty):=by intro jh s σ H Q I h;refine wpAny_Call_method m.base m.few m.line PySem.F.plainAttrs_dict PySem.F.slot_dict_get PySem.F.type_dict_get (thn (ho jh s σ H _ I h) fun u s1 ⟨x,H1,I1,rx,a,ex,d,q1⟩=>?_);subst ex;obtain rfl:u=Value.ref a:=rx;obtain⟨t1,t2,_⟩:=IB I1 d;refine⟨t1,t2,?_⟩;rw[m.trees];refine Calls.callWith_builtin rfl (Calls.evalArgs_plain (Calls.spliced_cons (thn (he jh s1 σ H1 _ I1 q1) fun iv s2 ⟨y,H2,I2,ry,ov,g,q2⟩=>Calls.spliced_nil ?_)));exact MY hu I2 g ry fun w' s3 I3 qp=>⟨_,H2,I3,qp,q2⟩
theorem sQ(hu:X.A.units+1<cLine)(ho:PE X o td)(he:PE X e ty)(hf:PE X f tx)(m:M2 X o "get" kc e f jn):PE X (.Call (.Attribute o "get" kc) [e,f] [] jn) (LW td ty tx):=by
 intro jh s σ H Q I h;refine wpAny_Call_method m.base m.few m.line PySem.F.plainAttrs_dict PySem.F.slot_dict_get PySem.F.type_dict_get (thn (ho jh s σ H _ I h) fun u s1 ⟨x,H1,I1,rx,a,ex,d,q1⟩=>?_);subst ex;obtain rfl:u=Value.ref a:=rx;obtain⟨t1,t2,_⟩:=IB I1 d;refine⟨t1,t2,?_⟩;rw[m.trees];refine Calls.callWith_builtin rfl (Calls.evalArgs_plain (Calls.spliced_cons (thn (he jh s1 σ H1 _ I1 q1) fun iv s2 ⟨y,H2,I2,ry,q2⟩=>
  Calls.spliced_cons (thn (hf jh s2 σ H2 _ I2 q2) fun fv s3 ⟨z,H3,I3,rz,ov,g,q3⟩=>Calls.spliced_nil ?_))))
 exact MX hu I3 g ry rz fun w' s4 I4 qp=>⟨_,H3,I4,qp,q3⟩
end
theorem sX:typeLookup (.type "list") "keys" =pure none:=am_miss_of_fast (by first|decide+kernel|rfl)
theorem xX:entryFor table "dict.update.loop" =some Builtin.«dict.update.loop» :=entryFor_of_tree (by kernel_rfl)
theorem k6:plainId "dict.update.loop" =true:=by decide+kernel
section
variable {prog:Program}{w:World}{A:Around}{E:Value->Shared->Prop}
theorem EG{s:Shared}{a:Addr}{o:Obj}{xs:Array Value}{k:Nat}{Q:Option Value->Shared->Prop}(hx:s.heap.get? a=some o)(hc:o.cls=.type "list")(ki:o.data=.seq xs k)(hd:o.dict=none)(hA:A.handled=none)
  (h:∀h' tk,(∀b ob,s.heap.get? b=some ob->h'.get? b=some ob)->Q none {s with heap:=h',toks:=tk}):wpAny (model prog w) A (getAttr? (.ref a) "keys") Q E s:=by
 obtain⟨c,dct,dat,sl⟩:=o;simp only at hc ki hd;subst hc ki hd;obtain⟨hp,g,d,tk,os⟩:=s;have hT:∀tk',(⟨hp,g,d,tk',os⟩:Shared).TypeIs (.ref a) "list" :=fun _=>⟨_,hx,rfl⟩
 have Bt:=sX;have Br:(["__module__","__name__","__qualname__","__doc__","__annotations__"]:List Str).contains "keys" =false:=by decide+kernel
 have hsz:("keys" : Str).length+100<=sizeLine:=by first|size_fits|decide+kernel
 have f1:=sub_AttributeError;have f3:=PySem.F.slot_list_getattribute.lookup;have f4:=PySem.F.slot_list_getattribute.bind (.ref a);have f5:=am_list_getattr_none;unfold getAttr? getAttrBy? getAttrBy
 repeat (any_goals (first|assumption|exact hT _|((with_reducible show wpAny _ _ (call (Value.builtin "list.__getattribute__") _ _) _ _ _);refine call_meets PySem.F.slot_list_getattribute (hT _) am_entry_list_getattribute (PySem.F.args_list_getattribute_2 _ _) (meets_getattribute_miss_list a xs k sl "keys" _ Bt Br hsz) ⟨hx,hA,fun h' tk' e Aa=>?_⟩)|wp_step))
 obtain⟨t',u',he⟩:=Aa.there;show wpAny _ _ (getattributeRaised _ _ _ _ _ _ _) _ _ _
 unfold getattributeRaised
 repeat (any_goals (first|assumption|wp_step))
 all_goals first|exact h _ _ Aa.keeps|(dsimp only;repeat (any_goals (first|assumption|exact h _ _ Aa.keeps|wp_step)))
end
section
variable {X:Cx}
theorem hJ:∀{ps:List Addr}{us:List Value},Vals (ps.map V.ref) us->us=ps.map Value.ref
 |[],us,r=>by rw[ie]at r;cases r;rfl
 |p::ps,us,r=>by
  rw[bf]at r;cases r with
  |cons h t=>cases h;rw[bf,<- hJ t]
end
section
variable {X:Cx}{jh:List (Addr×Obj)}{σ:St}{H:Hp}{s:Shared}{h':Heap}
theorem Inv.uT{t':Nat}{ch:List Addr}{T:Addr}{ob:HO}(I:Inv X jh σ H s)(k:∀b o,b∉ch->s.heap.get? b=some o->h'.get? b=some o)(hf:∀b∈ch,mO X jh H b)(hT:s.heap.objs.size<=T)
  (new:d3 X.prog X.w (upd H T ob) h' T ob):Inv X jh σ (upd H T ob) {s with heap:=h',toks:=t'}:=by
 have hn:H T=none:=I.hok.fresh hT;have Aw:∀b u,H b=some u->b∉ch:=fun b u e z=>by have q:=(hf b z).1;rw[q]at e;cases e
 refine I.step (g':=s.gens) (d':=s.drawn) (ch:=ch) (fun b hb=>⟨(hf b hb).2.2.2.1,(hf b hb).2.1,(hf b hb).2.2.2.2.1,(hf b hb).2.2.2.2.2⟩) (fun b o _ _ hc e _=>k b o hc e) (fun b o _ _ hc e _=>⟨o.slots,k b o hc e⟩)
  (fun b o _ e n=>?_) (fun b o hc e=>⟨o,k b o hc e⟩) (fun b xs e=>?_) (fun b o u e=>?_) (fun b ps e=>⟨#[],?_⟩) (fun m hm=>?_) (fun b u e=>?_) I.bare
 ·rw[aA (cf (bz (bj e) hT))];exact n
 ·rw[aA (aI e hn)];exact e
 ·rw[aA (aI e hn)];exact e
 ·rw[aA (aI e hn),e];simp
 ·obtain⟨o,es,ep,ho,r⟩:=hm;exact⟨o,es,ep,k _ o (fun z=>(hf _ z).2.1 rfl) ho,r⟩
 ·by_cases hb:b=T
  ·subst hb;rw[a7]at e;cases e;exact new
  ·rw[aA hb]at e;refine(I.hok b u e).mV (fun c v hc q=>k c v ?_ q) (fun c q=>by rw[aA (aI q hn)];exact q) fun c xs q=>by rw[aA (aI q hn)];exact q
   rcases hc with z|z
   ·rw[z];exact Aw b u e
   ·exact Aw c _ z
theorem Inv.lock{d:Addr}{u:HO}(I:Inv X jh σ H s)(h:H d=some u)(mu:Mut (some u)):∃od,Inv X jh σ (upd H d (.frz od u)) s:=by
 have x:=I.hok d u h;have ex:∃od,s.heap.get? d=some od:=by
  cases u with
  |lst xs=>obtain⟨_,_,_,_,e⟩:=x;exact⟨_,e⟩
  |dK kvs=>obtain⟨_,_,_,_,o,_,_,e,_⟩:=x;exact⟨o,e⟩
  |dT kvs=>obtain⟨_,_,_,_,o,_,_,e,_⟩:=x;exact⟨o,e⟩
  |set S n=>obtain⟨o,_,_,_,e,_⟩:=x;exact⟨o,e⟩
  |ins C dx fs=>obtain⟨_,_,_,e,_⟩:=x;exact⟨_,e⟩
  |ext φ=>obtain⟨_,⟨_,e⟩,_⟩:=x;exact⟨_,e⟩
  |_=>exact False.elim mu
 obtain⟨od,e⟩:=ex;have new:d3 X.prog X.w (upd H d (.frz od u)) s.heap d (.frz od u):=by
  refine⟨e,x.mV (fun b v _ q=>q) (fun b q=>?_) fun b xs q=>?_⟩
  ·rw[aA (fun z=>by rw[z,h]at q;cases q;exact mu)];exact q
  ·rw[aA (fun z=>by rw[z,h]at q;cases q;exact mu)];exact q
 exact⟨od,I.write (x:=d) (e:=d) (t':=s.toks) (h':=s.heap) (by rw[h];exact mu) (.inl rfl) (fun b v _ q=>q) ⟨od,e⟩ new⟩
theorem Inv.vL{d:Addr}{u:HO}(I:Inv X jh σ H s)(h:H d=some u)(mu:Mut (some u)):∀o' u',X.H_0 d≠some (.frz o' u'):=fun o' u' e=>by have q:=I.base.mH d o' u' e;rw[h]at q;cases q;exact mu
theorem Inv.unlock{d:Addr}{od:Obj}{u:HO}(I:Inv X jh σ H s)(h:H d=some (.frz od u))(hn:∀o' u',X.H_0 d≠some (.frz o' u')):Inv X jh σ (upd H d u) s:=by
 have zx:∀b o,H b=some o->(∀o' u',o≠ .frz o' u')->b≠d:=fun b o e jl z=>by rw[z,h]at e;cases e;exact jl _ _ rfl
 have neN:∀b,H b=none->b≠d:=fun b e z=>by rw[z,h]at e;cases e
 refine⟨I.ok,I.os,I.bare,⟨I.base.keep,I.base.slot,fun b o e n hx=>?_,I.base.there,fun b xs e=>?_,fun b o x e=>?_,fun b ps e=>?_⟩,I.loc,I.cell,?_,fun x c e=>?_,fun p hp=>?_,fun b o e=>?_,I.len⟩
 ·rw[aA (neN b (I.base.free b o e n hx))];exact I.base.free b o e n hx
 ·have q:=I.base.u6 b xs e;rw[aA (zx b _ q (fun _ _ z=>nomatch z))];exact q
 ·have q:=I.base.mH b o x e;rw[aA (fun z=>by rw[z]at e;exact hn _ _ e)];exact q
 ·obtain⟨m,q⟩:=I.base.rD b ps e;exact⟨m,by rw[aA (zx b _ q (fun _ _ z=>nomatch z))];exact q⟩
 ·rw[aA (neN _ I.free)];exact I.free
 ·rw[aA (neN c (I.gU x c e))];exact I.gU x c e
 ·obtain⟨e,n,r⟩:=I.pin p hp;exact⟨e,by rw[aA (neN _ n)];exact n,r⟩
 ·by_cases hb:b=d
  ·rw[hb,a7]at e;cases e;rw[hb];obtain⟨_,x⟩:=I.hok d _ h;exact x.mV (fun c v _ q=>q) (fun c q=>by rw[aA (zx c _ q (fun _ _ z=>nomatch z))];exact q) fun c xs q=>by rw[aA (zx c _ q (fun _ _ z=>nomatch z))];exact q
  ·rw[aA hb]at e;exact(I.hok b o e).mV (fun c v _ q=>q) (fun c q=>by rw[aA (zx c _ q (fun _ _ z=>nomatch z))];exact q) fun c xs q=>by rw[aA (zx c _ q (fun _ _ z=>nomatch z))];exact q
end
noncomputable def NM(t:TS):TS:=fun D σ H=>∃d u,H d=some u/\Mut (some u)/\∀od,t ⟨fun σ' H'=>H' d=some (.frz od u)/\D.nx σ' (upd H' d u),fun v H'=>H' d=some (.frz od u)/\D.rt v (upd H' d u),fun σ' H'=>H' d=some (.frz od u)/\D.bk σ' (upd H' d u),fun σ' H'=>H' d=some (.frz od u)/\D.ct σ' (upd H' d u)⟩ σ (upd H d (.frz od u))
noncomputable def LU(t:TE):TE:=fun σ H Q=>∃d u,H d=some u/\Mut (some u)/\∀od,t σ (upd H d (.frz od u)) fun v H'=>H' d=some (.frz od u)/\Q v (upd H' d u)
section
variable {X:Cx}
theorem jA{st:Stmt}{t:TS}(h:PS X st t):PS X st (NM t):=by
 intro jh s σ H D I hw;obtain⟨d,u,hd,mu,hw⟩:=hw;obtain⟨od,I1⟩:=I.lock hd mu;refine thn (h jh s σ _ _ I1 (hw od)) fun f s1 q=>?_
 cases f with
 |next=>obtain⟨σ',H',I2,e,q⟩:=q;exact⟨σ',_,I2.unlock e (I.vL hd mu),q⟩
 |brk=>obtain⟨σ',H',I2,e,q⟩:=q;exact⟨σ',_,I2.unlock e (I.vL hd mu),q⟩
 |cont=>obtain⟨σ',H',I2,e,q⟩:=q;exact⟨σ',_,I2.unlock e (I.vL hd mu),q⟩
 |ret v=>obtain⟨x,σ',H',I2,r,e,q⟩:=q;exact⟨x,σ',_,I2.unlock e (I.vL hd mu),r,q⟩
theorem JT{e:Expr}{t:TE}(h:PE X e t):PE X e (LU t):=by
 intro jh s σ H Q I hw;obtain⟨d,u,hd,mu,hw⟩:=hw;obtain⟨od,I1⟩:=I.lock hd mu;refine thn (h jh s σ _ _ I1 (hw od)) fun v s1 ⟨x,H1,I2,r,e2,q⟩=>?_
 exact⟨x,_,I2.unlock e2 (I.vL hd mu),r,q⟩
theorem wW{tg:Expr}{jh:List (Addr×Obj)}{σ:St}{H:Hp}{s:Shared}{R:It->Hp->Prop}{J:It}{tn:Nat->Heap->Prop}{tk:Nat}(I:Inv X jh σ H s)(o:Obj)
  (T:Turn X.prog X.w X.K tg J [s.heap.objs.size] s.heap.objs.size tn) (st:tn 0 (s.heap.push o)) (q:R J H):PIE X jh σ tg R (.ref s.heap.objs.size) {s with heap:=s.heap.push o,toks:=tk}:=by
 refine⟨s.heap.objs.size,[s.heap.objs.size],tn,J,H,rfl,I.kept fun b ob e=>aj _ e,T,st,fun b hb=>?_,q⟩;have e:b=s.heap.objs.size:=by simpa using hb
 subst e;exact I.BV (au _) (I.hok.fresh (au _))
end
noncomputable def Itc(lo c:Int)(n:Nat):It:=⟨fun i _=>i<n,fun i H x H'=>H'=H/\x=.int (lo+(i:Nat)*c),fun i _=>n<=i⟩
theorem y6{P:Program}{w:World}{K:W.Frag}{tg:Expr}(it:Addr)(lo c:Int)(n:Nat):Turn P w K tg (Itc lo c n) [it] it (fun i h=>IsRangeIter h it (lo+(i:Nat)*c) ((n:Int) - (i:Nat)) c) where
 mem:=by simp
 obj:=fun i h st b hb=>by
  have e:b=it:=by simpa using hb
  subst e;exact⟨_,st,fun v z=>nomatch z⟩
 keep:=fun i h h' st k=>k it (by simp) _ st
 item:=by
  intro X hP hw hK hc i jh s σ H E I hf st hg;subst hP hw hK;obtain⟨f0,f1,f2,f3,f4,f5⟩:=hf it (by simp);have W:=Walks.range (prog:=X.prog) (w:=X.w) (I.ok.hd hc) it lo c n;refine W.item i s _ _ hg st fun v h' tk hv nu kk=>?_
  obtain⟨t,rfl⟩:=hv;have I1:Inv X jh σ H {s with heap:=h',toks:=tk}:=I.turned (fun b o hb e=>kk b o (by simpa using hb) e) f0 f1 f3 f4 f5;exact⟨_,rfl,vS (s:={s with heap:=h',toks:=tk}) (n:= "range_iterator") nu rfl rfl (by decide) ⟨.int (lo+(i:Nat)*c),H,I1,⟨t,rfl⟩,⟨rfl,rfl⟩,nu,fun b hb=>(hf b hb).1⟩⟩
 done:=by intro X hP hw hK hc i jh s σ H E I hf st hg;subst hP hw hK;obtain⟨f0,f1,f2,f3,f4,f5⟩:=hf it (by simp);exact wpAny_pyNext_range_end (I.ok.hd hc) st (by have:n<=i:=hg;omega) fun h' eb=>⟨rfl,I.turned (t':=s.toks) (fun b o hb e=>eb b o hb e) f0 f1 f3 f4 f5⟩
 self:=fun A i s Q E st h=>wpAny_pyIter_rangeiter st h
noncomputable def RgC(i j c:Int)(n:Nat):Prop:=c≠0/\c.natAbs<1073741824/\Builtin.Range.small i j c=true/\Builtin.Range.rangeSize i j c=n
noncomputable def RW(ta:TA):TI:=fun σ H R=>ta σ H fun vs H1=>∃(i j c:Int)(n:Nat),vs=[.int i,.int j,.int c]/\RgC i j c n/\R (Itc i c n) H1
section
variable {X:Cx}{tg:Expr}
theorem EA{a b c:Expr}{ta:TA}{p pos:Pos}(hg:Gl X "range")(hm:X.mg "range" =none)(ha:PA X [a,b,c] ta)
  (hs:starEach [a,b,c] X.env=(false,eval a X.env)::starEach [b,c] X.env:=by rfl) (qo:(backTo pos (starEach [b,c] X.env)).any (·.1)=false:=by rfl):
  PI X tg (.Call (.Name "range" p) [a,b,c] [] pos) (RW ta):=by
 intro jh s σ H R I h;refine Call_ (kH I hg hm boot_range (PyProof.Rows.callWith_type1 (thn (ha pos jh s σ H _ I h) fun us s1 ⟨vs,H1,I1,r1,q1⟩=>?_) hs qo));obtain⟨i,j,k,n,e,⟨c0,c1,c2,c3⟩,q⟩:=q1;subst e;cases r1 with
 |cons r rr=>
  cases rr with
  |cons r' rr=>
   cases rr with
   |cons r'' rr=>
    cases rr;obtain⟨t,rfl⟩:=r;obtain⟨t',rfl⟩:=r';obtain⟨t'',rfl⟩:=r'';refine call_range_3 c0 ?_ (.inl (PyProof.noPylong_small c1));refine wpAny_pyIter_range (IsRange.new ..) c2 ?_;have I2:Inv X jh σ H1 {s1 with heap:=s1.heap.push {cls:=.type "range",data:=.fields #[.int i t,.int j t',.int k t'']}}:=I1.kept (t':=s1.toks) fun b o e=>aj _ e
    refine wW (tk:=s1.toks) I2 _ (y6 _ i k n) ?_ q;have e1:i+((0:Nat):Int)*k=i:=by simp
    have e2:(n:Int) - ((0:Nat):Int)=Builtin.Range.rangeSize i j k:=by rw[c3];simp
    show IsRangeIter _ _ (i+((0:Nat):Int)*k) ((n:Int) - ((0:Nat):Int)) k
    rw[e1,e2];exact ax _ rfl
end
section
variable {prog:Program}{w:World}{A:Around}{E:Value->Shared->Prop}{s:Shared}
theorem pO{d:Addr}{o:Obj}{es:Array DictEntry}{ep:Nat}{Q:Value->Shared->Prop}(hd:(d==sysModules)=false)(ho:s.heap.get? d=some o)(hc:o.ExactDict)(ki:o.data=.dict es ep)
  (hQ:Q (.ref s.heap.objs.size) {s with heap:=s.heap.push {cls:=.type "dict_keyiterator",data:=.fields #[.ref d,.int 0 0,.int es.size 0,.int ep 0]}}):
  wpAny (model prog w) A (pyIter (.ref d)) Q E s:=by
 have hT:s.TypeIs (.ref d) "dict" :=⟨o,ho,hc.1⟩;refine wpAny_pyIter_slot hT F.slot_dict_iter (wpAny_call_entry F.slot_dict_iter hT F.entry_dict_iter ?_ (F.args_dict_iter_1 _));unfold Builtin.«dict.__iter__»;refine aa ?_;unfold Builtin.Dict.dictSlotNone;refine aa (wpAny_notOrdered_dict hT ?_);show wpAny _ _ (pure (Value.ref d)) _ _ s
 refine af ?_;show wpAny _ _ (Builtin.Dict.showsAll d>>= _) _ _ s
 unfold Builtin.Dict.showsAll;rw[ag (by rw[hd];exact bg)];refine aa (af ?_);refine aa (wpAny_dictEntries ho ki ?_);refine aa (wpAny_dictEpoch ho ki ?_);refine aa (wpAny_newObj_type (af ⟨_,rfl,"dict_keyiterator",_,⟨_,ax _ rfl,rfl⟩,F.slot_dict_keyiterator_next.lookup,?_⟩));simpa[rawInt]using hQ
theorem m5{it d:Addr}{i n ep:Nat}{od:Obj}{es:Array DictEntry}{en:DictEntry}{Q:Option Value->Shared->Prop}(ju:s.heap.IsKeyIter it d i n ep)(qc:s.heap.get? d=some od)(xf:od.data=.dict es ep)
  (hsz:es.size=n) (hx:es[i]? =some en) (hQ:∀h',h'.IsKeyIter it d (i+1) n ep->Heap.SameBut it s.heap h'->Q (some en.key) {s with heap:=h'}):wpAny (model prog w) A (pyNext (.ref it)) Q E s:=by
 obtain⟨o,ho,hc,hd⟩:=id ju;unfold pyNext;refine aa (wpAny_attempt (wpAny_callSpecial?_slot (name:=Str.ofString "__next__") ju.typeIs F.slot_dict_keyiterator_next
  (wpAny_call_entry F.slot_dict_keyiterator_next ju.typeIs F.entry_dict_keyiterator_next ?_ (F.args_dict_keyiterator_next_1 _))))
 refine aa (af ?_);refine aa ?_;refine aa ?_;first|refine aa (wpAny_typeNameOfWhole_keyiter ju.typeIs (af ?_))|refine aa (wpAny_typeNameOf_keyiter ju.typeIs (af ?_))
 refine aa (wpAny_fieldsOf ho hd ?_);have yy:Builtin.Dict_items.ownsTuple "dict_keyiterator" =false:=by decide
 simp only[yy,dv,if_false];show wpAny _ _ (if(Value.ref d==Value.none)=true then _ else _) _ _ s
 rw[ag (show¬((Value.ref d==Value.none)=true)from bg)];refine aa (af ?_);refine aa (wpAny_dictEntries qc xf ?_);rw[ag (by rw[hsz];simp)];refine aa (af ?_);refine aa (wpAny_dictEpoch qc xf ?_);rw[ag (by simp)];refine af ?_;obtain⟨hlt',oq⟩:=fm.mp hx;simp only[show¬((i:Int)<0)from by omega,if_false,gi,cb hlt'];refine aa ?_;first|refine aa (wpAny_typeNameOfWhole_keyiter ju.typeIs (af ?_))|refine aa (wpAny_typeNameOf_keyiter ju.typeIs (af ?_))
 refine aa (wpAny_isOneOf_keyiter ju.typeIs ?_);show wpAny _ _ (setField (.ref it) 1 (rawInt ((i:Int)+1))>>= _) _ _ s
 refine aa (wpAny_setField ho hd (by simp) ?_);have va:(s.heap.update it (Obj.mapFields (·.setIfInBounds 1 (rawInt ((i:Int)+1))))).IsKeyIter it d (i+1) n ep:=
  ⟨_,gu _ ho (Obj.isFreed_of_fields (Obj.data_mapFields hd _)),(Obj.cls_mapFields ..).trans hc,by rw[Obj.data_mapFields hd];simp[rawInt]⟩
 refine aa (wpAny_holding ?_);refine aa (wpAny_isOneOf_keyiter (s:={s with heap:=s.heap.update it (Obj.mapFields (·.setIfInBounds 1 (rawInt ((i:Int)+1))))}) va.typeIs ?_);show wpAny _ _ (pure es[i].key) _ _ _
 rw[oq];exact af (af ⟨_,rfl,af (hQ _ va (Heap.SameBut.update ..))⟩)
theorem jD{it d:Addr}{i n ep:Nat}{od:Obj}{es:Array DictEntry}{Q:Option Value->Shared->Prop}(hh:A.handled=none)(ju:s.heap.IsKeyIter it d i n ep)(qc:s.heap.get? d=some od)(xf:od.data=.dict es ep)
  (hsz:es.size=n) (vb:n<=i) (hQ:∀h',Heap.ExtBut it s.heap h'->Q none {s with heap:=h'}):wpAny (model prog w) A (pyNext (.ref it)) Q E s:=by
 obtain⟨o,ho,hc,hd⟩:=id ju;unfold pyNext;refine aa (wpAny_attempt (wpAny_callSpecial?_slot (name:=Str.ofString "__next__") ju.typeIs F.slot_dict_keyiterator_next
  (wpAny_call_entry F.slot_dict_keyiterator_next ju.typeIs F.entry_dict_keyiterator_next ?_ (F.args_dict_keyiterator_next_1 _))))
 refine aa (af ?_);refine aa ?_;refine aa ?_;first|refine aa (wpAny_typeNameOfWhole_keyiter ju.typeIs (af ?_))|refine aa (wpAny_typeNameOf_keyiter ju.typeIs (af ?_))
 refine aa (wpAny_fieldsOf ho hd ?_);have yy:Builtin.Dict_items.ownsTuple "dict_keyiterator" =false:=by decide
 simp only[yy,dv,if_false];show wpAny _ _ (if(Value.ref d==Value.none)=true then _ else _) _ _ s
 rw[ag (show¬((Value.ref d==Value.none)=true)from bg)];refine aa (af ?_);refine aa (wpAny_dictEntries qc xf ?_);rw[ag (by rw[hsz];simp)];refine aa (af ?_);refine aa (wpAny_dictEpoch qc xf ?_);rw[ag (by simp)];refine af ?_;have hge':es.size<=i:=by rw[hsz];exact vb
 simp only[show¬((i:Int)<0)from by omega,if_false,gi,gj hge'];refine aa ?_;first|refine aa (wpAny_typeNameOfWhole_keyiter ju.typeIs (af ?_))|refine aa (wpAny_typeNameOf_keyiter ju.typeIs (af ?_))
 show wpAny _ _ (setField (.ref it) 0 .none>>= _) _ _ s
 refine aa (wpAny_setField ho hd (by simp) ?_);show wpAny _ _ (newExc (.type "StopIteration") []>>= _) _ _ _
 refine aa ?_;simp only[newExc,newTuple];refine aa (wpAny_newObj_type ?_ (by size_fits));refine aa (m:=firstArgMember _ _) (wpAny_of_eq (a:=Value.none) (by first|rfl|(simp only[firstArgMember];rfl)) ?_);refine wpAny_newObj_type ?_ (by size_fits);simp only[raiseNew];refine aa (wpAny_handled ?_);rw[show A.in1.handled=none from hh];refine aa (af (wpAny_throw ?_));refine aa (wpAny_isInstance (T:= "StopIteration") (b:=true) ⟨_,ax _ rfl,rfl⟩ isSubtype_stop ?_);exact af (hQ _ (((Heap.SameBut.update ..).extBut.push _).push _))
end
theorem MH{κ:Type}{kvs:List (κ×V)}{vs:List (κ×Value)}(h:KV kvs vs):∀{i:Nat}{k:κ}{v:V},kvs[i]? =some (k,v)->∃u,vs[i]? =some (k,u)/\RelV v u:=by
 unfold KV at h;induction h with
 |nil=>intro i k v e;simp at e
 | @cons a b l₁ l₂ r t ih=>
  intro i k v e;cases i with
  |zero=>simp only[List.getElem?_cons_zero,Option.some.injEq]at e;subst e;refine⟨b.2,?_,r.2⟩;simp only[List.getElem?_cons_zero];exact congrArg some (Prod.ext r.1.symm rfl)
  |succ j=>simp only[gg]at e ⊢;exact ih e
theorem B1{α β:Type}{G:α->β->Prop}{l₁:List α}{l₂:List β}(h:Paired G l₁ l₂):∀{i:Nat}{a:α},l₁[i]? =some a->∃b,l₂[i]? =some b/\G a b:=by
 induction h with
 |nil=>intro i a e;simp at e
 | @cons a b l₁ l₂ r t ih=>
  intro i a' e;cases i with
  |zero=>simp only[List.getElem?_cons_zero,Option.some.injEq]at e;subst e;exact⟨b,rfl,r⟩
  |succ j=>simp only[gg]at e ⊢;exact ih e
theorem GP{k:Key}{u:Value}(h:qT k u=true):RelV (kV k) u:=by
 rcases cE h with⟨i,t,rfl,rfl⟩|⟨x,t,rfl,rfl⟩
 ·exact⟨t,rfl⟩
 ·exact⟨t,rfl⟩
section
variable {X:Cx}{jh:List (Addr×Obj)}{σ:St}{H:Hp}{s:Shared}{d:Addr}{o:Obj}
theorem Inv.MS{kvs:List (Key×V)}(I:Inv X jh σ H s)(h:H d=some (.frz o (.dK kvs))):
  (d==sysModules)=false/\s.heap.get? d=some o/\o.ExactDict/\∃(es:Array DictEntry)(ep:Nat)(vs:List (Key×Value)),o.data=.dict es ep/\es.size=kvs.length/\KV kvs vs/\s.heap.DictAt (bY X.prog X.w) d vs ep:=by
 obtain⟨hd,z,hs,vs,kv,o',es,ep,ho,hx,ni,r⟩:=I.hok d _ h;rw[hd]at ho;cases ho;refine⟨hs,hd,hx,es,ep,vs,ni,?_,kv,o,es,hd,hx,ni,r⟩;have l1:=r.2.1.length;have l2:kvs.length=vs.length:=Paired.length kv;rw[dm]at l1;omega
theorem Inv.MR{kvs:List (List Key×V)}(I:Inv X jh σ H s)(h:H d=some (.frz o (.dT kvs))):
  (d==sysModules)=false/\s.heap.get? d=some o/\o.ExactDict/\∃(es:Array DictEntry)(ep:Nat),o.data=.dict es ep/\es.size=kvs.length/\
   ∀(i:Nat)(k:List Key)(v:V),kvs[i]? =some (k,v)->∃(en:DictEntry)(q:Addr),es[i]? =some en/\en.key=.ref q/\H q=some (.tup (k.map kV)):=by
 obtain⟨hd,z,hs,xs,pr,o',es,ep,ho,hx,ni,he,_⟩:=I.hok d _ h;rw[hd]at ho;cases ho;refine⟨hs,hd,hx,es,ep,ni,?_,fun i k v e=>?_⟩
 ·have l1:es.size=xs.length:=size_of_entries he;have l2:kvs.length=xs.length:=Paired.length pr;omega
 ·obtain⟨b,hb,e1,e2,_⟩:=B1 pr e;have q:=entry_at he i;rw[hb]at q;exact⟨_,b.2.1,q,rfl,e2⟩
end
noncomputable def Itk(d:Addr)(o:Obj)(kvs:List (Key×V)):It:=
 ⟨fun i H=>H d=some (.frz o (.dK kvs))/\i<kvs.length,fun i H x H'=>H'=H/\∃k v,kvs[i]? =some (k,v)/\x=kV k,fun i H=>H d=some (.frz o (.dK kvs))/\kvs.length<=i⟩
noncomputable def AE(d:Addr)(o:Obj)(kvs:List (List Key×V)):It:=
 ⟨fun i H=>H d=some (.frz o (.dT kvs))/\i<kvs.length,fun i H x H'=>H'=H/\∃(k:List Key)(v:V)(q:Addr),kvs[i]? =some (k,v)/\x=.ref q/\H q=some (.tup (k.map kV)),fun i H=>H d=some (.frz o (.dT kvs))/\kvs.length<=i⟩
theorem nZ{o:Obj}{es sv:Array DictEntry}{ep sx:Nat}(h:o.data=.dict es ep)(h':o.data=.dict sv sx):sv=es/\sx=ep:=by rw[h]at h';cases h';exact⟨rfl,rfl⟩
section
variable {P:Program}{w:World}{K:W.Frag}{tg:Expr}{d:Addr}{o:Obj}{es:Array DictEntry}{ep:Nat}
theorem DQ{kvs:List (Key×V)}(it:Addr)(qc:o.data=.dict es ep):Turn P w K tg (Itk d o kvs) [it] it (fun i h=>h.IsKeyIter it d i kvs.length ep) where
 mem:=by simp
 obj:=fun i h st b hb=>by
  have e:b=it:=by simpa using hb
  subst e;obtain⟨oi,e,c,dd⟩:=st;exact⟨oi,e,fun v z=>by rw[dd]at z;cases z⟩
 keep:=fun i h h' st k=>st.at fun oi e=>k it (by simp) oi e
 item:=by
  intro X hP hw hK hc i jh s σ H E I hf st hg;subst hP hw hK;obtain⟨hd,hi⟩:=hg;obtain⟨f0,f1,f2,f3,f4,f5⟩:=hf it (by simp);obtain⟨hs,ub,hx,sv,sx,vs,ni,hsz,kv,hm⟩:=I.MS hd;obtain⟨rfl,rfl⟩:=nZ qc ni;obtain⟨⟨k,v⟩,zd⟩:∃p,kvs[i]? =some p:=⟨kvs[i],bq hi⟩
  obtain⟨u,hu,ru⟩:=MH kv zd;have hl:kvs.length=vs.length:=Paired.length kv;rw[hl]at st;refine wpAny_pyNext_dict_item st hm hu fun key h' nh nu sb=>?_
  have I1:Inv X jh σ H {s with heap:=h'}:=I.turned (t':=s.toks) (fun b ob hb e=>(sb.2 b hb).trans e) f0 f1 f3 f4 f5;obtain⟨oi,e,c,dd⟩:=id nu;refine⟨key,rfl,vS (s:={s with heap:=h'}) e c dd (by decide) ⟨kV k,H,I1,GP (show qT k key=true from nh),⟨rfl,k,v,zd,rfl⟩,?_,fun b hb=>(hf b hb).1⟩⟩;show h'.IsKeyIter it d (i+1) kvs.length _
  rw[hl];exact nu
 done:=by intro X hP hw hK hc i jh s σ H E I hf st hg;subst hP hw hK;obtain⟨hd,hi⟩:=hg;obtain⟨f0,f1,f2,f3,f4,f5⟩:=hf it (by simp);obtain⟨hs,ub,hx,sv,sx,vs,ni,hsz,kv,hm⟩:=I.MS hd;obtain⟨rfl,rfl⟩:=nZ qc ni;exact jD (I.ok.hd hc) st ub ni hsz hi fun h' eb=>⟨rfl,I.turned (t':=s.toks) (fun b ob hb e=>eb b ob hb e) f0 f1 f3 f4 f5⟩
 self:=fun A i s Q E st h=>wpAny_pyIter_keyiter st h
theorem AL{kvs:List (List Key×V)}(it:Addr)(qc:o.data=.dict es ep):Turn P w K tg (AE d o kvs) [it] it (fun i h=>h.IsKeyIter it d i kvs.length ep) where
 mem:=by simp
 obj:=fun i h st b hb=>by
  have e:b=it:=by simpa using hb
  subst e;obtain⟨oi,e,c,dd⟩:=st;exact⟨oi,e,fun v z=>by rw[dd]at z;cases z⟩
 keep:=fun i h h' st k=>st.at fun oi e=>k it (by simp) oi e
 item:=by
  intro X hP hw hK hc i jh s σ H E I hf st hg;subst hP hw hK;obtain⟨hd,hi⟩:=hg;obtain⟨f0,f1,f2,f3,f4,f5⟩:=hf it (by simp);obtain⟨hs,ub,hx,sv,sx,ni,hsz,xk⟩:=I.MR hd;obtain⟨rfl,rfl⟩:=nZ qc ni;obtain⟨⟨k,v⟩,zd⟩:∃p,kvs[i]? =some p:=⟨kvs[i],bq hi⟩
  obtain⟨en,q,oq,nh,hq⟩:=xk i k v zd;refine m5 st ub ni hsz oq fun h' nu sb=>?_
  have I1:Inv X jh σ H {s with heap:=h'}:=I.turned (t':=s.toks) (fun b ob hb e=>(sb.2 b hb).trans e) f0 f1 f3 f4 f5;obtain⟨oi,e,c,dd⟩:=id nu;exact⟨en.key,rfl,vS (s:={s with heap:=h'}) e c dd (by decide) ⟨.ref q,H,I1,nh,⟨rfl,k,v,q,zd,rfl,hq⟩,nu,fun b hb=>(hf b hb).1⟩⟩
 done:=by intro X hP hw hK hc i jh s σ H E I hf st hg;subst hP hw hK;obtain⟨hd,hi⟩:=hg;obtain⟨f0,f1,f2,f3,f4,f5⟩:=hf it (by simp);obtain⟨hs,ub,hx,sv,sx,ni,hsz,xk⟩:=I.MR hd;obtain⟨rfl,rfl⟩:=nZ qc ni;exact jD (I.ok.hd hc) st ub ni hsz hi fun h' eb=>⟨rfl,I.turned (t':=s.toks) (fun b ob hb e=>eb b ob hb e) f0 f1 f3 f4 f5⟩
 self:=fun A i s Q E st h=>by
  refine wpAny_pyIter_slot st.typeIs F.slot_dict_keyiterator_iter (wpAny_call_entry F.slot_dict_keyiterator_iter st.typeIs F.entry_dict_keyiterator_iter ?_ (F.args_dict_keyiterator_iter_1 _));show wpAny _ _ (ret (.ref it)) _ _ s
  exact af ⟨_,rfl,"dict_keyiterator",_,st.typeIs,F.slot_dict_keyiterator_next.lookup,h⟩
end
noncomputable def S0(td:TE):TI:=fun σ H R=>td σ H fun x H1=>∃d o,x=.ref d/\((∃kvs,H1 d=some (.frz o (.dK kvs))/\R (Itk d o kvs) H1)\/∃kvs,H1 d=some (.frz o (.dT kvs))/\R (AE d o kvs) H1)
section
variable {X:Cx}{tg e:Expr}{td:TE}{kc jn:Pos}
theorem n6(he:PE X e td):PI X tg e (S0 td):=by
 intro jh s σ H R I h;refine thn (he jh s σ H _ I h) fun u s1 ⟨x,H1,I1,rx,d,o,ex,q⟩=>?_
 subst ex;obtain rfl:u=Value.ref d:=rx;rcases q with⟨kvs,hd,q⟩|⟨kvs,hd,q⟩
 ·obtain⟨hs,ub,hx,es,ep,vs,ni,hsz,kv,hm⟩:=I1.MS hd;refine pO hs ub hx ni (wW (tk:=s1.toks) I1 _ (DQ _ ni) ⟨_,ax _ rfl,rfl,?_⟩ q);rw[hsz]<;>rfl
 ·obtain⟨hs,ub,hx,es,ep,ni,hsz,xk⟩:=I1.MR hd;refine pO hs ub hx ni (wW (tk:=s1.toks) I1 _ (AL _ ni) ⟨_,ax _ rfl,rfl,?_⟩ q);rw[hsz]<;>rfl
end
noncomputable def Ite(K:W.Frag)(a:Addr):It:=
 ⟨fun i H=>∃(xs:List V)(x:V),SqL K H a xs/\xs[i]? =some x,fun i H v H'=>∃T x,v=.ref T/\H T=none/\H'=upd H T (.tup [.int (i:Nat),x])/\∀xs,SqL K H a xs->xs[i]? =some x,fun i H=>∃xs:List V,SqL K H a xs/\xs.length<=i⟩
theorem DR{P:Program}{w:World}{K:W.Frag}{mh:List Expr}{kk:Nat}{ng:Pos}(a e it:Addr):
  Turn P w K (.Tuple mh kk ng) (Ite K a) [e,it] e (fun i h=>(∃old,IsEnum h e it ((i:Nat):Int) old)/\h.IsListIter it a i/\e≠it) where
 mem:=by simp
 obj:=fun i h st b hb=>by
  obtain⟨⟨old,he⟩,⟨o,ho,hc,hd⟩,_⟩:=st;have e':b=e\/b=it:=by simpa using hb
  rcases e' with z|z
  ·rw[z];exact⟨_,he,fun v q=>nomatch q⟩
  ·rw[z];exact⟨o,ho,fun v q=>by rw[hd]at q;cases q⟩
 keep:=fun i h h' st k=>let⟨⟨old,he⟩,hi,jl⟩:=st;⟨⟨old,k e (by simp) _ he⟩,hi.at fun o q=>k it (by simp) o q,jl⟩
 item:=by
  intro X hP hw hK hc i jh s σ H E I hf st hg;subst hP hw hK;obtain⟨⟨old,he⟩,ju,jl⟩:=st;obtain⟨xs,x,hq,hx⟩:=hg;obtain⟨its,rv,p,hz⟩:=I.list hq;obtain⟨u,hu,ru⟩:=rv.get hx;have hel:e<s.heap.objs.size:=bj he;have ph:it<s.heap.objs.size:=by obtain⟨_,q,_⟩:=ju;exact bj q
  refine wpAny_pyNext_enum_item he ju p.isList (x:=u) (by simpa using hu) jl fun h' ho va hT hsz hk=>?_
  refine⟨_,rfl,wpAny_letOwnedTupleGo_enum (s:={s with heap:=h',toks:=s.toks+1}) ho fun wb he' sb=>?_⟩;have xh:wb.get? s.heap.objs.size=some {cls:=.type "tuple",data:=.seq #[.int i s.toks,u]}:=(sb.2 _ (jb hel)).trans hT;have new:d3 X.prog X.w (upd H s.heap.objs.size (.tup [.int (i:Nat),x])) wb s.heap.objs.size (.tup [.int (i:Nat),x]):=
   ⟨by show 2<=sizeLine;decide,[.int i s.toks,u],.cons ⟨_,rfl⟩ (.cons ru .nil),⟨_,xh,rfl,_,rfl⟩⟩
  have I1:Inv X jh σ (upd H s.heap.objs.size (.tup [.int (i:Nat),x])) {s with heap:=wb,toks:=s.toks+1}:=
   I.uT (ch:=[e,it]) (fun b ob hb q=>(sb.2 b (fun z=>hb (by simp[z]))).trans (hk b ob (fun z=>hb (by simp[z])) (fun z=>hb (by simp[z])) q)) hf (au _) new
  refine⟨.ref s.heap.objs.size,_,I1,rfl,⟨_,x,rfl,I.hok.fresh (au _),rfl,fun ys hy=>by rw[I.z6 hy hq];exact hx⟩,⟨⟨u,?_⟩,va.at fun o q=>(sb.2 it (Ne.symm jl)).trans q,jl⟩,fun b hb=>?_⟩
  ·have e1:((i+1:Nat):Int)=(i:Int)+1:=by omega
   rw[e1];exact he'
  ·have qi:b<s.heap.objs.size:=by
    have e':b=e\/b=it:=by simpa using hb
    rcases e' with z|z
    ·rw[z];exact hel
    ·rw[z];exact ph
   rw[aA (cf qi)];exact(hf b hb).1
 done:=by intro X hP hw hK hc i jh s σ H E I hf st hg;subst hP hw hK;obtain⟨⟨old,he⟩,ju,jl⟩:=st;obtain⟨xs,hq,hx⟩:=hg;obtain⟨its,rv,p,hz⟩:=I.list hq;obtain⟨f0,f1,f2,f3,f4,f5⟩:=hf it (by simp);have hl:=rv.length;exact wpAny_pyNext_enum_end (I.ok.hd hc) he ju p.isList (by simp;omega) fun h' eb=>⟨rfl,I.turned (t':=s.toks) (fun b o hb q=>eb b o hb q) f0 f1 f3 f4 f5⟩
 self:=fun A i s Q E st h=>let⟨⟨_,he⟩,_⟩:=st;wpAny_pyIter_enum he h
noncomputable def S3(K:W.Frag)(ta:TA):TI:=fun σ H R=>ta σ H fun vs H1=>∃a xs,vs=[.ref a]/\SqL K H1 a xs/\R (Ite K a) H1
theorem CM{X:Cx}{e:Expr}{ta:TA}{p pos ng:Pos}{mh:List Expr}{kk:Nat}(hg:Gl X "enumerate")(hm:X.mg "enumerate" =none)(ha:PA X [e] ta)(hs:starEach [e] X.env=[(false,eval e X.env)]:=by rfl):
  PI X (.Tuple mh kk ng) (.Call (.Name "enumerate" p) [e] [] pos) (S3 X.K ta):=by
 intro jh s σ H R I h;refine Call_ (kH I hg hm boot_enumerate (PyProof.Rows.callWith_type1 (thn (ha pos jh s σ H _ I h) fun us s1 ⟨vs,H1,I1,r1,q1⟩=>?_) hs rfl));obtain⟨a,xs,ex,hq,q⟩:=q1;subst ex;cases r1 with
 |cons r rr=>
  cases rr;cases r;obtain⟨its,rv,p',hz⟩:=I1.list hq;refine call_enumerate_list p'.isList fun h' he ju hsz hk=>wpAny_pyIter_enum he ?_
  have I2:Inv X jh σ H1 {s1 with heap:=h'}:=I1.kept (t':=s1.toks) hk;refine⟨s1.heap.objs.size+1,[s1.heap.objs.size+1,s1.heap.objs.size],_,_,H1,rfl,I2,DR a (s1.heap.objs.size+1) s1.heap.objs.size,⟨⟨.none,he⟩,ju,Nat.succ_ne_self _⟩,fun b hb=>?_,q⟩;have e':b=s1.heap.objs.size+1\/b=s1.heap.objs.size:=by simpa using hb
  have oo:s1.heap.objs.size<=b:=by
   rcases e' with z|z
   ·rw[z];exact Nat.le_add_right _ _
   ·rw[z];exact au _
  exact I1.BV oo (I1.hok.fresh oo)
theorem oQ:∀{vs:List Value}{ns:List Int},IntsAre vs ns->Vals (ns.map V.int) vs
 |_,_,.nil=>.nil
 |_,_,.cons n t h=>.cons ⟨t,rfl⟩ (oQ h)
abbrev KOf{K:W.Frag}{h:Heap}(_:K.In h):W.Frag:=K
noncomputable def inClass(s:Stmt)(j:Nat):Stmt:=match s with
 | .ClassDef _ _ _ body _ _ _ _ _ _ _=>body.getD j (.Pass ⟨0,0,0,0⟩)
 |_=>.Pass ⟨0,0,0,0⟩
noncomputable def hZ(s:Stmt):Arguments:=match s with
 | .FunctionDef _ a _ _ _ _ _ _ _ _=>a
 |_=>{posonlyargs:=[],args:=[],vararg:=none,kwonlyargs:=[],kw_defaults:=[],kwarg:=none,defaults:=[]}
noncomputable def f6(s:Stmt):List Stmt:=match s with
 | .FunctionDef _ _ b _ _ _ _ _ _ _=>b
 |_=>[]
noncomputable def aG(s:Stmt):Scope:=match s with
 | .FunctionDef _ _ _ _ _ _ sc _ _ _=>sc
 |_=>{kind:=.function,names:=[],isGenerator:=false,isCoroutine:=false}
abbrev CX0:CXT:=fun _ _ _ _ _ _=>False
abbrev E0:XK:=fun _ _ _=>False
theorem aV{X:Cx}:Passes CX0 X E0:=fun _ _ _ _ _ _ _ h=>h.elim
structure Fun(K:W.Frag)(x qual:Str)(st:Stmt)(f:Addr)(fd:FuncData):Prop where
 ex:∃(oc:Value)(od:Option Addr)(kV lg pm:Value)(an:Option Addr)(js ct:Value)(mi:Array (Option Value)),
  fd=W.fnOf x qual (hZ st) (f6 st) (aG st) .none kV lg pm an js ct/\K.lookup f=some ⟨oc,od,.func fd,mi⟩/\W.codeIn K js qual=true
 kp:W.keepIn K (.ref f)=true
section
variable {P:Program}{w:World}{K:W.Frag}{mg:Str->Option Value}{base:Heap}
theorem Fun.ok{x qual:Str}{st:Stmt}{f:Addr}{fd:FuncData}{N ps:List Str}{k:Nat}{sp:Sp}(F:Fun K x qual st f fd)(S:aJ N ps (aG st))(len:∀vs H Q E,sp vs H Q E->vs.length=ps.length)
  (kr:∀(js:Value)(A:Around)(outer:List Env)(s:Shared)(H:Hp)(vs:List V)(Q:VK)(E:XK),cO k (A.deeper (envOfC qual (aG st) s.heap.objs.size f js))->sp vs H Q E ->
   ∃t,PSs (uK CX0 P w K mg base N qual (aG st) f js A outer s H E).nox (f6 st) t/\t {nx:=fun _ H'=>Q .non H',rt:=Q} (start N vs) H):bJ P w K mg base CX0 (k+1) f fd ps sp:=by
 obtain⟨oc,od,kV,lg,pm,an,js,ct,mi,rfl,lk,nj⟩:=F.ex;refine S6 lk nj S len fun A outer s H vs Q E hr sh=>?_
 obtain⟨t,h,q⟩:=kr js A outer s H vs Q E hr sh;exact⟨t,h.nox,q⟩
theorem Fun.binds{x qual:Str}{st:Stmt}{f:Addr}{fd:FuncData}{ps:List Str}(F:Fun K x qual st f fd)
  (h:∀(kV lg pm:Value)(an:Option Addr)(js ct:Value)(us:List Value),us.length=ps.length->bindArgs (W.fnOf x qual (hZ st) (f6 st) (aG st) .none kV lg pm an js ct) ⟨us,[]⟩=pure (ps.zip us)):Binds K fd ps []:=by
 obtain⟨oc,od,kV,lg,pm,an,js,ct,mi,rfl,lk,nj⟩:=F.ex;exact .all (h kV lg pm an js ct)
theorem BR{x qual:Str}{st:Stmt}{f:Addr}{oc:Value}{od an:Option Addr}{mi:Array (Option Value)}{kV lg pm js ct:Value}(l:K.lookup f=some ⟨oc,od,.func (W.fnOf x qual (hZ st) (f6 st) (aG st) .none kV lg pm an js ct),mi⟩)
  (c:W.codeIn K js qual=true) (k:W.keepIn K (.ref f)=true):Fun K x qual st f (W.fnOf x qual (hZ st) (f6 st) (aG st) .none kV lg pm an js ct):=⟨⟨oc,od,kV,lg,pm,an,js,ct,mi,rfl,l,c⟩,k⟩
end
theorem bB{A:Around}{k:Nat}(hr:cO k A):A.units+1<cLine:=gx (Nat.add_le_add_left (by decide:1<=64) _) hr.units
section
variable {X:Cx}
theorem pv(i:Nat){x:Str}{pos:Pos}(hN:X.N[i]? =some x:=by rfl)(hv:Vis X.env.scope x:=by first|exact Or.inl rfl|exact Or.inr (Or.inl rfl)|exact Or.inr (Or.inr rfl))(hd:(x==("__debug__" : Str))=false:=by decide)
  (nj:(x==("__classdict__" : Str))=false:=by decide):PE X (.Name x pos) (GG i):=GX hN hv hd nj
end
theorem HZ{A B:Prop}(h:B):if false=true then A else B:=by rw[ag bg];exact h
theorem EZ{A B:Prop}(h:A):if true=true then A else B:=by rw[ah rfl];exact h
theorem cG{c A B:Prop}[Decidable c](h1:c->A)(h2:¬c->B):if c then A else B:=by
 by_cases h:c
 ·rw[ah h];exact h1 h
 ·rw[ag h];exact h2 h
def a9(H H':Hp):Prop:=∀b o,H b=some o->H' b=some o
theorem a9.refl(H:Hp):a9 H H:=fun _ _ h=>h
theorem a9.trans{H H1 H2:Hp}(a:a9 H H1)(b:a9 H1 H2):a9 H H2:=fun c o h=>b c o (a c o h)
theorem a9.free{H H':Hp}(e:a9 H H'){l:Addr}(h:H' l=Option.none):H l=Option.none:=by
 cases q:H l with
 |none=>rfl
 |some o=>rw[e l o q]at h;cases h
theorem a9.seq{K:W.Frag}{H H':Hp}{a:Addr}{xs:List V}(e:a9 H H')(h:SqL K H a xs):SqL K H' a xs:=by
 rcases h with(h|⟨o,h⟩)|h
 ·exact .inl (.inl (e _ _ h))
 ·exact .inl (.inr ⟨o,e _ _ h⟩)
 ·exact .inr h
theorem at_of{xs:List V}{z:Int}{j:Nat}{v:V}(e:z=(j:Int))(h:xs[j]? =some v):atI xs z=some v:=by rw[e];exact L4 h
theorem a9.made{H H1:Hp}{x dx C:Addr}(nx:H x=Option.none)(nd:H dx=Option.none)(k:∀b o,(upd (upd H dx (.own x)) x (.ins C dx [])) b=some o->b≠x->H1 b=some o):a9 H H1:=fun b o e=>
 k b o (by rw[aA (aI e nx),aA (aI e nd)];exact e) (aI e nx)
end L2
namespace RM
open Roof
abbrev Pl:=Int×Int
noncomputable def parts(m:Int):List Int->List (List Int)
 |[]=>[[]]
 |v::r=>if v=m then[]::parts m r else
  match parts m r with
  |[]=>[[v]]
  |p::ps=>(v::p)::ps
def kP(v:Int):Option Int:=if v<48\/57<v then none else some (v - 48)
def hY(n v:Int):Option Int:=(kP v).map fun d=>n*10+d
noncomputable def dC(row:List Int):Option Int:=
 if row.length=0\/2<row.length then none
 else if 1<row.length/\row.head?=some 48 then none
 else(row.foldlM hY 0).bind fun n=>if 64<n then none else some n
noncomputable def dE(row:List Int):Option Pl:=((parts 44 row).mapM dC).bind fun ns=>match ns with
 |[a,b]=>some (a,b)
 |_=>none
noncomputable def iT(row:List Int):Option (List Pl):=((parts 32 row).mapM dE).bind fun cs=>if cs.length<4 then none else some cs
noncomputable def eG(t:List Int):Option (List (List Pl)):=
 if(parts 10 t).getLast?≠some []\/(parts 10 t).dropLast=[]then none else(parts 10 t).dropLast.mapM iT
theorem yR(m:Int):∀t,parts m t≠[]
 |[]=>by simp[parts]
 |v::r=>by
  unfold parts;split
  ·simp
  ·split<;>simp
theorem parts_free{m:Int}:∀{a:List Int},m∉a->parts m a=[a]
 |[],_=>rfl
 |v::r,h=>by
  have h1:¬v=m:=fun e=>h (by simp[e])
  have h2:m∉r:=fun e=>h (by simp[e])
  unfold parts;rw[ag h1,parts_free h2]
theorem vG{m:Int}:∀{a b:List Int},m∉a->parts m (a++m::b)=a::parts m b
 |[],b,_=>by
  show parts m (m::b)=_
  rw[parts,ah rfl]
 |v::r,b,h=>by
  have h1:¬v=m:=fun e=>h (by simp[e])
  have h2:m∉r:=fun e=>h (by simp[e])
  show parts m (v::(r++m::b))=_
  rw[parts,ag h1,vG h2]
noncomputable def glue(m:Int):List (List Int)->List Int
 |[]=>[]
 |[p]=>p
 |p::q::ps=>p++m::glue m (q::ps)
theorem F4{m v:Int}{p:List Int}{ps:List (List Int)}:glue m ((v::p)::ps)=v::glue m (p::ps):=by cases ps<;>simp[glue]
theorem jJ(m:Int):∀t,glue m (parts m t)=t
 |[]=>rfl
 |v::r=>by
  have ih:=jJ m r;have hn:=yR m r;unfold parts;split
  ·rename_i e;cases q:parts m r with
   |nil=>exact absurd q hn
   |cons p ps=>
    rw[q]at ih;show glue m ([]::p::ps)=_
    simp only[glue,nil_append];rw[ih,e]
  ·cases q:parts m r with
   |nil=>exact absurd q hn
   |cons p ps=>
    rw[q]at ih;show glue m ((v::p)::ps)=_
    rw[F4,ih]
theorem fE{m:Int}:∀{ps:List (List Int)},ps≠[]->(∀p∈ps,m∉p)->parts m (glue m ps)=ps
 |[],h,_=>absurd rfl h
 |[p],_,h=>by
  show parts m p=[p]
  exact parts_free (h p (by simp))
 |p::q::ps,_,h=>by
  show parts m (p++m::glue m (q::ps))=_
  rw[vG (h p (by simp)),fE (by simp) fun x hx=>h x (by simp only[ao]at hx ⊢;exact .inr hx)]
noncomputable def pNum(n:Nat):List Int:=if n<10 then[48+(n:Int)]else[48+((n/10:Nat):Int),48+((n%10:Nat):Int)]
def cB(p:Point):List Int:=glue 44 [pNum p.1,pNum p.2]
def fX(w:Walk):List Int:=glue 32 (w.map cB)
def cV(ws:List Walk):List Int:=ws.flatMap fun w=>fX w++[10]
def iP(p:Point):Pl:=((p.1:Int),(p.2:Int))
def iW(w:Walk):List Pl:=w.map iP
def iWs(ws:List Walk):List (List Pl):=ws.map iW
def okP(p:Point):Prop:=p.1<=64/\p.2<=64
def okW(w:Walk):Prop:=4<=w.length/\∀p∈w,okP p
def B5(ws:List Walk):Prop:=ws≠[]/\∀w∈ws,okW w
theorem nE{n:Nat}(h:n<=64){x:Int}(hx:x∈pNum n):48<=x/\x<=57:=by
 unfold pNum at hx;split at hx
 ·simp at hx;omega
 ·simp at hx;omega
theorem kD{p:Point}(h:okP p){x:Int}(hx:x∈cB p):(48<=x/\x<=57)\/x=44:=by
 unfold cB glue glue at hx;simp only[ay,ao]at hx;rcases hx with hx|rfl|hx
 ·exact .inl (nE h.1 hx)
 ·exact .inr rfl
 ·exact .inl (nE h.2 hx)
theorem zR{m:Int}:∀{ps:List (List Int)}{x:Int},x∈glue m ps->x=m\/∃p∈ps,x∈p
 |[],x,h=>by simp[glue]at h
 |[p],x,h=>.inr ⟨p,by simp,h⟩
 |p::q::ps,x,h=>by
  simp only[glue,ay,ao]at h;rcases h with h|rfl|h
  ·exact .inr ⟨p,by simp,h⟩
  ·exact .inl rfl
  ·rcases zR h with h|⟨y,hy,hx⟩
   ·exact .inl h
   ·exact .inr ⟨y,by simp only[ao]at hy ⊢;exact .inr hy,hx⟩
theorem nB{w:Walk}(h:∀p∈w,okP p){x:Int}(hx:x∈fX w):(48<=x/\x<=57)\/x=44\/x=32:=by
 rcases zR hx with h1|⟨q,hq,hx⟩
 ·exact .inr (.inr h1)
 ·obtain⟨p,hp,rfl⟩:=aw.mp hq;rcases kD (h p hp) hx with h1|h1
  ·exact .inl h1
  ·exact .inr (.inl h1)
theorem nH{n:Nat}(h:n<=64):dC (pNum n)=some (n:Int):=by
 have key:∀k:Fin 65,dC (pNum k.val)=some (k.val:Int):=by decide+kernel
 exact key ⟨n,by omega⟩
theorem nG{row:List Int}{z:Int}(h:dC row=some z):∃n:Nat,n<=64/\z=n/\row=pNum n:=by
 unfold dC at h;split at h
 ·cases h
 ·rename_i h1;split at h
  ·cases h
  ·rename_i h2;match row,h1,h2,h with
   |[],h1,_,_=>simp at h1
   |[a],h1,h2,h=>
    simp only[List.foldlM,hY,kP]at h;split at h
    ·simp at h
    ·rename_i ha;simp at h;obtain⟨h3,h4⟩:=h;refine⟨(a - 48).toNat,by omega,by omega,?_⟩;unfold pNum;rw[ah (by omega)];congr 1;omega
   |[a,b],h1,h2,h=>
    simp only[List.foldlM,hY,kP]at h;have h48:¬a=48:=by intro e;exact h2 ⟨by simp,by simp[e]⟩
    split at h
    ·simp at h
    ·rename_i ha;split at h
     ·simp at h
     ·rename_i hb;simp at h;obtain⟨h3,h4⟩:=h;refine⟨((a - 48)*10+(b - 48)).toNat,by omega,by omega,?_⟩;unfold pNum;rw[ag (by omega)];congr 1
      ·omega
      ·congr 1;omega
   |_::_::_::_,h1,_,_=>simp at h1
inductive lZ {α β:Type} (R:α->β->Prop):List α->List β->Prop where
 |nil:lZ R [] []
 |cons {a:α}{b:β}{l:List α}{r:List β}:R a b->lZ R l r->lZ R (a::l) (b::r)
theorem lZ.inv2{α β:Type}{R:α->β->Prop}{l:List α}{a b:β}(h:lZ R l [a,b]):∃x y,l=[x,y]/\R x a/\R y b:=by
 cases h with
 |cons h1 h=>
  cases h with
  |cons h2 h=>cases h;exact⟨_,_,rfl,h1,h2⟩
theorem mapM_some{α β:Type}{f:α->Option β}:∀{l:List α}{r:List β},l.mapM f=some r->lZ (fun a b=>f a=some b) l r
 |[],r,h=>by simp at h;subst h;exact .nil
 |a::l,r,h=>by
  rw[List.mapM_cons]at h;cases e1:f a with
  |none=>rw[e1]at h;simp at h
  |some b=>
   rw[e1]at h;cases e2:l.mapM f with
   |none=>rw[e2]at h;simp at h
   |some bs=>rw[e2]at h;simp at h;subst h;exact .cons e1 (mapM_some e2)
theorem lM{α β:Type}{f:α->Option β}:∀{l:List α}{r:List β},lZ (fun a b=>f a=some b) l r->l.mapM f=some r
 |_,_,.nil=>rfl
 |_,_,.cons h t=>by rw[List.mapM_cons,h,lM t];rfl
theorem xQ{row:List Int}{z:Pl}(h:dE row=some z):∃p:Point,okP p/\z=iP p/\row=cB p:=by
 unfold dE at h;cases e:(parts 44 row).mapM dC with
 |none=>rw[e]at h;simp at h
 |some ns=>
  rw[e]at h;simp only[Option.bind_some]at h;have f:=mapM_some e;have g:=jJ 44 row;match ns,f,h with
  |[],_,h=>simp at h
  |[_],_,h=>simp at h
  |_::_::_::_,_,h=>simp at h
  |[a,b],f,h=>simp at h;subst h;obtain⟨x,y,ex,f1,f2⟩:=f.inv2;obtain⟨n1,l1,r1,e1⟩:=nG f1;obtain⟨n2,l2,r2,e2⟩:=nG f2;refine⟨(n1,n2),⟨l1,l2⟩,by rw[r1,r2];rfl,?_⟩;rw[<- g,ex,e1,e2];rfl
theorem g7{p:Point}(h:okP p):dE (cB p)=some (iP p):=by
 unfold dE cB;rw[fE (by simp) fun q hq=>?_]
 ·rw[lM (r:=[(p.1:Int),(p.2:Int)]) (.cons (nH h.1) (.cons (nH h.2) .nil))];rfl
 ·simp at hq;rcases hq with rfl|rfl
  ·intro e;have:=nE h.1 e;omega
  ·intro e;have:=nE h.2 e;omega
theorem AH{row:List Int}{z:List Pl}(h:iT row=some z):∃w:Walk,okW w/\z=iW w/\row=fX w:=by
 unfold iT at h;cases e:(parts 32 row).mapM dE with
 |none=>rw[e]at h;simp at h
 |some cs=>
  rw[e]at h;simp only[Option.bind_some]at h;split at h
  ·cases h
  ·rename_i hl;have h:cs=z:=by simpa using h
   subst h;have f:=mapM_some e;have g:=jJ 32 row;have key:∀{l:List (List Int)}{r:List Pl},lZ (fun a b=>dE a=some b) l r->∃w:Walk,(∀p∈w,okP p)/\r=iW w/\l=w.map cB:=by
    intro l r f;induction f with
    |nil=>exact⟨[],by simp,rfl,rfl⟩
    |cons h1 _ ih=>
     obtain⟨w,a1,a2,a3⟩:=ih;obtain⟨p,b1,b2,b3⟩:=xQ h1;refine⟨p::w,?_,?_,?_⟩
     ·intro q hq;rcases ao.mp hq with rfl|hq
      ·exact b1
      ·exact a1 q hq
     ·rw[a2,b2];rfl
     ·rw[a3,b3];rfl
   obtain⟨w,a1,a2,a3⟩:=key f;refine⟨w,⟨?_,a1⟩,a2,?_⟩
   ·rw[a2,iW,ai]at hl;omega
   ·rw[<- g,a3];rfl
theorem AI{w:Walk}(h:okW w):iT (fX w)=some (iW w):=by
 unfold iT fX;have jl:w.map cB≠[]:=by intro e;have h1:=h.1;rw[List.map_eq_nil_iff.mp e]at h1;simp at h1
 rw[fE jl fun q hq=>?_]
 ·have f:lZ (fun a b=>dE a=some b) (w.map cB) (iW w):=by
   have h2:=h.2;clear h jl;induction w with
   |nil=>exact .nil
   |cons p w ih=>exact .cons (g7 (h2 p (by simp))) (ih fun q hq=>h2 q (by simp[hq]))
  rw[lM f];have:¬(iW w).length<4:=by have:=h.1;rw[iW,ai];omega
  simp[this]
 ·obtain⟨p,hp,rfl⟩:=aw.mp hq;intro e;rcases kD (h.2 p hp) e with h1|h1
  ·omega
  ·omega
theorem lQ{m:Int}:∀{ps:List (List Int)},glue m (ps++[[]])=ps.flatMap fun p=>p++[m]
 |[]=>rfl
 |[p]=>by simp[glue]
 |p::q::ps=>by
  have ih:=lQ (m:=m) (ps:=q::ps);show p++m::glue m (q::ps++[[]])=_
  rw[ih];simp
theorem qG{t:List Int}{z:List (List Pl)}(h:eG t=some z):∃ws:List Walk,B5 ws/\z=iWs ws/\t=cV ws:=by
 unfold eG at h;split at h
 ·cases h
 ·rename_i hc;have hc1:(parts 10 t).getLast?=some []:=by apply Classical.byContradiction;intro e;exact hc (.inl e)
  have su:(parts 10 t).dropLast≠[]:=fun e=>hc (.inr e)
  have f:=mapM_some h;have key:∀{l:List (List Int)}{r:List (List Pl)},lZ (fun a b=>iT a=some b) l r->∃w:List Walk,(∀p∈w,okW p)/\r=iWs w/\l=w.map fX:=by
   intro l r f;induction f with
   |nil=>exact⟨[],by simp,rfl,rfl⟩
   |cons h1 _ ih=>
    obtain⟨w,a1,a2,a3⟩:=ih;obtain⟨p,b1,b2,b3⟩:=AH h1;refine⟨p::w,?_,?_,?_⟩
    ·intro q hq;rcases ao.mp hq with rfl|hq
     ·exact b1
     ·exact a1 q hq
    ·rw[a2,b2];rfl
    ·rw[a3,b3];rfl
  obtain⟨ws,a1,a2,a3⟩:=key f;refine⟨ws,⟨?_,a1⟩,a2,?_⟩
  ·intro e;rw[e]at a3;exact su a3
  ·have e:parts 10 t=(parts 10 t).dropLast++[[]]:=by obtain⟨ys,hys⟩:=List.getLast?_eq_some_iff.mp hc1;rw[hys];simp
   rw[<- jJ 10 t,e,a3,lQ,cV,flatMap_map]
theorem u5{ws:List Walk}(h:B5 ws):eG (cV ws)=some (iWs ws):=by
 have e:parts 10 (cV ws)=ws.map fX++[[]]:=by
  have:cV ws=glue 10 (ws.map fX++[[]]):=by rw[lQ,cV,flatMap_map]
  rw[this];refine fE (by simp) fun q hq=>?_
  rcases ay.mp hq with hq|hq
  ·obtain⟨w,hw,rfl⟩:=aw.mp hq;intro e;rcases nB (h.2 w hw).2 e with h1|h1|h1
   ·omega
   ·omega
   ·omega
  ·simp at hq;subst hq;simp
 unfold eG;rw[e];have h1:¬((ws.map fX++[[]]).getLast?≠some []\/(ws.map fX++[[]]).dropLast=[]):=by simp;exact h.1
 rw[ag h1];have e2:(ws.map fX++[[]]).dropLast=ws.map fX:=by simp
 rw[e2];refine lM ?_;have h2:=h.2;clear h e h1 e2;induction ws with
 |nil=>exact .nil
 |cons w ws ih=>exact .cons (AI (h2 w (by simp))) (ih fun q hq=>h2 q (by simp[hq]))
noncomputable def FW(n:Nat):Bytes:=if n<10 then[UInt8.ofNat (48+n)]else[UInt8.ofNat (48+n/10),UInt8.ofNat (48+n%10)]
theorem iZ{n:Nat}(h:n<=64):number n=FW n:=by
 have key:∀k:Fin 65,number k.val=FW k.val:=by decide+kernel
 exact key ⟨n,by omega⟩
theorem qQ{v d:Nat}(h1:v≠0)(h2:10*v+d<=64)(h3:d<=9):number (10*v+d)=number v++[UInt8.ofNat (48+d)]:=by
 rw[iZ h2,iZ (by omega)];unfold FW;rw[ag (by omega),ah (by omega)];have e1:(10*v+d)/10=v:=by omega
 have e2:(10*v+d)%10=d:=by omega
 rw[e1,e2];rfl
theorem sU{d:Nat}(h:d<=9):number d=[UInt8.ofNat (48+d)]:=by rw[iZ (by omega),FW,ah (by omega)]
theorem C4{c:UInt8}{d:Nat}(h:digit c=some d):d<=9/\c=UInt8.ofNat (48+d):=by
 unfold digit at h;split at h
 ·rename_i hc;have h:c.toNat - 48=d:=by simpa using h
  refine⟨by omega,?_⟩;have e:48+d=c.toNat:=by omega
  rw[e];simp
 ·cases h
theorem kO{d:Nat}(h:d<=9):digit (UInt8.ofNat (48+d))=some d:=by
 have key:∀k:Fin 10,digit (UInt8.ofNat (48+k.val))=some k.val:=by decide+kernel
 exact key ⟨d,by omega⟩
def gG(w:Walk):Bytes:=w.flatMap fun p=>cornerText p++[32]
noncomputable def e9(r:Reading):Bytes:=if r.part=0 then[]else if r.part=1 then number r.val else if r.part=2 then number r.east++[44]else number r.east++(44::number r.val)
noncomputable def eE(r:Reading):Bytes:=walksText r.done.reverse++(gG r.now.reverse++e9 r)
structure OkR(r:Reading):Prop where
 done:∀w∈r.done,okW w
 now:∀p∈r.now,okP p
 val:r.val<=64
 east:r.east<=64
 part:r.part<=3
theorem qH:∀{w:Walk}{p:Point},walkText (w++[p])=gG w++(cornerText p++[10])
 |[],p=>by simp[walkText,gG]
 |[q],p=>by simp[walkText,gG]
 |q::q2::w,p=>by
  have ih:=qH (w:=q2::w) (p:=p);show cornerText q++(32::walkText (q2::w++[p]))=_
  rw[ih];simp[gG]
theorem HQ{r s:Reading}{c:UInt8}(h:r.more c=some s)(o:OkR r):OkR s/\eE s=eE r++[c]:=by
 obtain⟨o1,o2,o3,o4,o5⟩:=o;unfold Reading.more at h;cases e:digit c with
 |some d=>
  rw[e]at h;obtain⟨hd,hc⟩:=C4 e;dsimp only at h;by_cases hp:r.part=0\/r.part=2
  ·rw[ah hp]at h;have h:=Option.some.inj h;subst h;refine⟨⟨o1,o2,by dsimp only;omega,o4,by dsimp only;omega⟩,?_⟩;rcases hp with hp|hp
   ·simp[eE,e9,hp,sU hd,hc]
   ·simp[eE,e9,hp,sU hd,hc]
  ·rw[ag hp]at h;by_cases hv:r.val=0\/SIDE<10*r.val+d
   ·rw[ah hv]at h;cases h
   ·rw[ag hv]at h;have h:=Option.some.inj h;subst h;have hv1:r.val≠0:=fun q=>hv (.inl q)
    have hv2:10*r.val+d<=64:=by
     have:¬SIDE<10*r.val+d:=fun q=>hv (.inr q)
     unfold SIDE at this;omega
    refine⟨⟨o1,o2,by dsimp only;omega,o4,o5⟩,?_⟩;have hp2:r.part=1\/r.part=3:=by omega
    rcases hp2 with hp2|hp2
    ·simp[eE,e9,hp2,qQ hv1 hv2 hd,hc]
    ·simp[eE,e9,hp2,qQ hv1 hv2 hd,hc]
 |none=>
  rw[e]at h;dsimp only at h;by_cases h1:r.part=1/\c=44
  ·rw[ah h1]at h;have h:=Option.some.inj h;subst h;refine⟨⟨o1,o2,o3,o3,by dsimp only;omega⟩,?_⟩;simp[eE,e9,h1.1,h1.2]
  ·rw[ag h1]at h;by_cases h2:r.part=3/\c=32
   ·rw[ah h2]at h;have h:=Option.some.inj h;subst h;refine⟨⟨o1,?_,o3,o4,by dsimp only;omega⟩,?_⟩
    ·intro p hp;rcases ao.mp hp with rfl|hp
     ·exact⟨o4,o3⟩
     ·exact o2 p hp
    ·simp[eE,e9,h2.1,h2.2,gG,cornerText]
   ·rw[ag h2]at h;by_cases h3:r.part=3/\c=10/\3<=r.now.length
    ·rw[ah h3]at h;have h:=Option.some.inj h;subst h;refine⟨⟨?_,by simp,o3,o4,by dsimp only;omega⟩,?_⟩
     ·intro w hw;rcases ao.mp hw with rfl|hw
      ·refine⟨by simp;omega,?_⟩;intro p hp;rcases ao.mp (List.mem_reverse.mp hp)with rfl|hp
       ·exact⟨o4,o3⟩
       ·exact o2 p hp
      ·exact o1 w hw
     ·simp only[eE,e9,h3.1,h3.2.1,walksText,List.reverse_cons,gz,fx,List.flatMap_nil,dj,qH];simp[gG,cornerText]
    ·rw[ag h3]at h;cases h
theorem qM:∀{b:Bytes}{p:Nat}{r:Reading}{ws:List Walk},OkR r->readFrom p r b=.ok ws->B5 ws/\eE r++b=walksText ws
 |[],p,r,ws,o,h=>by
  unfold readFrom at h;split at h
  ·rename_i hc;obtain⟨h1,h2,h3⟩:=hc;have h:r.done.reverse=ws:=by simpa using h
   subst h;refine⟨⟨by simpa using h3,fun w hw=>o.done w (by simpa using hw)⟩,?_⟩;simp[eE,e9,h1,h2,gG]
  ·cases h
 |c::t,p,r,ws,o,h=>by
  unfold readFrom at h;cases e:r.more c with
  |none=>rw[e]at h;cases h
  |some s=>rw[e]at h;obtain⟨os,es⟩:=HQ e o;have h:readFrom (p+1) s t=.ok ws:=h;obtain⟨h1,h2⟩:=qM os h;refine⟨h1,?_⟩;rw[<- h2,es];simp
theorem mX{b:Bytes}{ws:List Walk}(h:readWalks b=.ok ws):B5 ws/\b=walksText ws:=by have o:OkR ⟨[],[],0,0,0⟩:=⟨by simp,by simp,by simp,by simp,by simp⟩;obtain⟨h1,h2⟩:=qM o h;refine⟨h1,?_⟩;rw[<- h2];simp[eE,e9,gG,walksText]
theorem gL{r s:Reading}{c:UInt8}{t:Bytes}{p:Nat}(h:r.more c=some s):readFrom p r (c::t)=readFrom (p+1) s t:=by
 show(match r.more c with|some s=>readFrom (p+1) s t|none=>.error p)=_
 rw[h]
theorem qK{n:Nat}(hn:n<=64){r:Reading}(hp:r.part=0\/r.part=2)(p:Nat)(t:Bytes):∃p',readFrom p r (number n++t)=readFrom p' {r with part:=r.part+1,val:=n} t:=by
 rw[iZ hn];unfold FW;by_cases h:n<10
 ·rw[ah h];refine⟨p+1,gL ?_⟩;unfold Reading.more;rw[kO (by omega)];dsimp only;rw[ah hp]
 ·rw[ag h];refine⟨p+1+1,?_⟩;refine(gL (s:={r with part:=r.part+1,val:=n/10}) ?_).trans (gL ?_)
  ·unfold Reading.more;rw[kO (by omega)];dsimp only;rw[ah hp]
  ·unfold Reading.more;rw[kO (by omega)];dsimp only;rw[ag (by omega),ag]
   ·have:10*(n/10)+n%10=n:=by omega
    rw[this]
   ·unfold SIDE;omega
theorem qL{q:Point}(hq:okP q){r:Reading}(hp:r.part=0)(p:Nat)(t:Bytes):∃p',readFrom p r (cornerText q++t)=readFrom p' {r with part:=3,val:=q.2,east:=q.1} t:=by
 unfold cornerText;rw[fk];obtain⟨p1,e1⟩:=qK hq.1 (r:=r) (.inl hp) p (44::number q.2++t);rw[e1];have e2:readFrom p1 {r with part:=r.part+1,val:=q.1} (44::number q.2++t)=readFrom (p1+1) {r with part:=2,val:=q.1,east:=q.1} (number q.2++t):=by refine gL ?_;unfold Reading.more;rw[show digit 44=none from by decide];dsimp only;rw[hp];simp
 rw[e2];obtain⟨p3,e3⟩:=qK hq.2 (r:={r with part:=2,val:=q.1,east:=q.1}) (.inr rfl) (p1+1) t;exact⟨p3,e3⟩
theorem uY:∀{w:Walk}{r:Reading}(p:Nat)(t:Bytes),(∀q∈w,okP q)->w≠[]->r.part=0->4<=r.now.length+w.length ->
  ∃p' v e,readFrom p r (walkText w++t)=readFrom p' ⟨(r.now.reverse++w)::r.done,[],0,v,e⟩ t
 |[],r,p,t,_,h,_,_=>absurd rfl h
 |[q],r,p,t,hq,_,hp,hl=>by
  have e0:walkText [q]++t=cornerText q++(10::t):=by simp[walkText]
  rw[e0];obtain⟨p1,e1⟩:=qL (hq q (by simp)) hp p (10::t);rw[e1];refine⟨p1+1,q.2,q.1,?_⟩;rw[gL (s:=⟨(q::r.now).reverse::r.done,[],0,q.2,q.1⟩)]
  ·simp
  ·unfold Reading.more;rw[show digit 10=none from by decide];dsimp only;rw[ag (by simp),ag (by simp),ah ⟨rfl,rfl,by simp at hl;omega⟩]
 |q::q2::w,r,p,t,hq,_,hp,hl=>by
  have e0:walkText (q::q2::w)++t=cornerText q++(32::(walkText (q2::w)++t)):=by simp[walkText]
  rw[e0];obtain⟨p1,e1⟩:=qL (hq q (by simp)) hp p (32::(walkText (q2::w)++t));rw[e1];have e2:readFrom p1 {r with part:=3,val:=q.2,east:=q.1} (32::(walkText (q2::w)++t))=readFrom (p1+1) ⟨r.done,q::r.now,0,q.2,q.1⟩ (walkText (q2::w)++t):=by refine gL ?_;unfold Reading.more;rw[show digit 32=none from by decide];dsimp only;rw[ag (by simp),ah ⟨rfl,rfl⟩]
  rw[e2];obtain⟨p3,v,e,e3⟩:=uY (w:=q2::w) (r:=⟨r.done,q::r.now,0,q.2,q.1⟩) (p1+1) t (fun x hx=>hq x (ar _ hx)) (by simp) rfl (by simp at hl ⊢;omega);refine⟨p3,v,e,?_⟩;rw[e3];simp
theorem sJ:∀{ws:List Walk}{r:Reading}(p:Nat),(∀w∈ws,okW w)->r.part=0->r.now=[]->r.done.reverse++ws≠[]->readFrom p r (walksText ws)=.ok (r.done.reverse++ws)
 |[],r,p,_,hp,hn,jl=>by
  show readFrom p r []=_
  unfold readFrom;rw[ah ⟨hp,hn,by simpa using jl⟩];simp
 |w::ws,r,p,hw,hp,hn,_=>by
  have e0:walksText (w::ws)=walkText w++walksText ws:=by simp[walksText]
  rw[e0];have h1:=hw w (by simp);obtain⟨p1,v,e,e1⟩:=uY (w:=w) (r:=r) p (walksText ws) h1.2 (by intro q;have:=h1.1;rw[q]at this;simp at this) hp (by have:=h1.1;omega);rw[e1,sJ p1 (fun x hx=>hw x (ar _ hx)) rfl rfl (by simp)];simp[hn]
theorem sL{ws:List Walk}(h:B5 ws):readWalks (walksText ws)=.ok ws:=by unfold readWalks;rw[sJ (r:=⟨[],[],0,0,0⟩) 0 h.2 rfl rfl (by simpa using h.1)];simp
def inB(t:List Int):Prop:=∀x∈t,0<=x/\x<=255
theorem fQ(a b:List Int):RoofBNeutral.text (a++b)=RoofBNeutral.text a++RoofBNeutral.text b:=by simp[RoofBNeutral.text,RoofBNeutral.nats]
theorem dQ(a:Int)(b:List Int):RoofBNeutral.text (a::b)=UInt8.ofNat a.toNat::RoofBNeutral.text b:=by simp[RoofBNeutral.text,RoofBNeutral.nats]
theorem rV:∀{a b:List Int},inB a->inB b->RoofBNeutral.text a=RoofBNeutral.text b->a=b
 |[],[],_,_,_=>rfl
 |[],y::b,_,_,h=>by rw[dQ]at h;simp[RoofBNeutral.text,RoofBNeutral.nats]at h
 |x::a,[],_,_,h=>by rw[dQ]at h;simp[RoofBNeutral.text,RoofBNeutral.nats]at h
 |x::a,y::b,ha,hb,h=>by
  rw[dQ,dQ]at h;injection h with h1 h2
  have hx:=ha x (by simp);have hy:=hb y (by simp);have e:x.toNat=y.toNat:=by have:=congrArg UInt8.toNat h1;rw[UInt8.toNat_ofNat_of_lt' (by show x.toNat<256;omega),UInt8.toNat_ofNat_of_lt' (by show y.toNat<256;omega)]at this;exact this
  have e2:x=y:=by omega
  rw[e2,rV (fun z hz=>ha z (by simp[hz])) (fun z hz=>hb z (by simp[hz])) h2]
theorem uU{n:Nat}(h:n<=64):RoofBNeutral.text (pNum n)=number n:=by
 rw[iZ h];unfold pNum FW;split
 ·rw[dQ];have:(48+(n:Int)).toNat=48+n:=by omega
  rw[this];rfl
 ·rw[dQ,dQ];have e1:(48+((n/10:Nat):Int)).toNat=48+n/10:=by omega
  have e2:(48+((n%10:Nat):Int)).toNat=48+n%10:=by omega
  rw[e1,e2];rfl
theorem mU{p:Point}(h:okP p):RoofBNeutral.text (cB p)=cornerText p:=by unfold cB glue glue cornerText;rw[fQ,dQ,uU h.1,uU h.2];rfl
theorem oR:∀{w:Walk},(∀p∈w,okP p)->RoofBNeutral.text (fX w++[10])=walkText w
 |[],_=>rfl
 |[p],h=>by
  show RoofBNeutral.text (cB p++[10])=_
  rw[fQ,mU (h p (by simp))];rfl
 |p::q::w,h=>by
  have ih:=oR (w:=q::w) fun x hx=>h x (ar _ hx)
  show RoofBNeutral.text ((cB p++32::fX (q::w))++[10])=cornerText p++(32::walkText (q::w))
  rw[fk,fQ,mU (h p (by simp)),cons_append,dQ,ih];rfl
theorem k8:∀{ws:List Walk},(∀w∈ws,okW w)->RoofBNeutral.text (cV ws)=walksText ws
 |[],_=>rfl
 |w::ws,h=>by
  have e:cV (w::ws)=(fX w++[10])++cV ws:=by simp[cV]
  rw[e,fQ,oR (h w (by simp)).2,k8 fun x hx=>h x (ar _ hx)];simp[walksText]
theorem B3{ws:List Walk}(h:∀w∈ws,okW w):inB (cV ws):=by
 intro x hx;obtain⟨w,hw,hx⟩:=da.mp hx;rcases ay.mp hx with hx|hx
 ·rcases nB (h w hw).2 hx with h1|h1|h1<;>omega
 ·simp at hx;omega
theorem reads{t:List Int}(ht:inB t){ws:List Walk}(h:readWalks (RoofBNeutral.text t)=.ok ws):eG t=some (iWs ws)/\B5 ws:=by obtain⟨o,e⟩:=mX h;rw[<- k8 o.2]at e;have:=rV ht (B3 o.2) e;rw[this];exact⟨u5 o,o⟩
theorem E4{t:List Int}{p:Nat}(h:readWalks (RoofBNeutral.text t)=.error p):eG t=none:=by
 cases e:eG t with
 |none=>rfl
 |some z=>obtain⟨ws,o,_,e2⟩:=qG e;rw[e2,k8 o.2,sL o]at h;cases h
noncomputable def inI(l:Cells)(x y:Int):Bool:=decide (0<=x)&& (decide (0<=y)&& l.contains (x.toNat,y.toNat))
theorem cC(l:Cells)(x y:Nat):inI l x y=l.contains (x,y):=by simp[inI]
theorem zK(l:Cells){x y:Int}(h:x<0):inI l x y=false:=by
 have:decide (0<=x)=false:=by simp;omega
 simp[inI,this]
theorem zJ(l:Cells){x y:Int}(h:y<0):inI l x y=false:=by
 have:decide (0<=y)=false:=by simp;omega
 simp[inI,this]
theorem bO{l:Cells}{x y:Int}(h:inI l x y=true):0<=x/\0<=y/\(x.toNat,y.toNat)∈l:=by simp[inI]at h;exact h
def ne(l:Cells)(X Y:Int):Bool:=inI l X Y
def nw(l:Cells)(X Y:Int):Bool:=inI l (X - 1) Y
def sw(l:Cells)(X Y:Int):Bool:=inI l (X - 1) (Y - 1)
def se(l:Cells)(X Y:Int):Bool:=inI l X (Y - 1)
theorem I0{l:Cells}{a b:Nat}:isIn l (if 0<a then some (a - 1,b)else none)=inI l ((a:Int) - 1) b:=by
 by_cases h:0<a
 ·have e:(a:Int) - 1=((a - 1:Nat):Int):=by omega
  rw[ah h,e,cC];rfl
 ·rw[ag h,zK l (by omega)];rfl
theorem IA{l:Cells}{a b:Nat}:isIn l (if 0<b then some (a,b - 1)else none)=inI l a ((b:Int) - 1):=by
 by_cases h:0<b
 ·have e:(b:Int) - 1=((b - 1:Nat):Int):=by omega
  rw[ah h,e,cC];rfl
 ·rw[ag h,zJ l (by omega)];rfl
theorem CZ{l:Cells}{a b:Nat}:isIn l (if 0<a/\0<b then some (a - 1,b - 1)else none)=inI l ((a:Int) - 1) ((b:Int) - 1):=by
 by_cases h:0<a/\0<b
 ·have e1:(a:Int) - 1=((a - 1:Nat):Int):=by omega
  have e2:(b:Int) - 1=((b - 1:Nat):Int):=by omega
  rw[ah h,e1,e2,cC];rfl
 ·rw[ag h];by_cases ha:0<a
  ·rw[zJ l (by omega)];rfl
  ·rw[zK l (by omega)];rfl
noncomputable def aX(l:Cells)(X Y:Int)(d:Nat):Bool:=
 if d=0 then ne l X Y&& !se l X Y else if d=1 then nw l X Y&& !ne l X Y else if d=2 then sw l X Y&& !nw l X Y else se l X Y&& !sw l X Y
theorem eO(l:Cells)(p:Point)(d:Nat):wallFoot l p d=aX l p.1 p.2 d:=by
 unfold wallFoot leftOf rightOf aX;by_cases h0:d=0
 ·subst h0;simp only[ah];rw[IA];show(isIn l (some p)&& _)=_
  have:isIn l (some p)=ne l p.1 p.2:=by rw[ne,cC];rfl
  rw[this];rfl
 ·by_cases h1:d=1
  ·subst h1;simp only[ah,ag h0];rw[I0];have:isIn l (some p)=ne l p.1 p.2:=by rw[ne,cC];rfl
   rw[this];rfl
  ·by_cases h2:d=2
   ·subst h2;simp only[ah,ag h0,ag h1];rw[I0,CZ];rfl
   ·simp only[ag h0,ag h1,ag h2];rw[IA,CZ];rfl
theorem gK{l:Cells}(h:pinched l=false)(X Y:Int):¬(sw l X Y=true/\ne l X Y=true/\se l X Y=false/\nw l X Y=false)/\¬(nw l X Y=true/\se l X Y=true/\ne l X Y=false/\sw l X Y=false):=by
 have key:∀c∈l,¬((l.contains (c.1+1,c.2+1)&& !(l.contains (c.1+1,c.2)||l.contains (c.1,c.2+1)))||(decide (0<c.1)&& (l.contains (c.1 - 1,c.2+1)&& !(l.contains (c.1 - 1,c.2)||l.contains (c.1,c.2+1)))))=true:=by intro c hc q;have:pinched l=true:=dz.mpr ⟨c,hc,q⟩;rw[h]at this;cases this
 refine⟨fun⟨h1,h2,h3,h4⟩=>?_,fun⟨h1,h2,h3,h4⟩=>?_⟩
 ·obtain⟨x0,y0,m⟩:=bO h1;have e1:X=((X - 1).toNat+1:Nat):=by omega
  have e2:Y=((Y - 1).toNat+1:Nat):=by omega
  refine key _ m ?_;have a1:l.contains ((X - 1).toNat+1,(Y - 1).toNat+1)=true:=by rw[<- cC,<- e1,<- e2];exact h2
  have a2:l.contains ((X - 1).toNat+1,(Y - 1).toNat)=false:=by rw[<- cC,<- e1,show(((Y - 1).toNat:Nat):Int)=Y - 1 by omega];exact h3
  have a3:l.contains ((X - 1).toNat,(Y - 1).toNat+1)=false:=by rw[<- cC,<- e2,show(((X - 1).toNat:Nat):Int)=X - 1 by omega];exact h4
  simp only[a1,a2,a3];rfl
 ·obtain⟨x0,y0,m⟩:=bO h2;obtain⟨x1,y1,_⟩:=bO h1;have e1:X=(X.toNat:Int):=by omega
  have e2:Y=((Y - 1).toNat+1:Nat):=by omega
  refine key _ m ?_;have a1:l.contains (X.toNat - 1,(Y - 1).toNat+1)=true:=by rw[<- cC,<- e2,show((X.toNat - 1:Nat):Int)=X - 1 by omega];exact h1
  have a2:l.contains (X.toNat - 1,(Y - 1).toNat)=false:=by rw[<- cC,show((X.toNat - 1:Nat):Int)=X - 1 by omega,show(((Y - 1).toNat:Nat):Int)=Y - 1 by omega];exact h4
  have a3:l.contains (X.toNat,(Y - 1).toNat+1)=false:=by rw[<- cC,<- e2,<- e1];exact h3
  have a4:decide (0<X.toNat)=true:=by simp;omega
  simp only[a1,a2,a3,a4];simp
noncomputable def stI(X Y:Int)(d:Nat):Int×Int:=if d=0 then(X+1,Y)else if d=1 then(X,Y+1)else if d=2 then(X - 1,Y)else(X,Y - 1)
theorem DM{l:Cells}(h:pinched l=false){X Y:Int}{d e:Nat}(hd:d<4)(he:e<4)(h1:aX l X Y d=true)(h2:aX l X Y e=true):d=e:=by
 obtain⟨u1,u2⟩:=gK h X Y;have cd:d=0\/d=1\/d=2\/d=3:=by omega
 have ce:e=0\/e=1\/e=2\/e=3:=by omega
 generalize a1:ne l X Y=A at*;generalize a2:nw l X Y=B at*;generalize a3:sw l X Y=C at*;generalize a4:se l X Y=D at*;rcases cd with rfl|rfl|rfl|rfl<;>rcases ce with rfl|rfl|rfl|rfl<;>simp[aX,a1,a2,a3,a4]at h1 h2 u1 u2 ⊢ <;>simp_all
theorem G4{l:Cells}{X Y:Int}{d:Nat}(hd:d<4)(h1:aX l X Y d=true):∃e,e<4/\aX l (stI X Y d).1 (stI X Y d).2 e=true:=by
 have cd:d=0\/d=1\/d=2\/d=3:=by omega
 rcases cd with rfl|rfl|rfl|rfl
 ·simp[aX]at h1;have b1:nw l (X+1) Y=true:=by rw[nw,show X+1 - 1=X by omega];exact h1.1
  have b2:sw l (X+1) Y=false:=by rw[sw,show X+1 - 1=X by omega];exact h1.2
  show∃e,e<4/\aX l (X+1) Y e=true
  cases c1:se l (X+1) Y with
  |true=>exact⟨3,by omega,by simp[aX,c1,b2]⟩
  |false=>
   cases c2:ne l (X+1) Y with
   |true=>exact⟨0,by omega,by simp[aX,c1,c2]⟩
   |false=>exact⟨1,by omega,by simp[aX,c2,b1]⟩
 ·simp[aX]at h1;have b1:sw l X (Y+1)=true:=by rw[sw,show Y+1 - 1=Y by omega];exact h1.1
  have b2:se l X (Y+1)=false:=by rw[se,show Y+1 - 1=Y by omega];exact h1.2
  show∃e,e<4/\aX l X (Y+1) e=true
  cases c1:ne l X (Y+1)with
  |true=>exact⟨0,by omega,by simp[aX,c1,b2]⟩
  |false=>
   cases c2:nw l X (Y+1)with
   |true=>exact⟨1,by omega,by simp[aX,c1,c2]⟩
   |false=>exact⟨2,by omega,by simp[aX,c2,b1]⟩
 ·simp[aX]at h1;have b1:se l (X - 1) Y=true:=h1.1;have b2:ne l (X - 1) Y=false:=h1.2;show∃e,e<4/\aX l (X - 1) Y e=true
  cases c1:nw l (X - 1) Y with
  |true=>exact⟨1,by omega,by simp[aX,c1,b2]⟩
  |false=>
   cases c2:sw l (X - 1) Y with
   |true=>exact⟨2,by omega,by simp[aX,c1,c2]⟩
   |false=>exact⟨3,by omega,by simp[aX,c2,b1]⟩
 ·simp[aX]at h1;have b1:ne l X (Y - 1)=true:=h1.1;have b2:nw l X (Y - 1)=false:=h1.2;show∃e,e<4/\aX l X (Y - 1) e=true
  cases c1:sw l X (Y - 1)with
  |true=>exact⟨2,by omega,by simp[aX,c1,b2]⟩
  |false=>
   cases c2:se l X (Y - 1)with
   |true=>exact⟨3,by omega,by simp[aX,c1,c2]⟩
   |false=>exact⟨0,by omega,by simp[aX,c2,b1]⟩
noncomputable def uR(l:Cells)(X Y:Int)(d:Nat):Bool:=
 if d=0 then nw l X Y&& !sw l X Y else if d=1 then sw l X Y&& !se l X Y else if d=2 then se l X Y&& !ne l X Y else ne l X Y&& !nw l X Y
theorem xV{l:Cells}{X Y:Int}{d:Nat}(hd:d<4):uR l (stI X Y d).1 (stI X Y d).2 d=aX l X Y d:=by
 have cd:d=0\/d=1\/d=2\/d=3:=by omega
 rcases cd with rfl|rfl|rfl|rfl
 ·simp only[uR,aX,stI,ah,nw,sw,ne,se,show X+1 - 1=X by omega]
 ·simp[uR,aX,stI,nw,sw,ne,se,show Y+1 - 1=Y by omega]
 ·simp[uR,aX,stI,nw,sw,ne,se]
 ·simp[uR,aX,stI,nw,sw,ne,se]
theorem G6{l:Cells}(h:pinched l=false){X Y X' Y':Int}{d e:Nat}(hd:d<4)(he:e<4)(h1:aX l X Y d=true)(h2:aX l X' Y' e=true)(hq:stI X Y d=stI X' Y' e):d=e/\X=X'/\Y=Y':=by
 rw[<- xV hd]at h1;rw[<- xV he,<- hq]at h2;have hde:d=e:=by
  generalize (stI X Y d).1=U at*;generalize (stI X Y d).2=V at*;obtain⟨u1,u2⟩:=gK h U V;have cd:d=0\/d=1\/d=2\/d=3:=by omega
  have ce:e=0\/e=1\/e=2\/e=3:=by omega
  generalize a1:ne l U V=A at*;generalize a2:nw l U V=B at*;generalize a3:sw l U V=C at*;generalize a4:se l U V=D at*;rcases cd with rfl|rfl|rfl|rfl<;>rcases ce with rfl|rfl|rfl|rfl<;>simp[uR,a1,a2,a3,a4]at h1 h2 u1 u2 ⊢ <;>simp_all
 subst hde;refine⟨rfl,?_⟩;have cd:d=0\/d=1\/d=2\/d=3:=by omega
 rcases cd with rfl|rfl|rfl|rfl<;>simp[stI]at hq<;>omega
theorem mQ{l:Cells}{X Y:Int}{d:Nat}(hd:d<4)(h:aX l X Y d=true):(d=2->1<=X)/\(d=3->1<=Y):=by
 refine⟨fun e=>?_,fun e=>?_⟩
 ·subst e;simp[aX,sw]at h;have:=bO h.1;omega
 ·subst e;simp[aX,se]at h;have:=bO h.1;omega
theorem oU{l:Cells}{p:Point}{d:Nat}(hd:d<4)(h:wallFoot l p d=true):(((stepped p d).1:Int),((stepped p d).2:Int))=stI p.1 p.2 d:=by
 rw[eO]at h;obtain⟨g1,g2⟩:=mQ hd h;have cd:d=0\/d=1\/d=2\/d=3:=by omega
 rcases cd with rfl|rfl|rfl|rfl
 ·simp[stepped,stI]
 ·simp[stepped,stI]
 ·have:=g1 rfl;simp[stepped,stI];omega
 ·have:=g2 rfl;simp[stepped,stI];omega
theorem bA{l:Cells}{p:Point}{d:Nat}(h:outOf l p=some d):d<4/\wallFoot l p d=true:=by unfold outOf at h;have h1:=List.find?_some h;have h2:=List.mem_of_find?_eq_some h;simp at h2;exact⟨by omega,h1⟩
theorem yV{l:Cells}(hp:pinched l=false){p:Point}{d:Nat}(hd:d<4)(h:wallFoot l p d=true):outOf l p=some d:=by
 cases e:outOf l p with
 |none=>unfold outOf at e;rw[List.find?_eq_none]at e;exact absurd h (e d (by simp;omega))
 |some x=>obtain⟨hx,h2⟩:=bA e;rw[eO]at h h2;rw[DM hp hd hx h h2]
theorem HI{l:Cells}(hp:pinched l=false){p:Point}{d:Nat}(h:outOf l p=some d):∃e,outOf l (stepped p d)=some e:=by obtain⟨hd,h1⟩:=bA h;have e1:=oU hd h1;rw[eO]at h1;obtain⟨e,he,h2⟩:=G4 hd h1;rw[<- e1]at h2;exact⟨e,yV hp he (by rw[eO];exact h2)⟩
theorem yW{l:Cells}(hp:pinched l=false){p q:Point}{d e:Nat}(h1:outOf l p=some d)(h2:outOf l q=some e)(hq:stepped p d=stepped q e):p=q:=by obtain⟨hd,w1⟩:=bA h1;obtain⟨he,w2⟩:=bA h2;have e1:=oU hd w1;have e2:=oU he w2;rw[eO]at w1 w2;obtain⟨_,a,b⟩:=G6 hp hd he w1 w2 (by rw[<- e1,<- e2,hq]);exact Prod.ext (by omega) (by omega)
theorem bS{α:Type}[DecidableEq α]:∀{a b:List α},a.Nodup->(∀x∈a,x∈b)->a.length<=b.length
 |[],_,_,_=>by simp
 |x::a,b,h,hs=>by
  have hx:x∈b:=hs x (by simp);obtain⟨h1,h2⟩:=bx.mp h;have:=bS (a:=a) (b:=b.erase x) h2 fun y hy=>by
   have:y≠x:=fun e=>h1 (e▸hy)
   exact(List.mem_erase_of_ne this).mpr (hs y (by simp[hy]))
  rw[List.length_erase_of_mem hx]at this;have:0<b.length:=List.length_pos_of_mem hx;simp;omega
theorem d6{α β:Type}{f:α->β}:∀{l:List α},l.Nodup->(∀x∈l,∀y∈l,f x=f y->x=y)->(l.map f).Nodup
 |[],_,_=>by simp
 |x::l,h,hf=>by obtain⟨h1,h2⟩:=bx.mp h;rw[bf];refine bx.mpr ⟨fun hm=>?_,d6 h2 fun a ha b hb=>hf a (by simp[ha]) b (by simp[hb])⟩;obtain⟨y,hy,e⟩:=aw.mp hm;exact h1 (hf y (by simp[hy]) x (by simp) e▸hy)
inductive Way (l:Cells):Point->List Foot->Point->Prop where
 |nil (p:Point):Way l p [] p
 |cons {p q:Point}{d:Nat}{r:List Foot}:outOf l p=some d->Way l (stepped p d) r q->Way l p ((p,d)::r) q
theorem Way.append{l:Cells}{p q:Point}{a:List Foot}(h:Way l p a q):∀{b:List Foot}{r:Point},Way l q b r->Way l p (a++b) r:=by
 induction h with
 |nil p=>exact fun h=>h
 |cons h1 _ ih=>exact fun h=>.cons h1 (ih h)
theorem Way.out{l:Cells}{p q:Point}{a:List Foot}(h:Way l p a q):∀x∈a,outOf l x.1=some x.2:=by
 induction h with
 |nil p=>simp
 |cons h1 _ ih=>
  intro x hx;rcases ao.mp hx with rfl|hx
  ·exact h1
  ·exact ih x hx
theorem Way.prev{l:Cells}{p q:Point}{a:List Foot}(h:Way l p a q):∀y,(y∈a.map (·.1)\/y=q)->y=p\/∃x∈a,stepped x.1 x.2=y:=by
 induction h with
 |nil p=>intro y hy;simp at hy;exact .inl hy
 | @cons p q d r h1 hw ih=>
  intro y hy;by_cases hp:y=p
  ·exact .inl hp
  ·have qu:y∈r.map (·.1)\/y=q:=by
    rcases hy with hy|hy
    ·rw[bf]at hy;rcases ao.mp hy with e|hy
     ·exact absurd e hp
     ·exact .inl hy
    ·exact .inr hy
   rcases ih y qu with e|⟨x,hx,e⟩
   ·exact .inr ⟨(p,d),by simp,e.symm⟩
   ·exact .inr ⟨x,by simp[hx],e⟩
def kL(x:Foot):Cell×Nat:=((leftOf x.1 x.2).getD (0,0),x.2)
theorem xK{l:Cells}{x:Foot}(h:outOf l x.1=some x.2):kL x∈l.flatMap fun c=>[(c,0),(c,1),(c,2),(c,3)]:=by
 obtain⟨hd,w⟩:=bA h;unfold wallFoot at w;simp at w;have w:=w.1;cases e:leftOf x.1 x.2 with
 |none=>rw[e]at w;simp[isIn]at w
 |some c=>rw[e]at w;simp[isIn]at w;refine da.mpr ⟨c,w,?_⟩;unfold kL;rw[e];simp;omega
theorem xM{l:Cells}{x y:Foot}(h1:outOf l x.1=some x.2)(h2:outOf l y.1=some y.2)(e:kL x=kL y):x=y:=by
 obtain⟨hd1,w1⟩:=bA h1;obtain⟨vk,w2⟩:=bA h2;obtain⟨⟨a,b⟩,d⟩:=x;obtain⟨⟨a',b'⟩,d'⟩:=y;have ed:d=d':=congrArg (fun z=>z.2) e;subst ed;rw[eO]at w1 w2;obtain⟨g1,g2⟩:=mQ hd1 w1;obtain⟨g3,g4⟩:=mQ vk w2;have ec:(leftOf (a,b) d).getD (0,0)=(leftOf (a',b') d).getD (0,0):=congrArg (fun z=>z.1) e;have cd:d=0\/d=1\/d=2\/d=3:=by have:d<4:=hd1;omega
 rcases cd with rfl|rfl|rfl|rfl
 ·simp[leftOf]at ec;simp[ec]
 ·simp[aX,nw]at w1 w2;have i1:=bO w1.1;have i2:=bO w2.1;have p1:0<a:=by omega
  have p2:0<a':=by omega
  simp[leftOf,p1,p2]at ec;simp;omega
 ·simp[aX,sw]at w1 w2;have i1:=bO w1.1;have i2:=bO w2.1;have p1:0<a:=by omega
  have p2:0<a':=by omega
  have p3:0<b:=by omega
  have p4:0<b':=by omega
  simp[leftOf,p1,p2,p3,p4]at ec;simp;omega
 ·simp[aX,se]at w1 w2;have i1:=bO w1.1;have i2:=bO w2.1;have p3:0<b:=by omega
  have p4:0<b':=by omega
  simp[leftOf,p3,p4]at ec;simp;omega
theorem nJ{f:List Foot}(h:(f.map (·.1)).Nodup):f.Nodup:=by
 induction f with
 |nil=>simp
 |cons x f ih=>rw[bf]at h;obtain⟨h1,h2⟩:=bx.mp h;exact bx.mpr ⟨fun hm=>h1 (aw.mpr ⟨x,hm,rfl⟩),ih h2⟩
theorem KJ{l:Cells}{f:List Foot}(h:(f.map (·.1)).Nodup)(ho:∀x∈f,outOf l x.1=some x.2):f.length<=4*l.length:=by
 have h1:(f.map kL).Nodup:=d6 (nJ h) fun x hx y hy e=>xM (ho x hx) (ho y hy) e
 have h2:=bS h1 (b:=l.flatMap fun c=>[(c,0),(c,1),(c,2),(c,3)]) fun z hz=>by obtain⟨x,hx,rfl⟩:=aw.mp hz;exact xK (ho x hx)
 have h3:∀l:Cells,(l.flatMap fun c=>[(c,0),(c,1),(c,2),(c,3)]).length=4*l.length:=by
  intro l;induction l with
  |nil=>rfl
  |cons c l ih=>simp at ih ⊢;omega
 rw[h3]at h2;simpa using h2
structure Round(l:Cells)(p:Point)(f:List Foot):Prop where
 way:Way l p f p
 ne:f≠[]
 nd:(f.map (·.1)).Nodup
theorem nV{l:Cells}(hp:pinched l=false){p:Point}:∀(n:Nat)(done:List Foot)(q:Point)(d:Nat),outOf l q=some d->Way l p done q->((done++[(q,d)]).map (·.1)).Nodup->4*l.length<done.length+n+1 ->
  (done=[]->q=p)->Round l p (done++follow l p n q d)
 |0,done,q,d,hq,hw,hn,hl,h0=>by
  exfalso;have:=KJ (l:=l) hn fun x hx=>by
   rcases ay.mp hx with hx|hx
   ·exact hw.out x hx
   ·simp at hx;subst hx;exact hq
  simp at this;omega
 |n+1,done,q,d,hq,hw,hn,hl,h0=>by
  have ur:Way l p (done++[(q,d)]) (stepped q d):=hw.append (.cons hq (.nil _));have eF:follow l p (n+1) q d=(q,d)::(if stepped q d=p then[]else match outOf l (stepped q d)with|some e=>follow l p n (stepped q d) e|none=>[]):=rfl;rw[eF];by_cases hs:stepped q d=p
  ·rw[ah hs];rw[hs]at ur;exact⟨ur,by simp,hn⟩
  ·rw[ag hs];obtain⟨e,he⟩:=HI hp hq;rw[he];have sk:stepped q d∉ (done++[(q,d)]).map (·.1):=by
    intro hm;rcases ur.prev _ (.inl hm)with e1|⟨x,hx,e1⟩
    ·exact hs e1
    ·
     obtain⟨i,hi,ei⟩:=List.getElem_of_mem hm;have key:∀{a:List Foot}{u v:Point},Way l u a v->∀y∈a.map (·.1),y≠u->∃x∈a.dropLast,stepped x.1 x.2=y:=by
      intro a u v hw;induction hw with
      |nil u=>intro y hy;simp at hy
      | @cons u v d' r h1 hw ih=>
       intro y hy jl;rw[bf]at hy;rcases ao.mp hy with e|hy
       ·exact absurd e jl
       ·cases r with
        |nil=>simp at hy
        |cons z r=>
         by_cases hz:y=stepped u d'
         ·exact⟨(u,d'),by simp,hz.symm⟩
         ·obtain⟨x,hx,e⟩:=ih y hy hz;exact⟨x,by simp[hx],e⟩
     obtain⟨x,hx,e1⟩:=key ur _ hm hs;have hxd:x∈done:=by simpa using hx
     have hxo:=hw.out x hxd;have:=yW hp hxo hq e1;rw[cg,cv]at hn;exact hn.2.2 x.1 (aw.mpr ⟨x,hxd,rfl⟩) q (by simp) this
   have:=nV hp n (done++[(q,d)]) (stepped q d) e he ur (by
    rw[cg,cv];refine⟨hn,by simp,?_⟩;intro a ha b hb;simp at hb;subst hb;intro e2;exact sk (e2▸ha)) (by simp;omega) (by simp)
   simpa using this
theorem F8{l:Cells}(hp:pinched l=false){p:Point}{d:Nat}(h:outOf l p=some d):Round l p (follow l p (4*l.length+4) p d):=by have:=nV hp (4*l.length+4) [] p d h (.nil p) (by simp) (by simp;omega) (by simp);simpa using this
noncomputable def AB(l:Cells)(seen:List Point):Prop:=∀y∈seen,∃x∈seen,∃d,outOf l x=some d/\stepped x d=y
theorem AB.nil(l:Cells):AB l []:=fun _ h=>by simp at h
theorem Round.prev{l:Cells}{p:Point}{f:List Foot}(h:Round l p f):∀y∈f.map (·.1),∃x∈f,stepped x.1 x.2=y:=by
 intro y hy;rcases h.way.prev y (.inl hy)with e|e
 ·subst e;have key:∀{a:List Foot}{u v:Point},Way l u a v->a≠[]->∃x∈a,stepped x.1 x.2=v:=by
   intro a u v hw;induction hw with
   |nil u=>intro h;exact absurd rfl h
   | @cons u v d' r h1 hw ih=>
    intro _;cases r with
    |nil=>cases hw;exact⟨(u,d'),by simp,rfl⟩
    |cons z r=>obtain⟨x,hx,e⟩:=ih (by simp);exact⟨x,by simp only[ao]at hx ⊢;exact .inr hx,e⟩
  exact key h.way h.ne
 ·exact e
theorem AB.add{l:Cells}{seen:List Point}{p:Point}{f:List Foot}(hs:AB l seen)(h:Round l p f):AB l (seen++f.map (·.1)):=by
 intro y hy;rcases ay.mp hy with hy|hy
 ·obtain⟨x,hx,e⟩:=hs y hy;exact⟨x,cc _ hx,e⟩
 ·obtain⟨x,hx,e⟩:=h.prev y hy;exact⟨x.1,bh _ (aw.mpr ⟨x,hx,rfl⟩),x.2,h.way.out x hx,e⟩
theorem Way.fresh{l:Cells}(hp:pinched l=false){seen:List Point}(hs:AB l seen){p q:Point}{f:List Foot}(h:Way l p f q):p∉seen->∀y∈f.map (·.1),y∉seen:=by
 induction h with
 |nil p=>intro _ y hy;simp at hy
 | @cons p q d r h1 hw ih=>
  intro hn y hy;rw[bf]at hy;rcases ao.mp hy with e|hy
  ·rw[e];exact hn
  ·refine ih (fun hm=>?_) y hy;obtain⟨x,hx,e,he,es⟩:=hs _ hm;have:=yW hp he h1 es;exact hn (this▸hx)
theorem cN{a b:Point}:before a b=true↔a.2<b.2\/(a.2=b.2/\a.1<b.1):=by simp[before]
theorem uO{a:Point}(h:before a a=true):False:=by rw[cN]at h;omega
theorem jO{a b c:Point}(h1:before a b=true)(h2:before b c=true):before a c=true:=by rw[cN]at*;omega
theorem C9(a b:Point):a=b\/before a b=true\/before b a=true:=by
 by_cases h:a=b
 ·exact .inl h
 ·right;rw[cN,cN];have:¬(a.1=b.1/\a.2=b.2):=fun⟨x,y⟩=>h (Prod.ext x y)
  omega
def leR(a b:Cell):Bool:=a==b||before a b
theorem xB{a b:Cell}:leR a b=true↔a=b\/before a b=true:=by simp[leR]
theorem ES(a b c:Cell)(h1:leR a b=true)(h2:leR b c=true):leR a c=true:=by
 rw[xB]at*;rcases h1 with rfl|h1
 ·exact h2
 ·rcases h2 with rfl|h2
  ·exact .inr h1
  ·exact .inr (jO h1 h2)
theorem ET(a b:Cell):(leR a b||leR b a)=true:=by
 rcases C9 a b with rfl|h|h
 ·simp[leR]
 ·simp[leR,h]
 ·simp[leR,h]
theorem jC:∀{l:Cells}{x:Cell},x∈onceEach l↔x∈l
 |[],x=>by simp[onceEach]
 |[a],x=>by simp[onceEach]
 |a::b::r,x=>by
  have ih:=jC (l:=b::r) (x:=x);unfold onceEach;split
  ·rename_i e;rw[ih,e];simp
  ·rw[ao,ih,ao (a:=x) (b:=a)]
theorem jR:∀{l:Cells},l.Pairwise (fun a b=>leR a b=true)->(onceEach l).Pairwise (fun a b=>before a b=true)
 |[],_=>by simp[onceEach]
 |[a],_=>by simp[onceEach]
 |a::b::r,h=>by
  obtain⟨h1,h2⟩:=ff.mp h;have ih:=jR h2;unfold onceEach;split
  ·exact ih
  ·rename_i e;refine ff.mpr ⟨fun x hx=>?_,ih⟩;have hx:=jC.mp hx;have zi:before a b=true:=by
    rcases xB.mp (h1 b (by simp))with q|q
    ·exact absurd q e
    ·exact q
   rcases ao.mp hx with rfl|hx
   ·exact zi
   ·obtain⟨h3,_⟩:=ff.mp h2;rcases xB.mp (h3 x hx)with rfl|q
    ·exact zi
    ·exact jO zi q
theorem tG{l:Cells}{x:Cell}:x∈inRows l↔x∈l:=by unfold inRows;rw[jC,List.mem_mergeSort]
theorem uG(l:Cells):(inRows l).Pairwise (fun a b=>before a b=true):=jR (List.pairwise_mergeSort ES ET l)
theorem wO{l:List Point}(h:l.Pairwise (fun a b=>before a b=true)):l.Nodup:=by refine List.Pairwise.imp (fun{a b} q=>?_) h;intro e;subst e;exact uO q
noncomputable def eY(p:Point)(d k:Nat):Point:=if d=0 then(p.1+k,p.2)else if d=1 then(p.1,p.2+k)else if d=2 then(p.1 - k,p.2)else(p.1,p.2 - k)
def cQ(p:Point)(d k:Nat):List Foot:=(List.range k).map fun i=>(eY p d i,d)
theorem m7{p:Point}{d k:Nat}(hd:d<4)(h2:d=2->k<=p.1)(h3:d=3->k<=p.2):feet p (eY p d k)=cQ p d k:=by
 have cd:d=0\/d=1\/d=2\/d=3:=by omega
 rcases cd with rfl|rfl|rfl|rfl
 ·simp only[feet,eY,cQ,ah];by_cases hk:k=0
  ·subst hk;simp
  ·rw[ah (by omega)];rw[show p.1+k - p.1=k by omega]
 ·simp only[feet,eY,cQ];by_cases hk:k=0
  ·subst hk;simp
  ·simp only[ag (show¬(1:Nat)=0 by omega),ah];rw[ag (by omega),ah (by omega),show p.2+k - p.2=k by omega]
 ·have:=h2 rfl;simp only[feet,eY,cQ];simp only[ag (show¬(2:Nat)=0 by omega),ag (show¬(2:Nat)=1 by omega),ah];rw[ag (by omega),show p.1 - (p.1 - k)=k by omega]
 ·have:=h3 rfl;simp only[feet,eY,cQ];simp only[ag (show¬(3:Nat)=0 by omega),ag (show¬(3:Nat)=1 by omega),ag (show¬(3:Nat)=2 by omega),ah];by_cases hk:k=0
  ·subst hk;simp
  ·rw[ag (by omega),ag (by omega),show p.2 - (p.2 - k)=k by omega]
theorem u9{p:Point}{d k:Nat}:cQ p d (k+1)=cQ p d k++[(eY p d k,d)]:=by simp[cQ,range_succ]
theorem iC{p:Point}{d k:Nat}(hd:d<4):stepped (eY p d k) d=eY p d (k+1):=by
 have cd:d=0\/d=1\/d=2\/d=3:=by omega
 rcases cd with rfl|rfl|rfl|rfl<;>simp[stepped,eY]<;>omega
noncomputable def AG(cs:Walk)(q:Point):List Foot:=(cs.zip (cs.drop 1++[q])).flatMap fun x=>feet x.1 x.2
theorem DK{p a:Point}{cs:Walk}{q:Point}:AG (p::a::cs) q=feet p a++AG (a::cs) q:=by simp[AG]
theorem jB{l:Cells}{p:Point}{d:Nat}(h:outOf l p=some d):(d=2->1<=p.1)/\(d=3->1<=p.2):=by obtain⟨hd,w⟩:=bA h;rw[eO]at w;obtain⟨g1,g2⟩:=mQ hd w;exact⟨fun e=>by have:=g1 e;omega,fun e=>by have:=g2 e;omega⟩
theorem expand{l:Cells}:∀{r:List Foot}{p p' q:Point}{d k:Nat},Way l p' r q->d<4->(d=2->k<=p.1)->(d=3->k<=p.2)->p'=eY p d k->AG (p::turns d r) q=cQ p d k++r
 |[],p,p',q,d,k,hw,hd,h2,h3,e=>by
  cases hw;show AG [p] p'=_
  rw[e];simp[AG,m7 hd h2 h3]
 |(x,d2)::r,p,PP,q,d,k,hw,hd,h2,h3,e=>by
  cases hw with
  |cons h1 hw=>
   obtain⟨b2,b3⟩:=jB h1;obtain⟨vk,_⟩:=bA h1;by_cases xf:d2=d
   ·subst xf;have et:turns d2 ((x,d2)::r)=turns d2 r:=by
     show(if d2=d2 then _ else _)=_
     rw[ah rfl]
    rw[et,expand (r:=r) (p:=p) (p':=stepped x d2) (k:=k+1) hw hd ?_ ?_ (by rw[e,iC hd]),u9,<- e]
    ·simp
    ·intro e2;have:=b2 e2;rw[e]at this;subst e2;simp[eY]at this;omega
    ·intro e3;have:=b3 e3;rw[e]at this;subst e3;simp[eY]at this;omega
   ·have et:turns d ((x,d2)::r)=x::turns d2 r:=by
     show(if d2=d then _ else _)=_
     rw[ag xf]
    rw[et,DK,e,m7 hd h2 h3,<- e];have:=expand (r:=r) (p:=x) (p':=stepped x d2) (q:=q) (d:=d2) (k:=1) hw vk (fun z=>b2 z) (fun z=>b3 z) (by
     have:=iC (p:=x) (d:=d2) (k:=0) vk;have e0:eY x d2 0=x:=by unfold eY;split<;>(try split)<;>(try split)<;>simp
     rw[e0]at this;exact this)
    rw[this];have es:cQ x d2 1=[(x,d2)]:=by
     have e0:eY x d2 0=x:=by unfold eY;split<;>(try split)<;>(try split)<;>simp
     simp[cQ,e0]
    rw[es];simp
theorem uL{l:Cells}{p:Point}{d:Nat}{r:List Foot}{x:Foot}(h:Round l p ((p,d)::r))(hx:((p,d)::r).getLast?=some x)(jl:d≠x.2):
  cornersOf ((p,d)::r)=p::turns d r/\walkFeet (cornersOf ((p,d)::r))=(p,d)::r:=by
 have e1:cornersOf ((p,d)::r)=p::turns d r:=by
  unfold cornersOf;rw[hx];show(if d=x.2 then _ else _)=_
  rw[ag jl]
 refine⟨e1,?_⟩;rw[e1];have hw:=h.way;cases hw with
 |cons h1 hw=>
  obtain⟨b2,b3⟩:=jB h1;obtain⟨hd,_⟩:=bA h1;have e0:eY p d 0=p:=by unfold eY;split<;>(try split)<;>(try split)<;>simp
  have:=expand (r:=r) (p:=p) (p':=stepped p d) (q:=p) (d:=d) (k:=1) hw hd b2 b3 (by
   have:=iC (p:=p) (d:=d) (k:=0) hd;rw[e0]at this;exact this)
  have es:cQ p d 1=[(p,d)]:=by simp[cQ,e0]
  rw[es]at this;simp only[List.singleton_append]at this;rw[<- this];show((p::turns d r).zip ((p::turns d r).drop 1++(p::turns d r).take 1)).flatMap _=_
  simp[AG]
theorem Way.nil_inv{l:Cells}{a b:Point}(h:Way l a [] b):a=b:=by cases h;rfl
structure fC(l:Cells)(seen uh:List Point):Prop where
 oX:AB l seen
 all:∀q d,outOf l q=some d->q∈seen\/q∈uh
 row:uh.Pairwise fun a b=>before a b=true
theorem gN{l:Cells}{q:Point}{d:Nat}(h:outOf l q=some d):q∈pointsOf l:=by
 obtain⟨hd,w⟩:=bA h;unfold pointsOf;rw[tG];rw[eO]at w;obtain⟨a,b⟩:=q;have cd:d=0\/d=1\/d=2\/d=3:=by omega
 rcases cd with rfl|rfl|rfl|rfl
 ·simp[aX,ne,cC]at w;exact da.mpr ⟨(a,b),w.1,by simp⟩
 ·simp[aX,nw]at w;obtain⟨x0,y0,m⟩:=bO w.1;refine da.mpr ⟨_,m,?_⟩;simp;omega
 ·simp[aX,sw]at w;obtain⟨x0,y0,m⟩:=bO w.1;refine da.mpr ⟨_,m,?_⟩;simp;omega
 ·simp[aX,se]at w;obtain⟨x0,y0,m⟩:=bO w.1;refine da.mpr ⟨_,m,?_⟩;simp;omega
theorem fC.start(l:Cells):fC l [] (pointsOf l):=⟨AB.nil l,fun q d h=>.inr (gN h),uG _⟩
theorem fC.skip{l:Cells}{seen r:List Point}{p:Point}(g:fC l seen (p::r))(h:p∈seen\/outOf l p=none):fC l seen r:=by
 refine⟨g.oX,fun q d hq=>?_,(ff.mp g.row).2⟩;rcases g.all q d hq with h1|h1
 ·exact .inl h1
 ·rcases ao.mp h1 with rfl|h1
  ·rcases h with h|h
   ·exact .inl h
   ·rw[h]at hq;cases hq
  ·exact .inr h1
theorem fC.step{l:Cells}(hp:pinched l=false){seen r:List Point}{p:Point}{d:Nat}(g:fC l seen (p::r))(hs:p∉seen)(ho:outOf l p=some d){f:List Foot}(hf:f=follow l p (4*l.length+4) p d):
  Round l p f/\(∀y∈f.map (·.1),y∉seen)/\(∃r',f=(p,d)::r'/\cornersOf f=p::turns d r')/\walkFeet (cornersOf f)=f/\fC l (seen++f.map (·.1)) r:=by
 have R:=F8 hp ho;rw[<- hf]at R;have fr:=R.way.fresh hp g.oX hs;have sf:∀y∈f.map (·.1),y=p\/before p y=true:=by
  intro y hy;obtain⟨x,hx,rfl⟩:=aw.mp hy;rcases g.all x.1 x.2 (R.way.out x hx)with h1|h1
  ·exact absurd h1 (fr _ hy)
  ·rcases ao.mp h1 with h1|h1
   ·exact .inl h1
   ·exact .inr ((ff.mp g.row).1 _ h1)
 obtain⟨r',er⟩:∃r',f=(p,d)::r':=by rw[hf];exact⟨_,rfl⟩
 refine⟨R,fr,?_⟩;rw[er]at R sf fr ⊢;obtain⟨x,hx⟩:∃x,((p,d)::r').getLast?=some x:=by
  cases e:((p,d)::r').getLast? with
  |none=>simp at e
  |some x=>exact⟨x,rfl⟩
 have ko:stepped x.1 x.2=p:=by
  have key:∀{a:List Foot}{u v:Point}{x:Foot},Way l u a v->a.getLast?=some x->stepped x.1 x.2=v:=by
   intro a u v x hw;induction hw with
   |nil u=>intro h;simp at h
   | @cons u v d' r h1 hw ih=>
    intro h;cases r with
    |nil=>cases hw;simp at h;rw[<- h]
    |cons z r=>exact ih (by simpa using h)
  exact key R.way hx
 have xm:x∈(p,d)::r':=List.mem_of_getLast? hx;have xo:=R.way.out x xm;obtain⟨hxd,_⟩:=bA xo;obtain⟨hd,_⟩:=bA ho;have hx23:x.2=2\/x.2=3:=by
  have cx:x.2=0\/x.2=1\/x.2=2\/x.2=3:=by omega
  have hl:=sf x.1 (aw.mpr ⟨x,xm,rfl⟩);rw[cN]at hl;rcases cx with c|c|c|c
  ·exfalso;rw[c]at ko;simp[stepped]at ko;have a1:=congrArg Prod.fst ko;have a2:=congrArg Prod.snd ko;simp at a1 a2;rcases hl with h|h|h
   ·rw[h]at a1;omega
   ·omega
   ·omega
  ·exfalso;rw[c]at ko;simp[stepped]at ko;have a1:=congrArg Prod.fst ko;have a2:=congrArg Prod.snd ko;simp at a1 a2;rcases hl with h|h|h
   ·rw[h]at a2;omega
   ·omega
   ·omega
  ·exact .inl c
  ·exact .inr c
 have hd01:d=0\/d=1:=by
  have hw:=R.way;cases hw with
  |cons h1 hw=>
   have Ar:stepped p d=p\/stepped p d∈((p,d)::r').map (·.1):=by
    cases r' with
    |nil=>exact .inl hw.nil_inv
    |cons z r2=>cases hw;right;simp
   have hl:stepped p d=p\/before p (stepped p d)=true:=by
    rcases Ar with h|h
    ·exact .inl h
    ·exact sf _ h
   rw[cN]at hl;obtain⟨b2,b3⟩:=jB ho;have cx:d=0\/d=1\/d=2\/d=3:=by omega
   rcases cx with c|c|c|c
   ·exact .inl c
   ·exact .inr c
   ·exfalso;have:=b2 c;subst c;simp[stepped]at hl;rcases hl with h|h
    ·have a1:=congrArg Prod.fst h;simp at a1;omega
    ·omega
   ·exfalso;have:=b3 c;subst c;simp[stepped]at hl;rcases hl with h|h
    ·have a1:=congrArg Prod.snd h;simp at a1;omega
    ·omega
 have jl:d≠x.2:=by omega
 obtain⟨c1,c2⟩:=uL R hx jl;refine⟨⟨r',rfl,c1⟩,c2,g.oX.add R,fun q e hq=>?_,(ff.mp g.row).2⟩;rcases g.all q e hq with h1|h1
 ·exact .inl (cc _ h1)
 ·rcases ao.mp h1 with rfl|h1
  ·exact .inl (bh _ (by simp))
  ·exact .inr h1
theorem eQ{l:Cells}(hp:pinched l=false):∀{uh seen:List Point},fC l seen uh ->
  ∃F:List Foot,(walksFrom l seen uh).flatMap walkFeet=F/\(∀x∈F,outOf l x.1=some x.2)/\(F.map (·.1)).Nodup/\(∀x∈F,x.1∉seen)/\∀w∈walksFrom l seen uh,∀q∈w,∃d,outOf l q=some d
 |[],seen,g=>⟨[],by simp[walksFrom],by simp,by simp,by simp,by simp[walksFrom]⟩
 |p::r,seen,g=>by
  by_cases hs:seen.contains p=true
  ·have e:walksFrom l seen (p::r)=walksFrom l seen r:=by
    show(if seen.contains p=true then _ else _)=_
    rw[ah hs]
   rw[e];exact eQ hp (g.skip (.inl (by simpa using hs)))
  ·cases ho:outOf l p with
   |none=>
    have e:walksFrom l seen (p::r)=walksFrom l seen r:=by
     show(if seen.contains p=true then _ else match outOf l p with|none=>_|some d=>_)=_
     rw[ag hs,ho]
    rw[e];exact eQ hp (g.skip (.inr ho))
   |some d=>
    have e:walksFrom l seen (p::r)=cornersOf (follow l p (4*l.length+4) p d)::walksFrom l (seen++(follow l p (4*l.length+4) p d).map fun(x:Foot)=>x.1) r:=by
     show(if seen.contains p=true then _ else match outOf l p with|none=>_|some d=>_)=_
     rw[ag hs,ho]
    obtain⟨R,fr,⟨r',er,ec⟩,ew,g2⟩:=g.step hp (by simpa using hs) ho rfl;obtain⟨F,h1,h2,h3,h4,h5⟩:=eQ hp g2;refine⟨follow l p (4*l.length+4) p d++F,?_,?_,?_,?_,?_⟩
    ·rw[e,fx,ew,h1]
    ·intro x hx;rcases ay.mp hx with hx|hx
     ·exact R.way.out x hx
     ·exact h2 x hx
    ·rw[cg,cv];refine⟨R.nd,h3,?_⟩;intro a ha b hb e2;obtain⟨x,hx,rfl⟩:=aw.mp hb;exact h4 x hx (bh _ (e2▸ha))
    ·intro x hx;rcases ay.mp hx with hx|hx
     ·exact fr _ (aw.mpr ⟨x,hx,rfl⟩)
     ·exact fun hm=>h4 x hx (cc _ hm)
    ·intro w hw;rw[e]at hw;rcases ao.mp hw with rfl|hw
     ·intro q hq;have key:∀{a:List Foot}{d:Nat}{q:Point},q∈turns d a->∃x∈a,x.1=q:=by
       intro a;induction a with
       |nil=>intro d q h;simp[turns]at h
       |cons x a ih=>
        intro d q h;unfold turns at h;split at h
        ·obtain⟨y,hy,e⟩:=ih h;exact⟨y,by simp[hy],e⟩
        ·rcases ao.mp h with e|h
         ·exact⟨x,by simp,e.symm⟩
         ·obtain⟨y,hy,e⟩:=ih h;exact⟨y,by simp[hy],e⟩
      have:q∈turns ((follow l p (4*l.length+4) p d).getLast?.elim 0 (·.2)) (follow l p (4*l.length+4) p d):=by
       unfold cornersOf at hq;cases e3:(follow l p (4*l.length+4) p d).getLast? with
       |none=>rw[e3]at hq;simp at hq
       |some z=>rw[e3]at hq;exact hq
      obtain⟨x,hx,e4⟩:=key this;exact⟨x.2,e4▸R.way.out x hx⟩
     ·exact h5 w hw
def sS(ws:List Walk):Prop:=∀w∈ws,∀p∈w,okP p
theorem j9:∀{ws:List Walk},sS ws->RoofBNeutral.text (cV ws)=walksText ws
 |[],_=>rfl
 |w::ws,h=>by
  have e:cV (w::ws)=(fX w++[10])++cV ws:=by simp[cV]
  rw[e,fQ,oR (h w (by simp)),j9 fun x hx=>h x (ar _ hx)];simp[walksText]
theorem qP{ws:List Walk}(h:sS ws):inB (cV ws):=by
 intro x hx;obtain⟨w,hw,hx⟩:=da.mp hx;rcases ay.mp hx with hx|hx
 ·rcases nB (h w hw) hx with h1|h1|h1<;>omega
 ·simp at hx;omega
theorem n9{ws:List Walk}(h:sS ws):parts 10 (cV ws)=ws.map fX++[[]]:=by
 have:cV ws=glue 10 (ws.map fX++[[]]):=by rw[lQ,cV,flatMap_map]
 rw[this];refine fE (by simp) fun q hq=>?_
 rcases ay.mp hq with hq|hq
 ·obtain⟨w,hw,rfl⟩:=aw.mp hq;intro e;rcases nB (h w hw) e with h1|h1|h1<;>omega
 ·simp at hq;subst hq;simp
theorem B4{p:Point}:cB p≠[]:=by unfold cB glue glue pNum;split<;>simp
theorem yU{p q:Point}(hp:okP p)(hq:okP q)(e:cB p=cB q):p=q:=by have h1:=g7 hp;rw[e,g7 hq]at h1;have h2:=Option.some.inj h1;have a:=congrArg Prod.fst h2;have b:=congrArg Prod.snd h2;simp[iP]at a b;exact Prod.ext (by omega) (by omega)
theorem map_inj{α β:Type}{f:α->β}:∀{a b:List α},(∀x∈a,∀y∈b,f x=f y->x=y)->a.map f=b.map f->a=b
 |[],[],_,_=>rfl
 |[],_::_,_,h=>by simp at h
 |_::_,[],_,h=>by simp at h
 |x::a,y::b,hf,h=>by simp at h;rw[hf x (by simp) y (by simp) h.1,map_inj (fun u hu v hv=>hf u (by simp[hu]) v (by simp[hv])) h.2]
theorem HH{w v:Walk}(hw:∀p∈w,okP p)(hv:∀p∈v,okP p)(e:fX w=fX v):w=v:=by
 have key:∀{w:Walk},(∀p∈w,okP p)->w≠[]->parts 32 (fX w)=w.map cB:=by
  intro w hw jl;unfold fX;refine fE (by simpa using jl) fun q hq=>?_
  obtain⟨p,hp,rfl⟩:=aw.mp hq;intro e;rcases kD (hw p hp) e with h1|h1<;>omega
 have Bp:∀{w:Walk},(∀p∈w,okP p)->fX w=[]->w=[]:=by
  intro w hw e;by_cases h:w=[]
  ·exact h
  ·exfalso;have k:=key hw h;rw[e]at k;have:[([]:List Int)]=w.map cB:=k;cases w with
   |nil=>exact h rfl
   |cons p w=>simp at this;exact B4 this.1
 by_cases h1:w=[]
 ·subst h1;exact(Bp hv e.symm).symm
 ·by_cases h2:v=[]
  ·subst h2;exact absurd (Bp hw e) h1
  ·have k1:=key hw h1;rw[e,key hv h2]at k1;exact map_inj (fun x hx y hy=>yU (hw x hx) (hv y hy)) k1.symm
theorem tZ{a b:List Walk}(ha:sS a)(hb:sS b)(h:walksText a=walksText b):a=b:=by
 rw[<- j9 ha,<- j9 hb]at h;have h:=rV (qP ha) (qP hb) h;have k:=n9 ha;rw[h,n9 hb]at k;have k:a.map fX=b.map fX:=by simpa using k.symm
 exact map_inj (fun x hx y hy=>HH (ha x hx) (hb y hy)) k
noncomputable def bC(x y:Nat)(f:Foot):Bool:=(f.2==1&& f.1==(x,y))||(f.2==3&& f.1==(x,y+1))
noncomputable def bW(F:Nat->Nat->Bool)(y:Nat):Nat->Bool
 |0=>F 0 y
 |x+1=>xor (bW F y x) (F (x+1) y)
noncomputable def aR(F:Nat->Nat->Bool):Cells:=(List.range SIDE).flatMap fun y=>((List.range SIDE).map fun x=>((x,y):Cell)).filter fun c=>bW F c.2 c.1
theorem rP(F:List Foot)(y:Nat):wallsWest F (0,y)=F.countP (bC 0 y):=by
 unfold wallsWest;refine List.countP_congr fun f _=>?_
 simp[bC,Prod.ext_iff];omega
theorem w8{α:Type}{p q r:α->Bool}:∀{l:List α},(∀x∈l,r x=(p x||q x))->(∀x∈l,¬(p x=true/\q x=true))->l.countP r=l.countP p+l.countP q
 |[],_,_=>by simp
 |x::l,h1,h2=>by have ih:=w8 (l:=l) (fun y hy=>h1 y (by simp[hy])) (fun y hy=>h2 y (by simp[hy]));have a:=h1 x (by simp);have b:=h2 x (by simp);rw[ft,ft,ft,ih,a];cases hp:p x<;>cases hq:q x<;>simp_all<;>omega
theorem rQ(F:List Foot)(x y:Nat):wallsWest F (x+1,y)=wallsWest F (x,y)+F.countP (bC (x+1) y):=by
 unfold wallsWest;refine w8 (fun f _=>?_) fun f _ h=>?_
 ·rw[ck];simp[bC,Prod.ext_iff];omega
 ·simp[bC,Prod.ext_iff]at h;omega
theorem zH{F:List Foot}(h:∀x y,F.countP (bC x y)<=1)(y:Nat):∀x,bW (fun x y=>F.any (bC x y)) y x=(wallsWest F (x,y)%2==1):=by
 have one:∀x,F.any (bC x y)=(F.countP (bC x y)==1):=by
  intro x;have:=h x y;cases e:F.any (bC x y)with
  |true=>
   have:0<F.countP (bC x y):=by rw[List.countP_pos_iff];exact dz.mp e
   have:F.countP (bC x y)=1:=by omega
   simp[this]
  |false=>
   have:F.countP (bC x y)=0:=by rw[List.countP_eq_zero];intro a ha q;have:F.any (bC x y)=true:=dz.mpr ⟨a,ha,q⟩;rw[e]at this;cases this
   simp[this]
 intro x;induction x with
 |zero=>
  show F.any (bC 0 y)=_
  rw[rP,one];have:=h 0 y;rw[ck];simp;omega
 |succ x ih=>
  show xor (bW _ y x) (F.any (bC (x+1) y))=_
  rw[rQ,ih,one];have:=h (x+1) y;rw[ck];have hx:∀a b:Nat,b<=1->(((a%2==1)^^ (b==1))=true↔((a+b)%2==1)=true):=by
   intro a b hb;have:b=0\/b=1:=by omega
   rcases this with rfl|rfl
   ·simp
   ·have:a%2=0\/a%2=1:=by omega
    rcases this with q|q
    ·simp[q];omega
    ·simp[q];omega
  exact hx _ _ this
theorem C6(ws:List Walk):cellsIn ws=(List.range SIDE).flatMap fun y=>((List.range SIDE).map fun x=>((x,y):Cell)).filter fun c=>wallsWest (ws.flatMap walkFeet) c%2==1:=by
 unfold cellsIn;dsimp only;congr 1;funext y;have Aj:∀x,wallsWest (((ws.flatMap walkFeet).filter fun(x:Foot)=>x.2==1||x.2==3).filter fun(x:Foot)=>x.1.2==y||x.1.2==y+1) (x,y)=wallsWest (ws.flatMap walkFeet) (x,y):=by
  intro x;unfold wallsWest;rw[List.countP_filter,List.countP_filter];refine List.countP_congr fun f _=>?_
  simp;omega
 split
 ·rename_i e;symm;rw[List.filter_eq_nil_iff];intro c hc;obtain⟨x,_,rfl⟩:=aw.mp hc;have w:=Aj x;rw[List.isEmpty_iff.mp e]at w;rw[<- w];simp[wallsWest]
 ·refine filter_congr fun c hc=>?_
  obtain⟨x,_,rfl⟩:=aw.mp hc;rw[Aj x]
theorem wB{ws:List Walk}(h:∀x y,(ws.flatMap walkFeet).countP (bC x y)<=1):cellsIn ws=aR fun x y=>(ws.flatMap walkFeet).any (bC x y):=by
 rw[C6,aR];congr 1;funext y;refine filter_congr fun c hc=>?_
 obtain⟨x,_,rfl⟩:=aw.mp hc;rw[zH h]
noncomputable def qY(a b:Point)(x y:Nat):Bool:=a.1==b.1&& (a.1==x&& (decide (min a.2 b.2<=y)&& decide (y<max a.2 b.2)))
theorem IJ(a b:Point)(x y:Nat):(feet a b).any (bC x y)=qY a b x y:=by
 rw[ck,dz];unfold feet;constructor
 ·rintro⟨f,hf,hv⟩;by_cases h1:a.2=b.2
  ·rw[ah h1]at hf;split at hf
   ·obtain⟨i,_,rfl⟩:=aw.mp hf;simp[bC]at hv
   ·obtain⟨i,_,rfl⟩:=aw.mp hf;simp[bC]at hv
  ·rw[ag h1]at hf;by_cases h2:a.1=b.1
   ·rw[ah h2]at hf;split at hf
    ·obtain⟨i,hi,rfl⟩:=aw.mp hf;simp[bC,Prod.ext_iff]at hv hi;simp[qY];omega
    ·obtain⟨i,hi,rfl⟩:=aw.mp hf;simp[bC,Prod.ext_iff]at hv hi;simp[qY];omega
   ·rw[ag h2]at hf;simp at hf
 ·intro h;simp[qY]at h;obtain⟨h1,h2,h3,h4⟩:=h;have jl:a.2≠b.2:=by omega
  rw[ag jl,ah h1];by_cases jw:a.2<b.2
  ·rw[ah jw];refine⟨((a.1,y),1),aw.mpr ⟨y - a.2,by simp;omega,?_⟩,by simp[bC,Prod.ext_iff];omega⟩;simp[Prod.ext_iff];omega
  ·rw[ag jw];refine⟨((a.1,y+1),3),aw.mpr ⟨a.2 - (y+1),by simp;omega,?_⟩,by simp[bC,Prod.ext_iff];omega⟩;simp[Prod.ext_iff];omega
noncomputable def dN(ws:List Walk)(x y:Nat):Bool:=ws.any fun w=>(sides w).any fun s=>qY s.1 s.2 x y
theorem F7(ws:List Walk)(x y:Nat):(ws.flatMap walkFeet).any (bC x y)=dN ws x y:=by unfold dN walkFeet;rw[List.any_flatMap];congr 1;funext w;rw[List.any_flatMap];congr 1;funext s;exact IJ s.1 s.2 x y
theorem zL{l:Cells}(h:isHouse l=true):l≠[]/\l.length<=256/\(∀c∈l,c.1<64/\c.2<64)/\rising l=true/\pinched l=false:=by
 unfold isHouse at h;cases l with
 |nil=>simp at h
 |cons c r=>
  simp[Roof.within,SIDE,CELLS]at h;obtain⟨h1,h2,h3,h4,h5⟩:=h;refine⟨by simp,by simpa using h1,?_,h3,h5⟩;intro x hx;rcases ao.mp hx with rfl|hx
  ·exact⟨bp h2.1.1,bp h2.1.2⟩
  ·exact⟨bp (h2.2 x.1 x.2 hx).1,bp (h2.2 x.1 x.2 hx).2⟩
theorem JA{l:Cells}(h:∀c∈l,c.1<64/\c.2<64){q:Point}{d:Nat}(ho:outOf l q=some d):okP q:=by have:=gN ho;unfold pointsOf at this;rw[tG]at this;obtain⟨c,hc,hq⟩:=da.mp this;have:=h c hc;simp at hq;rcases hq with rfl|rfl|rfl|rfl<;>(constructor<;>(try simp only)<;>omega)
theorem qV{l:Cells}(h:isHouse l=true):sS (walksOf l)/\∀x y,((walksOf l).flatMap walkFeet).countP (bC x y)<=1:=by
 obtain⟨_,_,hb,_,hp⟩:=zL h;obtain⟨F,h1,h2,h3,_,h5⟩:=eQ hp (fC.start l);refine⟨fun w hw p hpw=>?_,fun x y=>?_⟩
 ·obtain⟨d,hd⟩:=h5 w hw p hpw;exact JA hb hd
 ·show((walksFrom l [] (pointsOf l)).flatMap walkFeet).countP _<=1
  rw[h1];have nd:=nJ h3;have uniq:∀f∈F,∀g∈F,bC x y f=true->bC x y g=true->f=g:=by
   intro f hf g hg vf vg;have of:=h2 f hf;have og:=h2 g hg;obtain⟨⟨a,b⟩,d⟩:=f;obtain⟨⟨a',b'⟩,d'⟩:=g;simp[bC,Prod.ext_iff]at vf vg;obtain⟨_,w1⟩:=bA of;obtain⟨_,w2⟩:=bA og;rw[eO]at w1 w2;rcases vf with⟨e1,e2,e3⟩|⟨e1,e2,e3⟩<;>rcases vg with⟨g1,g2,g3⟩|⟨g1,g2,g3⟩
   ·subst e1 e2 e3 g1 g2 g3;rfl
   ·exfalso;subst e1 e2 e3 g1 g2 g3;simp[aX,ne,se]at w1 w2;rw[w1.2]at w2;simp at w2
   ·exfalso;subst e1 e2 e3 g1 g2 g3;simp[aX,ne,se]at w1 w2;rw[w2.2]at w1;simp at w1
   ·subst e1 e2 e3 g1 g2 g3;rfl
  have key:∀{F:List Foot},F.Nodup->(∀f∈F,∀g∈F,bC x y f=true->bC x y g=true->f=g)->F.countP (bC x y)<=1:=by
   intro F;induction F with
   |nil=>intro _ _;simp
   |cons f F ih=>
    intro nd u;obtain⟨n1,n2⟩:=bx.mp nd;rw[ft];by_cases hv:bC x y f=true
    ·have:F.countP (bC x y)=0:=by rw[List.countP_eq_zero];intro g hg vg;have:=u f (by simp) g (by simp[hg]) hv vg;exact n1 (this▸hg)
     simp[this,hv]
    ·have:=ih n2 fun a ha b hb=>u a (by simp[ha]) b (by simp[hb])
     simp[hv];omega
  exact key nd uniq
noncomputable def ID(ws:List Walk):Option Cells:=if isHouse (aR (dN ws))=true/\walksOf (aR (dN ws))=ws then some (aR (dN ws))else none
theorem tL(ws:List Walk):(fun x y=>(ws.flatMap walkFeet).any (bC x y))=dN ws:=by funext x y;exact F7 ws x y
theorem BL{t:List Int}(ht:inB t){ws:List Walk}(o:B5 ws)(e:eG t=some (iWs ws)):houseOf (RoofBNeutral.text t)=ID ws:=by
 have inj:∀{a b:List Walk},iWs a=iWs b->a=b:=by intro a b h;refine map_inj (fun x _ y _ q=>map_inj (fun p _ p' _ r=>?_) q) h;have a1:=congrArg Prod.fst r;have a2:=congrArg Prod.snd r;simp[iP]at a1 a2;exact Prod.ext (by omega) (by omega)
 have hr:readWalks (RoofBNeutral.text t)=.ok ws:=by
  cases q:readWalks (RoofBNeutral.text t)with
  |error p=>rw[E4 q]at e;cases e
  |ok v=>have:=(reads ht q).1;rw[e]at this;rw[inj (Option.some.inj this)]
 have hx:=(mX hr).2;have okp:sS ws:=fun w hw=>(o.2 w hw).2
 unfold houseOf;rw[hr];dsimp only;unfold ID;by_cases h1:isHouse (cellsIn ws)=true/\textOf (cellsIn ws)=RoofBNeutral.text t
 ·rw[ah h1];obtain⟨k1,k2⟩:=qV h1.1;have hw:walksOf (cellsIn ws)=ws:=tZ k1 okp (by rw[<- hx];exact h1.2);rw[hw]at k2;have e2:=wB k2;rw[tL]at e2;rw[<- e2,ah ⟨h1.1,hw⟩]
 ·rw[ag h1];by_cases h2:isHouse (aR (dN ws))=true/\walksOf (aR (dN ws))=ws
  ·exfalso;obtain⟨k1,k2⟩:=qV h2.1;rw[h2.2]at k2;have e2:=wB k2;rw[tL]at e2;refine h1 ⟨by rw[e2];exact h2.1,?_⟩;rw[e2,textOf,h2.2,hx]
  ·rw[ag h2]
theorem BM{t:List Int}(ht:inB t)(e:eG t=none):houseOf (RoofBNeutral.text t)=none:=by
 unfold houseOf;cases q:readWalks (RoofBNeutral.text t)with
 |error p=>rfl
 |ok v=>have:=(reads ht q).1;rw[e]at this;cases this
noncomputable def aN(p:Pl)(s:Nat):Pl:=if s=0 then(p.1,p.2 - 1)else if s=1 then(p.1+1,p.2)else if s=2 then(p.1,p.2+1)else(p.1 - 1,p.2)
theorem fZ{a b:Point}(h:iP a=iP b):a=b:=by have a1:=congrArg Prod.fst h;have a2:=congrArg Prod.snd h;simp[iP]at a1 a2;exact Prod.ext (by omega) (by omega)
theorem gR{l:Cells}{x:Cell}:iP x∈iW l↔x∈l:=by
 constructor
 ·intro h;obtain⟨y,hy,e⟩:=aw.mp h;exact fZ e▸hy
 ·exact fun h=>aw.mpr ⟨x,h,rfl⟩
theorem r9{x y:Cell}:y∈beside x↔∃s,s<4/\iP y=aN (iP x) s:=by
 obtain⟨a,b⟩:=x;obtain⟨u,v⟩:=y;constructor
 ·intro h;unfold beside at h;rw[ay,ay]at h;rcases h with h|h|h
  ·simp at h;rcases h with⟨rfl,rfl⟩|⟨rfl,rfl⟩
   ·exact⟨1,by omega,by simp[iP,aN]⟩
   ·exact⟨2,by omega,by simp[iP,aN]⟩
  ·split at h
   ·simp at h;obtain⟨rfl,rfl⟩:=h;rename_i q;exact⟨3,by omega,by simp[iP,aN];simp at q;omega⟩
   ·simp at h
  ·split at h
   ·simp at h;obtain⟨rfl,rfl⟩:=h;rename_i q;exact⟨0,by omega,by simp[iP,aN];simp at q;omega⟩
   ·simp at h
 ·rintro⟨s,hs,e⟩;have cs:s=0\/s=1\/s=2\/s=3:=by omega
  unfold beside;rw[ay,ay];rcases cs with rfl|rfl|rfl|rfl
  ·simp[iP,aN]at e;right;right;rw[ah (show 0<b by omega)];simp;omega
  ·simp[iP,aN]at e;left;simp;omega
  ·simp[iP,aN]at e;left;simp;omega
  ·simp[iP,aN]at e;right;left;rw[ah (show 0<a by omega)];simp;omega
inductive tY (l:Cells) (c:Cell):Cell->Prop where
 |refl:tY l c c
 |step {x y:Cell}:tY l c x->y∈beside x->y∈l->tY l c y
theorem A6{l:Cells}{c:Cell}{R:List Cell}(h0:c∈R)(hc:∀x∈R,∀y∈beside x,y∈l->y∈R):∀x,tY l c x->x∈R:=by
 intro x h;induction h with
 |refl=>exact h0
 |step _ h1 h2 ih=>exact hc _ ih _ h1 h2
theorem yF{α:Type}[DecidableEq α]{R l:List α}(hR:R.Nodup)(hl:l.Nodup)(hs:∀x∈R,x∈l):R.length=l.length↔∀x∈l,x∈R:=by
 constructor
 ·intro e x hx;apply Classical.byContradiction;intro hn;have:=bS (a:=R) (b:=l.erase x) hR fun y hy=>(List.mem_erase_of_ne (fun(q:y=x)=>hn (q▸hy))).mpr (hs y hy)
  rw[List.length_erase_of_mem hx]at this;have:0<l.length:=List.length_pos_of_mem hx;omega
 ·intro h;exact Nat.le_antisymm (bS hR hs) (bS hl h)
theorem jT{α:Type}[BEq α][LawfulBEq α]:∀(n:Nat)(l:List α),l.length<=n->l.eraseDups.Nodup
 |0,l,h=>by have:l=[]:=List.length_eq_zero_iff.mp (by omega);subst this;simp
 |n+1,[],h=>by simp
 |n+1,a::l,h=>by
  rw[List.eraseDups_cons];refine bx.mpr ⟨fun hm=>?_,jT n _ ?_⟩
  ·rw[List.mem_eraseDups]at hm;simp at hm
  ·have:=fy (fun b=>!b==a) l;simp at h;omega
structure DH(l:Cells)(c:Cell)(R:List Cell):Prop where
 nd:R.Nodup
 sub:∀x∈R,x∈l
 conn:∀x∈R,tY l c x
 start:c∈R
theorem uZ{l:Cells}{c:Cell}:∀(f:Nat)(seen new:List Cell),DH l c seen->(∀x∈new,x∈seen)->(∀x∈seen,x∉new->∀y∈beside x,y∈l->y∈seen)->l.length<seen.length+f ->
  DH l c (reach l f seen new)/\∀x∈reach l f seen new,∀y∈beside x,y∈l->y∈reach l f seen new
 |0,seen,new,h,_,_,hl=>by have:=bS h.nd h.sub;omega
 |f+1,seen,new,h,hn,hc,hl=>by
  have eR:reach l (f+1) seen new=(if((new.flatMap beside).filter fun(c:Cell)=>l.contains c&& !seen.contains c).eraseDups=[]then seen else
   reach l f (seen++((new.flatMap beside).filter fun(c:Cell)=>l.contains c&& !seen.contains c).eraseDups) ((new.flatMap beside).filter fun(c:Cell)=>l.contains c&& !seen.contains c).eraseDups):=rfl
  rw[eR];generalize hN:((new.flatMap beside).filter fun(c:Cell)=>l.contains c&& !seen.contains c).eraseDups=N;have hm:∀y,y∈N↔(∃x∈new,y∈beside x)/\y∈l/\y∉seen:=by intro y;rw[<- hN,List.mem_eraseDups,bw,da];simp
  have qh:N.Nodup:=hN▸jT _ _ (au _);have Cq:∀x∈seen,∀y∈beside x,y∈l->y∈seen\/y∈N:=by
   intro x hx y hy sg;by_cases hxn:x∈new
   ·by_cases hys:y∈seen
    ·exact .inl hys
    ·exact .inr ((hm y).mpr ⟨⟨x,hxn,hy⟩,sg,hys⟩)
   ·exact .inl (hc x hx hxn y hy sg)
  by_cases he:N=[]
  ·rw[ah he];refine⟨h,fun x hx y hy sg=>?_⟩;rcases Cq x hx y hy sg with q|q
   ·exact q
   ·rw[he]at q;simp at q
  ·rw[ag he];refine uZ f (seen++N) N ⟨?_,?_,?_,cc _ h.start⟩ (fun x hx=>bh _ hx) ?_ ?_
   ·rw[cv];refine⟨h.nd,qh,fun a ha b hb e=>?_⟩;exact((hm b).mp hb).2.2 (e▸ha)
   ·intro x hx;rcases ay.mp hx with hx|hx
    ·exact h.sub x hx
    ·exact((hm x).mp hx).2.1
   ·intro x hx;rcases ay.mp hx with hx|hx
    ·exact h.conn x hx
    ·obtain⟨⟨z,hz,q⟩,hl,_⟩:=(hm x).mp hx;exact .step (h.conn z (hn z hz)) q hl
   ·intro x hx hxn y hy sg;rcases ay.mp hx with hx|hx
    ·rcases Cq x hx y hy sg with q|q
     ·exact cc _ q
     ·exact bh _ q
    ·exact absurd hx hxn
   ·have:0<N.length:=fh.mpr he;rw[aq];omega
theorem E5{l:Cells}(hl:l.Nodup){c:Cell}(hc:c∈l):(reach l l.length [c] [c]).length=l.length↔∀x∈l,tY l c x:=by
 obtain⟨h,mz⟩:=uZ l.length [c] [c] (l:=l) (c:=c) ⟨by simp,by simpa using hc,by intro x hx;simp at hx;subst hx;exact .refl,by simp⟩ (by simp) (by intro x hx hn;exact absurd hx hn) (by simp);rw[yF h.nd hl h.sub];constructor
 ·exact fun q x hx=>h.conn x (q x hx)
 ·exact fun q x hx=>A6 h.start mz x (q x hx)
structure Dfs(l:Cells)(c:Cell)(reached nz:List Pl):Prop where
 nd:reached.Nodup
 sub:∀p∈reached,∃x∈l,p=iP x/\tY l c x
 wait:∀p∈nz,∀x∈l,p=iP x->tY l c x
 start:iP c∈reached\/iP c∈nz
 oX:∀p∈reached,∀s,s<4->aN p s∈iW l->aN p s∈reached\/aN p s∈nz
theorem Dfs.first{l:Cells}{c:Cell}:Dfs l c [] [iP c]:=
 ⟨by simp,by simp,by intro p hp x hx e;simp at hp;subst hp;rw[fZ e];exact .refl,.inr (by simp),by simp⟩
theorem Dfs.skip{l:Cells}{c:Cell}{reached w:List Pl}{p:Pl}(h:Dfs l c reached (w++[p]))(hc:c∈l)(hp:p∉iW l\/p∈reached):Dfs l c reached w:=by
 refine⟨h.nd,h.sub,fun q hq=>h.wait q (by simp[hq]),?_,fun q hq s hs hm=>?_⟩
 ·rcases h.start with e|e
  ·exact .inl e
  ·rcases ay.mp e with e|e
   ·exact .inr e
   ·simp at e;rcases hp with hp|hp
    ·rw[<- e]at hp;exact absurd (gR.mpr hc) hp
    ·rw[e];exact .inl hp
 ·rcases h.oX q hq s hs hm with e|e
  ·exact .inl e
  ·rcases ay.mp e with e|e
   ·exact .inr e
   ·simp at e;rcases hp with hp|hp
    ·rw[e]at hm;exact absurd hm hp
    ·rw[e];exact .inl hp
theorem Dfs.take{l:Cells}{c:Cell}{reached w:List Pl}{p:Pl}(h:Dfs l c reached (w++[p]))(hp:p∈iW l)(hn:p∉reached):
  Dfs l c (reached++[p]) (w++[aN p 0,aN p 1,aN p 2,aN p 3]):=by
 obtain⟨x,hx,e⟩:=aw.mp hp;have hcx:tY l c x:=h.wait p (by simp) x hx e.symm;refine⟨?_,?_,?_,?_,?_⟩
 ·rw[cv];refine⟨h.nd,by simp,fun a ha b hb=>?_⟩;simp at hb;subst hb;intro q;exact hn (q▸ha)
 ·intro q hq;rcases ay.mp hq with hq|hq
  ·exact h.sub q hq
  ·simp at hq;exact⟨x,hx,by rw[hq,e],hcx⟩
 ·intro q hq y hy ey;rcases ay.mp hq with hq|hq
  ·exact h.wait q (by simp[hq]) y hy ey
  ·have:y∈beside x:=by
    rw[r9];simp at hq;rcases hq with q0|q0|q0|q0
    ·exact⟨0,by omega,by rw[e,<- ey,q0]⟩
    ·exact⟨1,by omega,by rw[e,<- ey,q0]⟩
    ·exact⟨2,by omega,by rw[e,<- ey,q0]⟩
    ·exact⟨3,by omega,by rw[e,<- ey,q0]⟩
   exact .step hcx this hy
 ·rcases h.start with q|q
  ·exact .inl (by simp[q])
  ·rcases ay.mp q with q|q
   ·exact .inr (by simp[q])
   ·simp at q;exact .inl (by simp[q])
 ·intro q hq s hs hm;rcases ay.mp hq with hq|hq
  ·rcases h.oX q hq s hs hm with r|r
   ·exact .inl (by simp[r])
   ·rcases ay.mp r with r|r
    ·exact .inr (by simp[r])
    ·simp at r;exact .inl (by simp[r])
  ·simp at hq;subst hq;have cs:s=0\/s=1\/s=2\/s=3:=by omega
   right;rcases cs with rfl|rfl|rfl|rfl<;>simp
theorem Dfs.len{l:Cells}{c:Cell}{reached w:List Pl}(h:Dfs l c reached w):reached.length<=l.length:=by
 have:=bS (b:=iW l) h.nd fun p hp=>by obtain⟨x,hx,e,_⟩:=h.sub p hp;rw[e];exact gR.mpr hx
 simpa[iW]using this
theorem Dfs.done{l:Cells}(hl:l.Nodup){c:Cell}(hc:c∈l){reached:List Pl}(h:Dfs l c reached []):decide (reached.length=l.length)=((reach l l.length [c] [c]).length==l.length):=by
 have e1:(iW l).length=l.length:=by simp[iW]
 have nd:(iW l).Nodup:=d6 hl fun x _ y _ e=>fZ e
 have k1:=yF (R:=reached) (l:=iW l) h.nd nd fun p hp=>by obtain⟨x,hx,e,_⟩:=h.sub p hp;rw[e];exact gR.mpr hx
 rw[e1]at k1;have k2:=E5 hl hc;have k3:(∀x∈iW l,x∈reached)↔∀x∈l,tY l c x:=by
  constructor
  ·intro q x hx;obtain⟨y,hy,e,hcy⟩:=h.sub _ (q (iP x) (gR.mpr hx));rw[fZ e];exact hcy
  ·intro q p hp;obtain⟨x,hx,rfl⟩:=aw.mp hp;have key:∀x,tY l c x->iP x∈reached:=by
    intro x hcx;induction hcx with
    |refl=>
     rcases h.start with r|r
     ·exact r
     ·simp at r
    |step _ h1 h2 ih=>
     obtain⟨s,hs,e⟩:=r9.mp h1;rcases h.oX _ ih s hs (by rw[<- e];exact gR.mpr h2)with r|r
     ·rw[e];exact r
     ·simp at r
   exact key x (q x hx)
 rw[ck];simp only[decide_eq_true_eq,beq_iff_eq];rw[k1,k3,k2]
noncomputable def aZ(l:Cells)(p:Pl)(s:Nat):Bool:=!decide (aN p s∈iW l)&& (!decide (aN p ((s+1)%4)∈iW l)&& decide (aN (aN p s) ((s+1)%4)∈iW l))
theorem mD{l:Cells}{x y:Int}:(x,y)∈iW l↔inI l x y=true:=by
 constructor
 ·intro h;obtain⟨c,hc,e⟩:=aw.mp h;have a1:=congrArg Prod.fst e;have a2:=congrArg Prod.snd e;simp[iP]at a1 a2;rw[<- a1,<- a2,cC];simpa using hc
 ·intro h;obtain⟨h1,h2,h3⟩:=bO h;refine aw.mpr ⟨_,h3,?_⟩;simp[iP];omega
theorem jN{l:Cells}{x y:Int}:decide ((x,y)∈iW l)=inI l x y:=by rw[ck,decide_eq_true_eq];exact mD
theorem AY{l:Cells}:pinched l=(iW l).any fun p=>aZ l p 0||(aZ l p 1||(aZ l p 2||aZ l p 3)):=by
 have m0:∀x y:Int,aZ l (x,y) 0=(!inI l x (y - 1)&& (!inI l (x+1) y&& inI l (x+1) (y - 1))):=by intro x y;simp only[aZ,aN];simp only[jN,ah,ag (show¬((0+1)%4=0) by decide),ah (show(0+1)%4=1 by decide)]
 have m1:∀x y:Int,aZ l (x,y) 1=(!inI l (x+1) y&& (!inI l x (y+1)&& inI l (x+1) (y+1))):=by intro x y;simp[aZ,aN,jN]
 have m2:∀x y:Int,aZ l (x,y) 2=(!inI l x (y+1)&& (!inI l (x - 1) y&& inI l (x - 1) (y+1))):=by intro x y;simp[aZ,aN,jN]
 have m3:∀x y:Int,aZ l (x,y) 3=(!inI l (x - 1) y&& (!inI l x (y - 1)&& inI l (x - 1) (y - 1))):=by intro x y;simp[aZ,aN,jN]
 rw[ck];constructor
 ·intro h;obtain⟨⟨a,b⟩,hc,q⟩:=dz.mp h;refine dz.mpr ⟨iP (a,b),gR.mpr hc,?_⟩;show(aZ l ((a:Int),(b:Int)) 0||(aZ l ((a:Int),(b:Int)) 1||(aZ l ((a:Int),(b:Int)) 2||aZ l ((a:Int),(b:Int)) 3)))=true
  rw[m1,m2];rw[gy]at q;rcases q with q|q
  ·simp only[dh,not_eq_true',Bool.or_eq_false_iff]at q;have b1:inI l ((a:Int)+1) ((b:Int)+1)=true:=by have:=cC l (a+1) (b+1);rw[q.1]at this;simpa using this
   have b2:inI l ((a:Int)+1) b=false:=by have:=cC l (a+1) b;rw[q.2.1]at this;simpa using this
   have b3:inI l (a:Int) ((b:Int)+1)=false:=by have:=cC l a (b+1);rw[q.2.2]at this;simpa using this
   simp[b1,b2,b3]
  ·simp only[dh,not_eq_true',Bool.or_eq_false_iff,decide_eq_true_eq]at q;obtain⟨q0,q1,q2,q3⟩:=q;have e:((a - 1:Nat):Int)=(a:Int) - 1:=by have:0<a:=q0;omega
   have b1:inI l ((a:Int) - 1) ((b:Int)+1)=true:=by have:=cC l (a - 1) (b+1);rw[q1,e]at this;simpa using this
   have b2:inI l ((a:Int) - 1) b=false:=by have:=cC l (a - 1) b;rw[q2,e]at this;simpa using this
   have b3:inI l (a:Int) ((b:Int)+1)=false:=by have:=cC l a (b+1);rw[q3]at this;simpa using this
   simp[b1,b2,b3]
 ·intro h;obtain⟨p,hp,q⟩:=dz.mp h;cases hb:pinched l with
  |true=>rfl
  |false=>
   exfalso;obtain⟨x,y⟩:=p;have hp:=mD.mp hp;rw[m0,m1,m2,m3]at q;simp only[gy,dh,not_eq_true']at q;rcases q with⟨q1,q2,q3⟩|⟨q1,q2,q3⟩|⟨q1,q2,q3⟩|⟨q1,q2,q3⟩
   ·
    refine(gK hb (x+1) y).2 ⟨?_,?_,?_,?_⟩
    ·rw[nw,show x+1 - 1=x by omega];exact hp
    ·exact q3
    ·exact q2
    ·rw[sw,show x+1 - 1=x by omega];exact q1
   ·refine(gK hb (x+1) (y+1)).1 ⟨?_,?_,?_,?_⟩
    ·rw[sw,show x+1 - 1=x by omega,show y+1 - 1=y by omega];exact hp
    ·exact q3
    ·rw[se,show y+1 - 1=y by omega];exact q1
    ·rw[nw,show x+1 - 1=x by omega];exact q2
   ·refine(gK hb x (y+1)).2 ⟨?_,?_,?_,?_⟩
    ·exact q3
    ·rw[se,show y+1 - 1=y by omega];exact hp
    ·exact q1
    ·rw[sw,show y+1 - 1=y by omega];exact q2
   ·refine(gK hb x y).1 ⟨?_,?_,?_,?_⟩
    ·exact q3
    ·exact hp
    ·exact q2
    ·exact q1
theorem sG:∀{l:Cells},rising l=true↔l.Pairwise fun a b=>before a b=true
 |[]=>by simp[rising]
 |[a]=>by simp[rising]
 |a::b::r=>by
  have ih:=sG (l:=b::r);unfold rising;rw[dh,ih,ff (l:=b::r)];constructor
  ·rintro⟨h1,h2⟩;refine⟨fun x hx=>?_,h2⟩;rcases ao.mp hx with rfl|hx
   ·exact h1
   ·exact jO h1 ((ff.mp h2).1 x hx)
  ·rintro⟨h1,h2⟩;exact⟨h1 b (by simp),h2⟩
theorem gW{F:Nat->Nat->Bool}{c:Cell}:c∈aR F↔c.1<64/\c.2<64/\bW F c.2 c.1=true:=by
 unfold aR SIDE;simp only[da,bw,aw,iq];constructor
 ·rintro⟨y,hy,⟨x,hx,rfl⟩,h⟩;exact⟨hx,hy,h⟩
 ·rintro⟨h1,h2,h3⟩;exact⟨c.2,h2,⟨c.1,h1,rfl⟩,h3⟩
theorem m9(F:Nat->Nat->Bool):(aR F).Pairwise fun a b=>before a b=true:=by
 unfold aR;rw[List.pairwise_flatMap];refine⟨fun y _=>?_,?_⟩
 ·refine List.Pairwise.filter _ ?_;rw[iy];refine List.Pairwise.imp (fun{a b} h=>?_) List.pairwise_lt_range;rw[cN];exact .inr ⟨rfl,h⟩
 ·refine List.Pairwise.imp (fun{a b} h=>?_) List.pairwise_lt_range;intro x hx y hy;simp only[bw,aw]at hx hy;obtain⟨⟨i,_,rfl⟩,_⟩:=hx;obtain⟨⟨j,_,rfl⟩,_⟩:=hy;rw[cN];exact .inl h
theorem tD{F:Nat->Nat->Bool}{c:Cell}{r:Cells}(e:aR F=c::r):
  isHouse (aR F)=(decide ((aR F).length<=256)&& (!pinched (aR F)&& ((reach (aR F) (aR F).length [c] [c]).length==(aR F).length))):=by
 have h1:(aR F).all Roof.within=true:=ig.mpr fun x hx=>by have:=gW.mp hx;simp[Roof.within,SIDE];exact⟨decide_eq_true this.1,decide_eq_true this.2.1⟩
 have h2:=sG.mpr (m9 F);rw[e]at h1 h2 ⊢;show(decide ((c::r).length<=CELLS)&& ((c::r).all Roof.within&& (rising (c::r)&& ((reach (c::r) (c::r).length [c] [c]).length==(c::r).length&& !pinched (c::r)))))=_
 rw[h1,h2,Bool.true_and,Bool.true_and,Bool.and_comm (!pinched (c::r))];rfl
theorem zE:isHouse []=false:=rfl
def hP(r:Nat):Pl:=((iOf r:Int),(jOf r:Int))
def okR(r:Nat):Prop:=∃i j,i<128/\j<128/\r=raw i j
theorem D5{i j:Nat}(hi:i<128):iOf (raw i j)=i:=by unfold iOf raw W;omega
theorem CY{i j:Nat}(hi:i<128):jOf (raw i j)=j:=by unfold jOf raw W;omega
theorem dM{i j:Nat}(hi:i<128):hP (raw i j)=((i:Int),(j:Int)):=by unfold hP;rw[D5 hi,CY hi]
theorem pS{r q:Nat}(hr:okR r)(hq:okR q)(e:hP r=hP q):r=q:=by
 obtain⟨i,j,hi,hj,rfl⟩:=hr;obtain⟨i',j',hi',xb,rfl⟩:=hq;rw[dM hi,dM hi']at e;have a:=congrArg Prod.fst e;have b:=congrArg Prod.snd e;simp at a b;have a:i=i':=by omega
 have b:j=j':=by omega
 rw[a,b]
theorem HK{r:Nat}(h:okR r):r<W*W:=by obtain⟨i,j,hi,hj,rfl⟩:=h;unfold raw W;omega
theorem JX{L:List Nat}(hL:∀q∈L,okR q){r q:Nat}(hr:okR r){dx dy:Int}(h1:-1<=dx/\dx<=1)(h2:-1<=dy/\dy<=1)(hq:(q:Int)=r+130*dy+dx):
  q∈L↔((hP r).1+dx,(hP r).2+dy)∈L.map hP:=by
 obtain⟨i,j,hi,hj,rfl⟩:=hr;rw[dM hi];constructor
 ·intro h;refine aw.mpr ⟨q,h,?_⟩;obtain⟨i',j',hi',xb,e⟩:=hL q h;rw[e,dM hi'];unfold raw W at e hq;apply Prod.ext
  ·simp;omega
  ·simp;omega
 ·intro h;obtain⟨z,hz,e⟩:=aw.mp h;obtain⟨i',j',hi',xb,ez⟩:=hL z hz;rw[ez,dM hi']at e;have a:=congrArg Prod.fst e;have b:=congrArg Prod.snd e;simp at a b;have:z=q:=by rw[ez];unfold raw W at hq ⊢;omega
  rw[<- this];exact hz
noncomputable def aY(h:List Nat):Nat->List Nat
 |0=>h
 |k+1=>(aY h k).filter fun r=>(about r).all fun q=>(aY h k).contains q
noncomputable def f7(p:Pl):List Pl:=[(p.1+-1,p.2+-1),(p.1+0,p.2+-1),(p.1+1,p.2+-1),(p.1+-1,p.2+0),(p.1+1,p.2+0),(p.1+-1,p.2+1),(p.1+0,p.2+1),(p.1+1,p.2+1)]
noncomputable def aU(hs:List Pl):Nat->List Pl
 |0=>hs
 |k+1=>(aU hs k).filter fun p=>(f7 p).all fun q=>(aU hs k).contains q
theorem kI(h:List Nat):∀k,∀r∈aY h k,r∈h
 |0,r,hr=>hr
 |k+1,r,hr=>kI h k r (bw.mp hr).1
theorem jG{h:List Nat}(hh:∀r∈h,okR r)(k:Nat):∀r∈aY h k,okR r:=fun r hr=>hh r (kI h k r hr)
theorem G0{L:List Nat}(hL:∀q∈L,okR q){r:Nat}(hr:okR r):((about r).all fun q=>L.contains q)=(f7 (hP r)).all fun q=>(L.map hP).contains q:=by
 obtain⟨i,j,hi,hj,e⟩:=id hr;have key:∀{q:Nat}{dx dy:Int},(-1<=dx/\dx<=1)->(-1<=dy/\dy<=1)->((q:Int)=r+130*dy+dx)->L.contains q=(L.map hP).contains ((hP r).1+dx,(hP r).2+dy):=by intro q dx dy h1 h2 hq;rw[ck];simp only[List.contains_iff_mem];exact JX hL hr h1 h2 hq
 have tu:131<=r:=by rw[e];unfold raw W;omega
 simp only[about,f7,List.all_cons,List.all_nil];rw[key (dx:=-1) (dy:=-1) (by omega) (by omega) (by unfold W;omega),key (dx:=0) (dy:=-1) (by omega) (by omega) (by unfold W;omega),key (dx:=1) (dy:=-1) (by omega) (by omega) (by unfold W;omega),
  key (dx:=-1) (dy:=0) (by omega) (by omega) (by omega),key (dx:=1) (dy:=0) (by omega) (by omega) (by omega),
  key (dx:=-1) (dy:=1) (by omega) (by omega) (by unfold W;omega),key (dx:=0) (dy:=1) (by omega) (by omega) (by unfold W;omega),key (dx:=1) (dy:=1) (by omega) (by omega) (by unfold W;omega)]
theorem dJ{h:List Nat}(hh:∀r∈h,okR r):∀k,aU (h.map hP) k=(aY h k).map hP
 |0=>rfl
 |k+1=>by
  have ih:=dJ hh k;show(aU (h.map hP) k).filter _=((aY h k).filter _).map hP
  rw[ih,List.filter_map];have e:=filter_congr (l:=aY h k) (p:=(fun p=>(f7 p).all fun q=>((aY h k).map hP).contains q)∘hP) (q:=fun r=>(about r).all fun q=>(aY h k).contains q) fun r hr=>(G0 (jG hh k) (jG hh k r hr)).symm
  rw[e]
theorem mE{h:List Nat}(hh:∀r∈h,okR r):∀k,∀p∈aU (h.map hP) k,(k:Int)<=p.1/\p.1+k<=127
 |0,p,hp=>by obtain⟨r,hr,rfl⟩:=aw.mp hp;obtain⟨i,j,hi,hj,rfl⟩:=hh r hr;rw[dM hi];simp;omega
 |k+1,p,hp=>by obtain⟨h1,h2⟩:=bw.mp hp;simp only[ig,List.contains_iff_mem]at h2;have a:=mE hh k _ (h2 (p.1+-1,p.2+0) (by simp[f7]));have b:=mE hh k _ (h2 (p.1+1,p.2+0) (by simp[f7]));simp at a b;simp;omega
theorem fH{h:List Nat}(hh:∀r∈h,okR r){k:Nat}(hk:64<=k):aY h k=[]:=by
 have:=mE hh k;rw[dJ hh]at this;cases e:aY h k with
 |nil=>rfl
 |cons r t=>rw[e]at this;have:=this (hP r) (by simp);omega
theorem qS{h:List Nat}{k:Nat}(e:aY h k=[]):∀m,k<=m->aY h m=[]
 |0,hm=>by
  have:k=0:=by omega
  rw[<- this];exact e
 |m+1,hm=>by
  by_cases hk:k=m+1
  ·rw[<- hk];exact e
  ·show(aY h m).filter _=[]
   rw[qS e m (by omega)];rfl
noncomputable def gv(h:List Nat):Nat->Nat->Nat
 |0,_=>0
 |k+1,r=>if r∈aY h k then k+1 else gv h k r
theorem LG(h:List Nat):∀k r,gv h k r<=k
 |0,r=>au _
 |k+1,r=>by
  unfold gv;split
  ·exact au _
  ·exact Nat.le_succ_of_le (LG h k r)
theorem MP{h:List Nat}{k r:Nat}:k+1<=gv h (k+1) r↔r∈aY h k:=by
 show k+1<=(if r∈aY h k then k+1 else gv h k r)↔ _
 split
 ·rename_i q;simp[q]
 ·rename_i q;have:=LG h k r;simp[q];omega
theorem nQ{h:List Nat}{k:Nat}(e:aY h k=[])(r:Nat):∀m,k<=m->gv h m r=gv h k r
 |0,hm=>by
  have:k=0:=by omega
  rw[this]
 |m+1,hm=>by
  by_cases hk:k=m+1
  ·rw[hk]
  ·show(if r∈aY h m then m+1 else gv h m r)=_
   rw[qS e m (by omega),ag (by simp)];exact nQ e r m (by omega)
theorem sN(k:Nat):∀(l:List Nat)(g:Grid),(put g k l).size=g.size
 |[],g=>rfl
 |r::l,g=>by
  show(put (g.setIfInBounds r k) k l).size=_
  rw[sN k l];simp
theorem wV(k:Nat):∀(l:List Nat)(g:Grid)(r:Nat),(∀x∈l,x<g.size)->(put g k l).val r=if r∈l then k else g.val r
 |[],g,r,_=>by simp[put]
 |x::l,g,r,h=>by
  show(put (g.setIfInBounds x k) k l).val r=_
  rw[wV k l _ r fun y hy=>by simpa using h y (by simp[hy])];have hx:=h x (by simp);by_cases h1:r∈l
  ·simp[h1]
  ·rw[ag h1];by_cases h2:r=x
   ·subst h2;simp only[ao,true_or,if_true];simp[Grid.val,de,hx]
   ·have h3:¬r∈x::l:=by simp[h1,h2]
    rw[ag h3];unfold Grid.val;simp only[de,ja];rw[ag (fun e=>h2 e.symm)]
theorem yD{h:List Nat}(hh:∀r∈h,okR r):∀(f k:Nat)(g:Grid),g.size=W*W->(∀r,g.val r=gv h (k+1) r)->64<=f+k->∀r,(sink f (k+1) (aY h k) g).val r=gv h (f+k+1) r
 |0,k,g,hs,hg,hk,r=>by
  show g.val r=_
  rw[hg];simp
 |f+1,k,g,hs,hg,hk,r=>by
  have en:((aY h k).filter fun(r:Nat)=>(about r).all fun(q:Nat)=>decide (k+1<=g.val q))=aY h (k+1):=by
   show _=(aY h k).filter _
   refine filter_congr fun r hr=>?_
   congr 1;funext q;rw[ck,decide_eq_true_eq,List.contains_iff_mem,hg];exact MP
  show(if((aY h k).filter fun(r:Nat)=>(about r).all fun(q:Nat)=>decide (k+1<=g.val q)).isEmpty=true then g else sink f (k+1+1) ((aY h k).filter fun(r:Nat)=>(about r).all fun(q:Nat)=>decide (k+1<=g.val q)) (put g (k+1+1) ((aY h k).filter fun(r:Nat)=>(about r).all fun(q:Nat)=>decide (k+1<=g.val q)))).val r=_
  rw[en];by_cases he:(aY h (k+1)).isEmpty=true
  ·rw[ah he,hg];exact(nQ (List.isEmpty_iff.mp he) r _ (by omega)).symm
  ·rw[ag he];have lt:∀x∈aY h (k+1),x<g.size:=fun x hx=>by rw[hs];exact HK (jG hh _ x hx)
   rw[yD hh f (k+1) _ (by rw[sN,hs]) (fun x=>?_) (by omega) r]
   ·congr 1;omega
   ·rw[wV _ _ _ _ lt,hg];rfl
theorem zQ{h:List Nat}(hh:∀r∈h,okR r){n:Nat}(hn:aY h n=[])(r:Nat):(gridOf h).val r=gv h n r:=by
 unfold gridOf HALVES;have e:(put (Array.replicate (W*W) 0) 1 h).size=W*W:=by rw[sN];simp
 have lt:∀x∈h,x<(Array.replicate (W*W) (0:Nat)).size:=fun x hx=>by have:=HK (hh x hx);simpa using this
 have z:∀r,Grid.val (Array.replicate (W*W) 0) r=0:=by intro r;unfold Grid.val;rw[de,Array.getElem?_replicate];split<;>rfl
 have:=yD hh 128 0 (put (Array.replicate (W*W) 0) 1 h) e (fun r=>by rw[wV _ _ _ _ lt,z];rfl) (by omega) r;show(sink 128 (0+1) (aY h 0) _).val r=_
 rw[this];have Ah:=fH hh (au 64);rw[nQ Ah r _ (by omega)];by_cases hc:n<=64
 ·exact nQ hn r 64 hc
 ·exact(nQ Ah r n (by omega)).symm
noncomputable def lY(hs:List Pl):Nat->Pl->Int
 |0,_=>-1
 |k+1,p=>if p∈aU hs k then k else lY hs k p
theorem D9{h:List Nat}(hh:∀r∈h,okR r){r:Nat}(hr:okR r):∀k,lY (h.map hP) k (hP r)=(gv h k r:Int) - 1
 |0=>rfl
 |k+1=>by
  have ih:=D9 hh hr k;have e:hP r∈aU (h.map hP) k↔r∈aY h k:=by
   rw[dJ hh];constructor
   ·intro q;obtain⟨z,hz,e⟩:=aw.mp q;rw[<- pS (jG hh k z hz) hr e];exact hz
   ·exact fun q=>aw.mpr ⟨r,q,rfl⟩
  show(if hP r∈aU (h.map hP) k then(k:Int)else lY (h.map hP) k (hP r))=((if r∈aY h k then k+1 else gv h k r:Nat):Int) - 1
  by_cases q:r∈aY h k
  ·rw[ah (e.mpr q),ah q];omega
  ·rw[ag (fun z=>q (e.mp z)),ag q,ih]
theorem vW{h:List Nat}(hh:∀r∈h,okR r){n:Nat}(hn:aU (h.map hP) n=[]){r:Nat}(hr:okR r):lY (h.map hP) n (hP r)=((gridOf h).val r:Int) - 1:=by rw[dJ hh,List.map_eq_nil_iff]at hn;rw[D9 hh hr,zQ hh hn]
theorem xG{h:List Nat}(hh:∀r∈h,okR r){r:Nat}:0<(gridOf h).val r↔r∈h:=by
 have Ah:=fH hh (au 64);rw[zQ hh Ah];have key:∀k,0<gv h (k+1) r↔r∈h:=by
  intro k;induction k with
  |zero=>
   show 0<(if r∈h then 0+1 else 0)↔ _
   split<;>simp_all
  |succ k ih=>
   show 0<(if r∈aY h (k+1)then k+1+1 else gv h (k+1) r)↔ _
   split
   ·rename_i q;simp[kI h _ r q]
   ·exact ih
 exact key 63
theorem IG{h:List Nat}(hh:∀r∈h,okR r){r:Nat}(hr:r∉h):(gridOf h).val r=0:=by
 have:¬0<(gridOf h).val r:=fun q=>hr ((xG hh).mp q)
 omega
noncomputable def qN(l:Cells):List Nat:=l.flatMap fun(c:Cell)=>[raw (2*c.1) (2*c.2),raw (2*c.1+1) (2*c.2),raw (2*c.1) (2*c.2+1),raw (2*c.1+1) (2*c.2+1)]
theorem BO{l:Cells}{r:Nat}:r∈halvesOf l↔r∈qN l:=by unfold halvesOf;rw[List.mem_mergeSort];rfl
theorem dR{l:Cells}(hb:∀c∈l,c.1<64/\c.2<64):∀r∈halvesOf l,okR r:=by
 intro r hr;rw[BO]at hr;obtain⟨c,hc,h⟩:=da.mp hr;have b:=hb c hc;simp at h;rcases h with rfl|rfl|rfl|rfl
 ·exact⟨_,_,by omega,by omega,rfl⟩
 ·exact⟨_,_,by omega,by omega,rfl⟩
 ·exact⟨_,_,by omega,by omega,rfl⟩
 ·exact⟨_,_,by omega,by omega,rfl⟩
theorem yI{l:Cells}(hl:l.Nodup)(hb:∀c∈l,c.1<64/\c.2<64):(qN l).Nodup:=by
 induction l with
 |nil=>simp[qN]
 |cons c l ih=>
  obtain⟨n1,n2⟩:=bx.mp hl;have e:qN (c::l)=[raw (2*c.1) (2*c.2),raw (2*c.1+1) (2*c.2),raw (2*c.1) (2*c.2+1),raw (2*c.1+1) (2*c.2+1)]++qN l:=rfl;rw[e,cv];have b:=hb c (by simp);refine⟨?_,ih n2 fun x hx=>hb x (by simp[hx]),?_⟩
  ·simp[raw,W];omega
  ·intro a ha z hz e2;obtain⟨c',ue,h⟩:=da.mp hz;have b':=hb c' (by simp[ue]);have:c=c':=by
    subst e2;simp[raw,W]at h ha;apply Prod.ext
    ·omega
    ·omega
   exact n1 (this▸ue)
theorem fL{l:Cells}(hl:l.Nodup)(hb:∀c∈l,c.1<64/\c.2<64):(halvesOf l).Pairwise (· < ·):=by
 have h1:(halvesOf l).Pairwise fun a b=>decide (a<=b)=true:=List.pairwise_mergeSort (le:=fun(a b:Nat)=>decide (a<=b)) (by intro a b c h1 h2;simp at*;omega) (by intro a b;simp;omega) _
 have h2:(halvesOf l).Nodup:=(List.mergeSort_perm _ _).nodup_iff.mpr (yI hl hb);have h3:(halvesOf l).Pairwise fun a b=>decide (a<=b)=true/\a≠b:=List.pairwise_and_iff.mpr ⟨h1,h2⟩
 exact h3.imp fun{a b} ⟨q1,q2⟩=>by simp at q1;omega
def CJ(a b:Pl):Prop:=a.2<b.2\/(a.2=b.2/\a.1<b.1)
def gB(a b:Pl):Prop:=a.2<b.2\/(a.2=b.2/\a.1<=b.1)
theorem sD{a b:Pl}(h1:gB a b)(h2:gB b a):a=b:=by unfold gB at*;exact Prod.ext (by omega) (by omega)
theorem zP{l:Cells}(hl:l.Nodup)(hb:∀c∈l,c.1<64/\c.2<64):((halvesOf l).map hP).Pairwise gB:=by
 rw[iy];refine(fL hl hb).imp_of_mem fun{a b} ha qi h=>?_
 obtain⟨i,j,hi,hj,rfl⟩:=dR hb a ha;obtain⟨i',j',hi',xb,rfl⟩:=dR hb b qi;rw[dM hi,dM hi'];unfold gB;unfold raw W at h;simp;omega
noncomputable def fV(cs:List Pl):List Pl:=cs.flatMap fun c=>[(2*c.1+0,2*c.2+0),(2*c.1+1,2*c.2+0),(2*c.1+0,2*c.2+1),(2*c.1+1,2*c.2+1)]
theorem E7{l:Cells}(hb:∀c∈l,c.1<64/\c.2<64):fV (iW l)=(qN l).map hP:=by
 induction l with
 |nil=>rfl
 |cons c l ih=>have b:=hb c (by simp);have e:qN (c::l)=[raw (2*c.1) (2*c.2),raw (2*c.1+1) (2*c.2),raw (2*c.1) (2*c.2+1),raw (2*c.1+1) (2*c.2+1)]++qN l:=rfl;have e2:fV (iW (c::l))=[(2*(c.1:Int)+0,2*(c.2:Int)+0),(2*(c.1:Int)+1,2*(c.2:Int)+0),(2*(c.1:Int)+0,2*(c.2:Int)+1),(2*(c.1:Int)+1,2*(c.2:Int)+1)]++fV (iW l):=rfl;rw[e,e2,ih fun x hx=>hb x (by simp[hx]),cg];congr 1;simp only[bf,ie];rw[dM (by omega),dM (by omega),dM (by omega),dM (by omega)];simp
theorem uI{l:Cells}(hl:l.Nodup)(hb:∀c∈l,c.1<64/\c.2<64){ys:List Pl}(hp:ys.Perm (fV (iW l)))(hs:ys.Pairwise gB):ys=(halvesOf l).map hP:=by refine List.Perm.eq_of_pairwise (le:=gB) (fun a b _ _=>sD) hs (zP hl hb) (hp.trans ?_);rw[E7 hb];exact(List.mergeSort_perm _ _).symm.map hP
def cY(h:List Nat)(p:Pl):Int:=if p∈h.map hP then lY (h.map hP) 64 p else -1
theorem IF{h:List Nat}(hh:∀r∈h,okR r){X Y:Nat}(hX:X<=129):(((X:Int) - 1,(Y:Int) - 1)∈h.map hP)↔W*Y+X∈h:=by
 constructor
 ·intro q;obtain⟨r,hr,e⟩:=aw.mp q;obtain⟨i,j,hi,hj,rfl⟩:=hh r hr;rw[dM hi]at e;have a:=congrArg Prod.fst e;have b:=congrArg Prod.snd e;simp at a b;have:W*Y+X=raw i j:=by unfold raw W;omega
  rw[this];exact hr
 ·intro q;refine aw.mpr ⟨_,q,?_⟩;obtain⟨i,j,hi,hj,e⟩:=hh _ q;rw[e,dM hi];unfold raw W at e;apply Prod.ext
  ·simp;omega
  ·simp;omega
theorem oA{h:List Nat}(hh:∀r∈h,okR r){X Y:Nat}(hX:X<=129):cY h ((X:Int) - 1,(Y:Int) - 1)=((gridOf h).val (W*Y+X):Int) - 1:=by
 unfold cY;by_cases q:((X:Int) - 1,(Y:Int) - 1)∈h.map hP
 ·rw[ah q];have m:=(IF hh hX).mp q;have o:=hh _ m;have e:hP (W*Y+X)=((X:Int) - 1,(Y:Int) - 1):=by
   obtain⟨i,j,hi,hj,e⟩:=o;rw[e,dM hi];unfold raw W at e;apply Prod.ext
   ·simp;omega
   ·simp;omega
  rw[<- e];exact vW hh (by rw[dJ hh,fH hh (au 64)];rfl) o
 ·rw[ag q,IG hh fun m=>q ((IF hh hX).mpr m)];rfl
theorem vZ{h:List Nat}(hh:∀r∈h,okR r){r:Nat}(hr:r∈h):cY h (hP r)=((gridOf h).val r:Int) - 1:=by unfold cY;rw[ah (aw.mpr ⟨r,hr,rfl⟩)];exact vW hh (by rw[dJ hh,fH hh (au 64)];rfl) (hh r hr)
noncomputable def dU(h:List Nat)(p:Pl):List Int:=[cY h (p.1+-1,p.2+-1)+1,cY h (p.1+0,p.2+-1)+1,cY h (p.1+-1,p.2+0)+1,cY h (p.1+0,p.2+0)+1]
theorem CA{h:List Nat}(hh:∀r∈h,okR r){X Y:Nat}(hX:X<=128):dU h ((X:Int),(Y:Int))=
  [((gridOf h).val (W*Y+X):Int),((gridOf h).val (W*Y+X+1):Int),((gridOf h).val (W*(Y+1)+X):Int),((gridOf h).val (W*(Y+1)+X+1):Int)]:=by
 have a:=oA hh (X:=X) (Y:=Y) (by omega);have b:=oA hh (X:=X+1) (Y:=Y) (by omega);have c:=oA hh (X:=X) (Y:=Y+1) (by omega);have d:=oA hh (X:=X+1) (Y:=Y+1) (by omega);have e1:(((X+1:Nat):Int) - 1)=(X:Int)+0:=by omega
 have e2:(((Y+1:Nat):Int) - 1)=(Y:Int)+0:=by omega
 rw[e1]at b d;rw[e2]at c d;have s1:(X:Int)+-1=(X:Int) - 1:=rfl;have s2:(Y:Int)+-1=(Y:Int) - 1:=rfl;unfold dU;simp only[s1,s2];rw[a,b,c,d];simp[Nat.add_assoc]
theorem B9{a b c d:Nat}{m:Int}(hm:m∈[(a:Int),(b:Int),(c:Int),(d:Int)])(oo:∀x∈[(a:Int),(b:Int),(c:Int),(d:Int)],m<=x):m=((min (min a b) (min c d):Nat):Int):=by have h1:=oo a (by simp);have h2:=oo b (by simp);have h3:=oo c (by simp);have h4:=oo d (by simp);simp at hm;omega
theorem F1{h:List Nat}(hh:∀r∈h,okR r){X Y:Nat}(hX:X<=128){m:Int}(hm:m∈dU h ((X:Int),(Y:Int)))(oo:∀x∈dU h ((X:Int),(Y:Int)),m<=x):m=(heightAt (gridOf h) X Y:Int):=by rw[CA hh hX]at hm oo;exact B9 hm oo
abbrev T3:=Int×Int×Int
def tP(t:Nat):T3:=((iOf (t/4):Int),(jOf (t/4):Int),((t%4:Nat):Int))
theorem dF{h:List Nat}{t:Nat}:t∈trianglesOf h↔t/4∈h:=by
 unfold trianglesOf;rw[da];constructor
 ·rintro⟨r,hr,q⟩;simp at q;have:t/4=r:=by omega
  rw[this];exact hr
 ·intro q;refine⟨_,q,?_⟩;simp;omega
theorem LQ{h:List Nat}(hh:∀r∈h,okR r){t u:Nat}(ht:t∈trianglesOf h)(hu:u∈trianglesOf h)(e:tP t=tP u):t=u:=by have a1:=congrArg (fun z=>z.1) e;have a2:=congrArg (fun z=>z.2.1) e;have a3:=congrArg (fun z=>z.2.2) e;simp[tP]at a1 a2 a3;have:t/4=u/4:=pS (hh _ (dF.mp ht)) (hh _ (dF.mp hu)) (by unfold hP;rw[show iOf (t/4)=iOf (u/4) by omega,show jOf (t/4)=jOf (u/4) by omega]);omega
noncomputable def aM(p:Pl)(c:Nat):Pl:=if c%4=0 then(p.1+0,p.2+0)else if c%4=1 then(p.1+1,p.2+0)else if c%4=2 then(p.1+1,p.2+1)else(p.1+0,p.2+1)
theorem mJ(r c:Nat):aM (hP r) c=iP (cornerOf r c):=by
 unfold aM cornerOf hP iP;dsimp only;by_cases h0:c%4=0
 ·simp[h0]
 ·by_cases h1:c%4=1
  ·simp[h0,h1]
  ·by_cases h2:c%4=2
   ·simp[h0,h1,h2]
   ·simp[h0,h1,h2]
theorem FN{r c:Nat}(hr:okR r):(cornerOf r c).1<=128/\(cornerOf r c).2<=128:=by
 obtain⟨i,j,hi,hj,rfl⟩:=hr;unfold cornerOf;rw[D5 hi,CY hi];dsimp only;split
 ·simp;omega
 ·split
  ·simp;omega
  ·split
   ·simp;omega
   ·simp;omega
noncomputable def IM(s:Nat)(u v k:Int):Int:=if u=k/\v=k then s else if v=k then((s:Int)+1)%4 else if u=k then((s:Int)+3)%4 else((s:Int)+2)%4
theorem KO{g:Grid}{t:Nat}(hv:0<g.val (t/4)):IM (t%4) (heightOf g (t/4) (t%4):Int) (heightOf g (t/4) (t%4+1):Int) ((g.val (t/4):Int) - 1)=(facingOf g t:Int):=by
 unfold IM facingOf;dsimp only;generalize heightOf g (t/4) (t%4)=u;generalize heightOf g (t/4) (t%4+1)=v;generalize hk:g.val (t/4)=k at*;have ek:(k:Int) - 1=((k - 1:Nat):Int):=by omega
 rw[ek];generalize k - 1=m;have c1:((u:Int)=(m:Int))↔u=m:=by omega
 have c2:((v:Int)=(m:Int))↔v=m:=by omega
 simp only[c1,c2];by_cases h1:u=m<;>by_cases h2:v=m<;>simp[h1,h2]<;>omega
theorem vU{f:Nat->Nat}:∀(l:List Nat)(a:Array Nat),(l.foldl (fun(a:Array Nat)(t:Nat)=>a.setIfInBounds t (f t)) a).size=a.size
 |[],a=>rfl
 |t::l,a=>by rw[List.foldl_cons,vU l];simp
theorem tM{f:Nat->Nat}:∀(l:List Nat)(a:Array Nat)(t d:Nat),(∀x∈l,x<a.size)->(l.foldl (fun(a:Array Nat)(t:Nat)=>a.setIfInBounds t (f t)) a).getD t d=if t∈l then f t else a.getD t d
 |[],a,t,d,_=>by simp
 |x::l,a,t,d,h=>by
  rw[List.foldl_cons,tM l _ t d fun y hy=>by simpa using h y (by simp[hy])];have hx:=h x (by simp);by_cases h1:t∈l
  ·simp[h1]
  ·rw[ag h1];by_cases h2:t=x
   ·subst h2;simp[de,hx]
   ·have h3:¬t∈x::l:=by simp[h1,h2]
    rw[ag h3];simp only[de,ja];rw[ag (fun e=>h2 e.symm)]
theorem AQ{h:List Nat}(hh:∀r∈h,okR r){t:Nat}(ht:t∈trianglesOf h):t<4*W*W:=by obtain⟨i,j,hi,hj,e⟩:=hh _ (dF.mp ht);unfold raw W at e;unfold W;omega
noncomputable def nW(h:List Nat):Array Nat:=(trianglesOf h).foldl (fun(a:Array Nat)(t:Nat)=>a.setIfInBounds t (facingOf (gridOf h) t)) (Array.replicate (4*W*W) 4)
noncomputable def xD(h:List Nat):Array Nat:=(trianglesOf h).foldl (fun(a:Array Nat)(t:Nat)=>a.setIfInBounds t NONE) (Array.replicate (4*W*W) 0)
theorem FE{h:List Nat}(hh:∀r∈h,okR r)(t:Nat):(nW h).getD t 4=if t∈trianglesOf h then facingOf (gridOf h) t else 4:=by
 unfold nW;rw[tM _ _ _ _ fun x hx=>by simpa using AQ hh hx];have:(Array.replicate (4*W*W) 4).getD t 4=4:=by rw[de,Array.getElem?_replicate];split<;>rfl
 rw[this]
theorem zA{h:List Nat}(hh:∀r∈h,okR r)(t:Nat):(xD h).getD t 0=if t∈trianglesOf h then NONE else 0:=by
 unfold xD;rw[tM (f:=fun _=>NONE) _ _ _ _ fun x hx=>by simpa using AQ hh hx];have:(Array.replicate (4*W*W) 0).getD t 0=0:=by rw[de,Array.getElem?_replicate];split<;>rfl
 rw[this]
theorem EW(h:List Nat):(xD h).size=4*W*W:=by unfold xD;rw[vU (f:=fun _=>NONE)];simp
section
variable {α:Type}
inductive Rch (ok:α->Prop) (nb:α->List α) (U:α->Prop) (t0:α):α->Prop where
 |refl:Rch ok nb U t0 t0
 |step {x u:α}:Rch ok nb U t0 x->u∈nb x->ok u->¬U u->Rch ok nb U t0 u
structure gJ(ok:α->Prop)(nb:α->List α)(U:α->Prop)(t0:α)(N W:List α):Prop where
 new:∀x∈N,Rch ok nb U t0 x
 wait:∀x∈W,ok x->¬U x->Rch ok nb U t0 x
 start:t0∈N\/t0∈W
 oX:∀x∈N,∀u∈nb x,ok u->¬U u->u∈N\/u∈W
variable {ok:α->Prop}{nb:α->List α}{U:α->Prop}{t0:α}
theorem gJ.first:gJ ok nb U t0 [] [t0]:=⟨by simp,by intro x hx _ _;simp at hx;subst hx;exact .refl,.inr (by simp),by simp⟩
theorem gJ.skip{N W W':List α}{x:α}(h:gJ ok nb U t0 N W)(o0:ok t0)(u0:¬U t0)(h1:∀y∈W',y∈W)(h2:∀y∈W,y∈W'\/y=x)(hx:¬ok x\/U x\/x∈N):gJ ok nb U t0 N W':=by
 have drop:∀y,ok y->¬U y->(y∈N\/y∈W)->y∈N\/y∈W':=by
  intro y oy uy hy;rcases hy with hy|hy
  ·exact .inl hy
  ·rcases h2 y hy with hy|rfl
   ·exact .inr hy
   ·rcases hx with hx|hx|hx
    ·exact absurd oy hx
    ·exact absurd hx uy
    ·exact .inl hx
 exact⟨h.new,fun y hy=>h.wait y (h1 y hy),drop t0 o0 u0 h.start,fun y hy u hu ou uu=>drop u ou uu (h.oX y hy u hu ou uu)⟩
theorem gJ.take{N W W':List α}{x:α}(h:gJ ok nb U t0 N W)(hx:x∈W)(ox:ok x)(ux:¬U x)(h1:∀y∈W',y∈W\/y∈nb x)(h2:∀y∈W,y∈W'\/y=x)(h3:∀u∈nb x,ok u->¬U u->u∈W'):gJ ok nb U t0 (x::N) W':=by
 have rx:=h.wait x hx ox ux;have Ay:∀y,(y∈N\/y∈W)->y∈x::N\/y∈W':=by
  intro y hy;rcases hy with hy|hy
  ·exact .inl (by simp[hy])
  ·rcases h2 y hy with hy|rfl
   ·exact .inr hy
   ·exact .inl (by simp)
 refine⟨?_,?_,Ay t0 h.start,?_⟩
 ·intro y hy;rcases ao.mp hy with rfl|hy
  ·exact rx
  ·exact h.new y hy
 ·intro y hy oy uy;rcases h1 y hy with q|q
  ·exact h.wait y q oy uy
  ·exact .step rx q oy uy
 ·intro y hy u hu ou uu;rcases ao.mp hy with rfl|hy
  ·exact .inr (h3 u hu ou uu)
  ·exact Ay u (h.oX y hy u hu ou uu)
theorem gJ.done{N:List α}(h:gJ ok nb U t0 N [])(x:α):x∈N↔Rch ok nb U t0 x:=by
 constructor
 ·exact h.new x
 ·intro r;induction r with
  |refl=>
       rcases h.start with q|q
       ·exact q
       ·simp at q
  |step _ hu ou uu ih=>
              rcases h.oX _ ih _ hu ou uu with q|q
              ·exact q
              ·simp at q
theorem Rch.ok'{x:α}(h:Rch ok nb U t0 x)(o0:ok t0)(u0:¬U t0):ok x/\¬U x:=by
 cases h with
 |refl=>exact⟨o0,u0⟩
 |step _ _ ou uu=>exact⟨ou,uu⟩
end
def okN(fac:Array Nat)(t0:Nat)(u:Nat):Prop:=fac.getD u 4=fac.getD t0 4
def isU(lab:Array Nat)(u:Nat):Prop:=lab.getD u 0≠NONE
theorem kN{fac labU:Array Nat}{n t0:Nat}{ts:List Nat}(hn:n≠NONE)(yq:∀u,¬isU labU u->u∈ts)(hsz:∀u∈ts,u<labU.size)(o0:¬isU labU t0):
  ∀(f:Nat)(stack N:List Nat)(lab:Array Nat),lab.size=labU.size->(∀t,lab.getD t 0=if t∈N then n else labU.getD t 0)->gJ (okN fac t0) besideOf (isU labU) t0 N stack->N.Nodup->(∀x∈N,x∈ts/\¬isU labU x)->(∀x∈stack,okN fac t0 x) ->
   stack.length+3*(ts.length - N.length)<=f->∃N':List Nat,(∀t,(fill fac n f stack lab).getD t 0=if t∈N' then n else labU.getD t 0)/\(fill fac n f stack lab).size=labU.size/\∀x,x∈N'↔Rch (okN fac t0) besideOf (isU labU) t0 x
 |0,stack,N,lab,hs,hl,S,nd,hN,ho,hf=>by have:stack=[]:=List.length_eq_zero_iff.mp (by omega);subst this;exact⟨N,hl,hs,S.done⟩
 |f+1,[],N,lab,hs,hl,S,nd,hN,ho,hf=>⟨N,hl,hs,S.done⟩
 |f+1,t::r,N,lab,hs,hl,S,nd,hN,ho,hf=>by
  have eF:fill fac n (f+1) (t::r) lab=if lab.getD t 0≠NONE then fill fac n f r lab else fill fac n f (((besideOf t).filter fun(u:Nat)=>fac.getD u 4==fac.getD t 4)++r) (lab.setIfInBounds t n):=rfl
  rw[eF];by_cases hc:lab.getD t 0≠NONE
  ·rw[ah hc];refine kN hn yq hsz o0 f r N lab hs hl (S.skip (x:=t) rfl o0 (fun y hy=>by simp[hy]) (fun y hy=>by simp at hy;exact hy.symm) ?_) nd hN (fun x hx=>ho x (by simp[hx])) (by simp at hf;omega);rw[hl t]at hc;by_cases hm:t∈N
   ·exact .inr (.inr hm)
   ·rw[ag hm]at hc;exact .inr (.inl hc)
  ·rw[ag hc];have hc:lab.getD t 0=NONE:=Classical.byContradiction hc;have htN:t∉N:=by intro q;rw[hl t,ah q]at hc;exact hn hc
   have hU:¬isU labU t:=by rw[hl t,ag htN]at hc;exact fun q=>q hc
   have qm:t∈ts:=yq t hU;have jw:t<lab.size:=by rw[hs];exact hsz t qm
   have zu:=ho t (by simp);have nd':(t::N).Nodup:=bx.mpr ⟨htN,nd⟩;have Cj:∀x∈t::N,x∈ts/\¬isU labU x:=by
    intro x hx;rcases ao.mp hx with rfl|hx
    ·exact⟨qm,hU⟩
    ·exact hN x hx
   have len:=bS nd' fun x hx=>(Cj x hx).1
   refine kN hn yq hsz o0 f _ (t::N) (lab.setIfInBounds t n) (by simpa using hs) (fun u=>?_) (S.take (x:=t) (by simp) zu hU ?_ ?_ ?_) nd' Cj ?_ ?_
   ·by_cases hu:u=t
    ·subst hu;simp[de,jw]
    ·have e:(lab.setIfInBounds t n).getD u 0=lab.getD u 0:=by simp only[de,ja];rw[ag (fun e=>hu e.symm)]
     rw[e,hl u];simp[hu]
   ·intro y hy;rcases ay.mp hy with hy|hy
    ·exact .inr (bw.mp hy).1
    ·exact .inl (by simp[hy])
   ·intro y hy;simp at hy;rcases hy with rfl|hy
    ·exact .inr rfl
    ·exact .inl (by simp[hy])
   ·intro u hu ou uu;refine cc _ (bw.mpr ⟨hu,?_⟩);have:fac.getD u 4=fac.getD t 4:=by have h1:fac.getD u 4=fac.getD t0 4:=ou;have h2:fac.getD t 4=fac.getD t0 4:=zu;rw[h1,h2]
    simp[this]
   ·intro x hx;rcases ay.mp hx with hx|hx
    ·have q:=(bw.mp hx).2;have q:fac.getD x 4=fac.getD t 4:=by simpa using q
     have h2:fac.getD t 4=fac.getD t0 4:=zu;show fac.getD x 4=_
     rw[q,h2]
    ·exact ho x (by simp[hx])
   ·have:((besideOf t).filter fun(u:Nat)=>fac.getD u 4==fac.getD t 4).length<=3:=by refine df (fy _ _) ?_;simp[besideOf]
    simp only[aq,bo]at hf len ⊢;omega
theorem F9{fac labU:Array Nat}{n t0:Nat}{ts:List Nat}(hn:n≠NONE)(yq:∀u,¬isU labU u->u∈ts)(hsz:∀u∈ts,u<labU.size)(o0:¬isU labU t0):
  ∃N':List Nat,(∀t,(fill fac n (4*ts.length+4) [t0] labU).getD t 0=if t∈N' then n else labU.getD t 0)/\(fill fac n (4*ts.length+4) [t0] labU).size=labU.size/\∀x,x∈N'↔Rch (okN fac t0) besideOf (isU labU) t0 x:=
 kN hn yq hsz o0 _ [t0] [] labU rfl (fun t=>by simp) gJ.first (by simp) (by simp) (by intro x hx;simp at hx;subst hx;rfl) (by simp;omega)
noncomputable def nbP(p:T3):List T3:=[(p.1,p.2.1,(p.2.2+1)%4),(p.1,p.2.1,(p.2.2+3)%4),((aN (p.1,p.2.1) p.2.2.toNat).1,(aN (p.1,p.2.1) p.2.2.toNat).2,(p.2.2+2)%4)]
theorem IY{h:List Nat}(hh:∀r∈h,okR r){r q s:Nat}(hr:okR r)(hq:okR q)(hs:s<4):hP q=aN (hP r) s↔q=beyond r s:=by
 obtain⟨i,j,hi,hj,rfl⟩:=hr;obtain⟨i',j',hi',xb,rfl⟩:=hq;rw[dM hi,dM hi'];have cs:s=0\/s=1\/s=2\/s=3:=by omega
 rcases cs with rfl|rfl|rfl|rfl<;>simp[aN,beyond,raw,W,Prod.ext_iff]<;>omega
theorem RU{h:List Nat}(hh:∀r∈h,okR r){t u:Nat}(ht:t∈trianglesOf h)(hu:u∈trianglesOf h):tP u∈nbP (tP t)↔u∈besideOf t:=by
 have zu:=hh _ (dF.mp ht);have oku:=hh _ (dF.mp hu);have hs:t%4<4:=by omega
 have B:=IY hh zu oku hs;have own:∀k:Nat,k<4->(tP u=((tP t).1,(tP t).2.1,(k:Int))↔u=4*(t/4)+k):=by
  intro k hk;constructor
  ·intro e;have a1:=congrArg (fun z=>z.1) e;have a2:=congrArg (fun z=>z.2.1) e;have a3:=congrArg (fun z=>z.2.2) e;simp[tP]at a1 a2 a3;have:u/4=t/4:=pS oku zu (by unfold hP;rw[show iOf (u/4)=iOf (t/4) by omega,show jOf (u/4)=jOf (t/4) by omega]);omega
  ·intro e;have e1:u/4=t/4:=by omega
   have e2:u%4=k:=by omega
   unfold tP;rw[e1,e2]
 have e1:((tP t).2.2+1)%4=(((t%4+1)%4:Nat):Int):=by simp[tP]
 have e3:((tP t).2.2+3)%4=(((t%4+3)%4:Nat):Int):=by simp[tP]
 have e2:((tP t).2.2+2)%4=(((t%4+2)%4:Nat):Int):=by simp[tP]
 have es:(tP t).2.2.toNat=t%4:=by simp only[tP];omega
 have eh:((tP t).1,(tP t).2.1)=hP (t/4):=rfl;unfold nbP besideOf;dsimp only;rw[e1,e3,e2,es,eh];simp only[ao,gp,or_false];rw[own _ (by omega),own _ (by omega)];have across:tP u=((aN (hP (t/4)) (t%4)).1,(aN (hP (t/4)) (t%4)).2,(((t%4+2)%4:Nat):Int))↔u=4*beyond (t/4) (t%4)+(t%4+2)%4:=by
  constructor
  ·intro e;have a1:=congrArg (fun z=>(z.1,z.2.1)) e;have a3:=congrArg (fun z=>z.2.2) e;have:hP (u/4)=aN (hP (t/4)) (t%4):=a1;have q:=B.mp this;simp[tP]at a3;omega
  ·intro e;have q:u/4=beyond (t/4) (t%4):=by omega
   have r:=B.mpr q;have:u%4=(t%4+2)%4:=by omega
   unfold tP;rw[this];have a:=congrArg Prod.fst r;have b:=congrArg Prod.snd r;unfold hP at a b;rw[show(iOf (u/4):Int)=_ from a,show(jOf (u/4):Int)=_ from b];rfl
 rw[across]
structure lB(h:List Nat)(jx:T3->Option Int)(lab:Array Nat):Prop where
 ins:∀t∈trianglesOf h,jx (tP t)=if lab.getD t 0=NONE then none else some (lab.getD t 0:Int)
 out:∀p,p∉ (trianglesOf h).map tP->jx p=none
 lo:∀t,t∉trianglesOf h->lab.getD t 0≠NONE
 size:lab.size=4*W*W
def okT(fac:T3->Option Int)(p0 p:T3):Prop:=fac p=fac p0
def isN(jx:T3->Option Int)(p:T3):Prop:=(jx p).isSome=true
theorem GQ{h:List Nat}(hh:∀r∈h,okR r){fac:Array Nat}{kb jx:T3->Option Int}{lab:Array Nat}(hf:∀t∈trianglesOf h,kb (tP t)=some (fac.getD t 4:Int))(zh:∀p,p∉ (trianglesOf h).map tP->kb p=none)
  (R:lB h jx lab) {t0:Nat} (h0:t0∈trianglesOf h):(∀t∈trianglesOf h,Rch (okT kb (tP t0)) nbP (isN jx) (tP t0) (tP t)↔Rch (okN fac t0) besideOf (isU lab) t0 t)/\∀p,Rch (okT kb (tP t0)) nbP (isN jx) (tP t0) p->p∈(trianglesOf h).map tP:=by
 have key:∀p,Rch (okT kb (tP t0)) nbP (isN jx) (tP t0) p->∃t∈trianglesOf h,p=tP t/\Rch (okN fac t0) besideOf (isU lab) t0 t:=by
  intro p r;induction r with
  |refl=>exact⟨t0,h0,rfl,.refl⟩
  | @step x u _ hu ou uu ih=>
   obtain⟨t,ht,rfl,rt⟩:=ih;have hm:u∈(trianglesOf h).map tP:=by apply Classical.byContradiction;intro q;have h1:=zh u q;have h2:kb u=kb (tP t0):=ou;rw[h1,hf t0 h0]at h2;cases h2
   obtain⟨v,hv,rfl⟩:=aw.mp hm;refine⟨v,hv,rfl,.step rt ((RU hh ht hv).mp hu) ?_ ?_⟩
   ·have h2:kb (tP v)=kb (tP t0):=ou;rw[hf v hv,hf t0 h0]at h2;have:=Option.some.inj h2;show fac.getD v 4=fac.getD t0 4
    omega
   ·intro q;refine uu ?_;show(jx (tP v)).isSome=true
    rw[R.ins v hv,ag q];rfl
 refine⟨fun t ht=>⟨fun r=>?_,fun r=>?_⟩,fun p r=>?_⟩
 ·obtain⟨v,hv,e,rv⟩:=key _ r;rw[LQ hh ht hv e];exact rv
 ·have mem:∀x,Rch (okN fac t0) besideOf (isU lab) t0 x->x∈trianglesOf h/\Rch (okT kb (tP t0)) nbP (isN jx) (tP t0) (tP x):=by
   intro x r;induction r with
   |refl=>exact⟨h0,.refl⟩
   | @step x u _ hu ou uu ih=>
    obtain⟨hx,rx⟩:=ih;have tm:u∈trianglesOf h:=by apply Classical.byContradiction;intro q;exact uu (R.lo u q)
    refine⟨tm,.step rx ((RU hh hx tm).mpr hu) ?_ ?_⟩
    ·show kb (tP u)=kb (tP t0)
     rw[hf u tm,hf t0 h0];have:fac.getD u 4=fac.getD t0 4:=ou;rw[this]
    ·intro q;have q:(jx (tP u)).isSome=true:=q;rw[R.ins u tm]at q;by_cases e:lab.getD u 0=NONE
     ·rw[ah e]at q;cases q
     ·exact uu e
  exact(mem t r).2
 ·obtain⟨v,hv,e,_⟩:=key _ r;rw[e];exact aw.mpr ⟨v,hv,rfl⟩
theorem lB.face{h:List Nat}(hh:∀r∈h,okR r){fac:Array Nat}{kb jx Au:T3->Option Int}{lab:Array Nat}(hf:∀t∈trianglesOf h,kb (tP t)=some (fac.getD t 4:Int))(zh:∀p,p∉ (trianglesOf h).map tP->kb p=none)
  (R:lB h jx lab) {t0 n:Nat} (h0:t0∈trianglesOf h) (hn:n<NONE) (hl:lab.getD t0 0=NONE) {N:List T3} (hN:∀p,p∈N↔Rch (okT kb (tP t0)) nbP (isN jx) (tP t0) p) (Bo:∀p,Au p=if p∈N then some (n:Int)else jx p):
  lB h Au (fill fac n (4*(trianglesOf h).length+4) [t0] lab):=by
 obtain⟨S1,S2⟩:=GQ hh hf zh R h0;have yq:∀u,¬isU lab u->u∈trianglesOf h:=fun u q=>Classical.byContradiction fun z=>q (R.lo u z)
 obtain⟨N',f1,f2,f3⟩:=F9 (fac:=fac) (labU:=lab) (n:=n) (t0:=t0) (ts:=trianglesOf h) (by omega) yq (fun u hu=>by rw[R.size];exact AQ hh hu) (fun q=>q hl);refine⟨fun t ht=>?_,fun p hp=>?_,fun t ht=>?_,by rw[f2,R.size]⟩
 ·have e:tP t∈N↔t∈N':=by rw[hN,f3,S1 t ht]
  rw[Bo,f1];by_cases q:t∈N'
  ·rw[ah (e.mpr q),ah q,ag (by omega)]
  ·rw[ag (fun z=>q (e.mp z)),ag q];exact R.ins t ht
 ·rw[Bo,ag (fun z=>hp (S2 p ((hN p).mp z)))];exact R.out p hp
 ·rw[f1];split
  ·omega
  ·exact R.lo t ht
theorem lB.start{h:List Nat}(hh:∀r∈h,okR r):lB h (fun _=>none) (xD h):=by
 refine⟨fun t ht=>?_,fun _ _=>rfl,fun t ht=>?_,EW h⟩
 ·rw[zA hh,ah ht,ah rfl]
 ·rw[zA hh,ag ht];decide
section
variable {κ β:Type} [DecidableEq κ]
noncomputable def aK(l:List (κ×β))(k:κ):Option β:=(l.find? fun x=>decide (x.1=k)).map (·.2)
noncomputable def cR(l:List (κ×β))(k:κ)(v:β):List (κ×β):=
 if(l.any fun x=>decide (x.1=k))=true then l.map (fun x=>if x.1=k then(x.1,v)else x)else l++[(k,v)]
theorem j6{k:κ}:aK ([]:List (κ×β)) k=none:=rfl
theorem bU{x:κ×β}{r:List (κ×β)}{k:κ}:aK (x::r) k=if x.1=k then some x.2 else aK r k:=by
 unfold aK;by_cases e:x.1=k
 ·simp[e]
 ·simp[e]
theorem aQ(k:κ):∀l:List (κ×β),(aK l k).isSome=true↔k∈l.map (·.1)
 |[]=>by simp[j6]
 |x::r=>by
  rw[bU,bf,ao];by_cases e:x.1=k
  ·rw[ah e];simp[e]
  ·rw[ag e,aQ k r];constructor
   ·exact .inr
   ·rintro(h|h)
    ·exact absurd h.symm e
    ·exact h
theorem lV{l:List (κ×β)}{k:κ}:aK l k=none↔k∉l.map (·.1):=by rw[<- aQ];cases aK l k<;>simp
theorem rM{l:List (κ×β)}{k:κ}:(l.any fun x=>decide (x.1=k))=true↔k∈l.map (·.1):=by simp[dz]
theorem fU{l:List (κ×β)}{k:κ}(v:β)(h:k∉l.map (·.1)):cR l k v=l++[(k,v)]:=by unfold cR;rw[ag (fun z=>h (rM.mp z))]
theorem uP{l:List (κ×β)}{k:κ}(v:β)(h:k∈l.map (·.1)):(cR l k v).map (·.1)=l.map (·.1):=by unfold cR;rw[ah (rM.mpr h),dq];apply fb;intro x _;simp only[Function.comp];split<;>rfl
theorem wI{l:List (κ×β)}{k:κ}(v:β):(cR l k v).map (·.1)=if k∈l.map (·.1)then l.map (·.1)else l.map (·.1)++[k]:=by
 by_cases h:k∈l.map (·.1)
 ·rw[ah h,uP v h]
 ·rw[ag h,fU v h];simp
theorem jP{l:List (κ×β)}{k:κ}{v:β}(h:(l.map (·.1)).Nodup):((cR l k v).map (·.1)).Nodup:=by
 rw[wI];split
 ·exact h
 ·rename_i hk;rw[cv];exact⟨h,by simp,fun a ha b hb e=>hk (by simp at hb;rw[<- hb,<- e];exact ha)⟩
theorem AA(k j:κ)(y:β):∀l:List (κ×β),aK (l.map fun x=>if x.1=k then(x.1,y)else x) j=if j=k then(aK l j).map (fun _=>y)else aK l j
 |[]=>by simp[j6]
 |x::r=>by
  rw[bf,bU,bU,AA k j y r];by_cases e:x.1=k
  ·rw[ah e];by_cases e2:x.1=j
   ·rw[ah e2,ah e2,ah (e2▸e:j=k)];rfl
   ·rw[ag e2,ag e2]
  ·rw[ag e];by_cases e2:x.1=j
   ·rw[ah e2,ag (show¬j=k by intro z;exact e (e2.trans z)),ah e2]
   ·rw[ag e2,ag e2]
theorem wJ(k j:κ)(y:β):∀l:List (κ×β),k∉l.map (·.1)->aK (l++[(k,y)]) j=if j=k then some y else aK l j
 |[],_=>by
  rw[nil_append,bU];by_cases e:j=k
  ·rw[ah e,ah e.symm]
  ·rw[ag e,ag (Ne.symm e)]
 |x::r,h=>by
  rw[cons_append,bU,bU,wJ k j y r (fun z=>h (by rw[bf];exact ar _ z))];by_cases e2:x.1=j
  ·rw[ah e2,ah e2,ag];intro z;exact h (by rw[bf,ao];exact .inl (by rw[e2,z]))
  ·rw[ag e2,ag e2]
theorem gX(l:List (κ×β))(k j:κ)(y:β):aK (cR l k y) j=if j=k then some y else aK l j:=by
 by_cases h:k∈l.map (·.1)
 ·unfold cR;rw[ah (rM.mpr h),AA];by_cases e:j=k
  ·subst e;rw[ah rfl,ah rfl];have:=(aQ j l).mpr h;cases q:aK l j with
   |none=>rw[q]at this;cases this
   |some z=>rfl
  ·rw[ag e,ag e]
 ·rw[fU y h,wJ k j y l h]
noncomputable def cJ(l:List (κ×β))(ps:List (κ×β)):List (κ×β):=ps.foldl (fun a p=>cR a p.1 p.2) l
theorem rA:∀(ps l:List (κ×β)),(l.map (·.1)).Nodup->((cJ l ps).map (·.1)).Nodup
 |[],_,h=>h
 |p::r,l,h=>rA r (cR l p.1 p.2) (jP h)
theorem xR(l a b:List (κ×β)):cJ l (a++b)=cJ (cJ l a) b:=by simp[cJ]
theorem l8(l:List (κ×β))(k:κ)(v:β):(cR l k v).length<=l.length+1:=by unfold cR;split<;>simp
theorem gI:∀(ps l:List (κ×β)),(cJ l ps).length<=l.length+ps.length
 |[],l=>by simp[cJ]
 |p::r,l=>by
  have h1:=gI r (cR l p.1 p.2);have h2:=l8 l p.1 p.2;show(cJ (cR l p.1 p.2) r).length<=_
  simp only[bo];omega
theorem wK:∀(ps l:List (κ×β)),(∀p∈ps,∀q∈ps,p.1=q.1->p.2=q.2)->(∀p∈ps,∀v,aK l p.1=some v->v=p.2)->∀k v,aK (cJ l ps) k=some v↔aK l k=some v\/(k,v)∈ps
 |[],l,_,_=>by intro k v;simp[cJ]
 |p::r,l,h,h2=>by
  intro k v;have hp:∀q∈r,∀v,aK (cR l p.1 p.2) q.1=some v->v=q.2:=by
   intro q hq v e;rw[gX]at e;by_cases z:q.1=p.1
   ·rw[ah z]at e;cases e;exact h p (by simp) q (by simp[hq]) z.symm
   ·rw[ag z]at e;exact h2 q (by simp[hq]) v e
  show aK (cJ (cR l p.1 p.2) r) k=some v↔ _
  rw[wK r _ (fun a ha b hb=>h a (by simp[ha]) b (by simp[hb])) hp k v,gX];by_cases z:k=p.1
  ·rw[ah z];constructor
   ·rintro(e|e)
    ·cases e;exact .inr (by rw[z];simp)
    ·exact .inr (by simp[e])
   ·rintro(e|e)
    ·have:=h2 p (by simp) v (z▸e);exact .inl (by rw[this])
    ·rcases ao.mp e with e|e
     ·rw[<- e];exact .inl rfl
     ·exact .inr e
  ·rw[ag z];constructor
   ·rintro(e|e)
    ·exact .inl e
    ·exact .inr (by simp[e])
   ·rintro(e|e)
    ·exact .inl e
    ·rcases ao.mp e with e|e
     ·exact absurd (show k=p.1 by rw[<- e]) z
     ·exact .inr e
end
def hdg(d:Nat):Int:=((d:Int)+1)%4
noncomputable def eM(cs:List Pl)(c:Pl):List (Pl×Int):=([0,1,2,3].filter fun(s:Nat)=>!decide (aN c s∈cs)).map fun s=>(aM c s,hdg s)
def fR(cs:List Pl):List (Pl×Int):=cs.flatMap (eM cs)
def d8(cs:List Pl):List (Pl×Int):=cJ [] (fR cs)
theorem uH{l:Cells}{p:Pl}{h:Int}:(p,h)∈fR (iW l)↔∃d,d<4/\aX l p.1 p.2 d=true/\h=hdg d:=by
 unfold fR eM;rw[da];constructor
 ·rintro⟨c,hc,hm⟩;obtain⟨s,hs,e⟩:=aw.mp hm;rw[bw]at hs;obtain⟨hs,hn⟩:=hs;obtain⟨x,y⟩:=c;have ue:inI l x y=true:=mD.mp hc;have cs:s=0\/s=1\/s=2\/s=3:=by simpa using hs
  have pd:inI l (aN (x,y) s).1 (aN (x,y) s).2=false:=by rw[<- jN];simpa using hn
  cases e;refine⟨s,by omega,?_,rfl⟩;rcases cs with rfl|rfl|rfl|rfl
  ·simp[aX,aM,ne,se,aN]at pd ⊢;exact⟨ue,pd⟩
  ·simp[aX,aM,ne,nw,aN]at pd ⊢;exact⟨ue,pd⟩
  ·simp[aX,aM,sw,nw,aN]at pd ⊢;exact⟨ue,pd⟩
  ·simp[aX,aM,se,sw,aN]at pd ⊢;exact⟨ue,pd⟩
 ·rintro⟨d,hd,w,rfl⟩;obtain⟨X,Y⟩:=p;have cd:d=0\/d=1\/d=2\/d=3:=by omega
  rcases cd with rfl|rfl|rfl|rfl
  ·simp[aX,ne,se]at w;refine⟨(X,Y),mD.mpr w.1,aw.mpr ⟨0,?_,by simp[aM]⟩⟩;rw[bw];refine⟨by simp,?_⟩;show(!decide (((X,Y - 1):Pl)∈iW l))=true
   rw[jN,w.2];rfl
  ·simp[aX,nw,ne]at w;refine⟨(X - 1,Y),mD.mpr w.1,aw.mpr ⟨1,?_,?_⟩⟩
   ·rw[bw];refine⟨by simp,?_⟩;show(!decide (((X - 1+1,Y):Pl)∈iW l))=true
    rw[jN,show X - 1+1=X by omega,w.2];rfl
   ·simp[aM]
  ·simp[aX,sw,nw]at w;refine⟨(X - 1,Y - 1),mD.mpr w.1,aw.mpr ⟨2,?_,?_⟩⟩
   ·rw[bw];refine⟨by simp,?_⟩;show(!decide (((X - 1,Y - 1+1):Pl)∈iW l))=true
    rw[jN,show Y - 1+1=Y by omega,w.2];rfl
   ·simp[aM]
  ·simp[aX,se,sw]at w;refine⟨(X,Y - 1),mD.mpr w.1,aw.mpr ⟨3,?_,?_⟩⟩
   ·rw[bw];refine⟨by simp,?_⟩;show(!decide (((X - 1,Y - 1):Pl)∈iW l))=true
    rw[jN,w.2];rfl
   ·simp[aM]
theorem KG{d e:Nat}(hd:d<4)(he:e<4)(h:hdg d=hdg e):d=e:=by unfold hdg at h;omega
theorem G5{l:Cells}{X Y:Int}{d:Nat}(hd:d<4)(h:aX l X Y d=true):0<=X/\0<=Y:=by
 have cd:d=0\/d=1\/d=2\/d=3:=by omega
 rcases cd with rfl|rfl|rfl|rfl
 ·simp[aX,ne]at h;have:=bO h.1;omega
 ·simp[aX,nw]at h;have:=bO h.1;omega
 ·simp[aX,sw]at h;have:=bO h.1;omega
 ·simp[aX,se]at h;have:=bO h.1;omega
theorem jI{l:Cells}(hp:pinched l=false){p:Pl}{h:Int}:(p,h)∈fR (iW l)↔∃q d,p=iP q/\outOf l q=some d/\h=hdg d:=by
 rw[uH];constructor
 ·rintro⟨d,hd,w,rfl⟩;obtain⟨X,Y⟩:=p;have:=G5 hd w;refine⟨(X.toNat,Y.toNat),d,?_,yV hp hd ?_,rfl⟩
  ·simp[iP];omega
  ·rw[eO];simp only;rw[show((X.toNat:Nat):Int)=X by omega,show((Y.toNat:Nat):Int)=Y by omega];exact w
 ·rintro⟨q,d,rfl,ho,rfl⟩;obtain⟨hd,w⟩:=bA ho;rw[eO]at w;exact⟨d,hd,w,rfl⟩
theorem pR{l:Cells}(hp:pinched l=false)(p:Pl)(h:Int):aK (d8 (iW l)) p=some h↔∃q d,p=iP q/\outOf l q=some d/\h=hdg d:=by
 unfold d8;rw[wK _ _ ?_ (by intro p _ v e;cases e) p h,jI hp]
 ·simp[j6]
 ·intro a ha b hb e;obtain⟨q,d,e1,o1,e2⟩:=(jI hp).mp ha;obtain⟨q',d',e1',o1',e2'⟩:=(jI hp).mp hb;have:q=q':=fZ (by rw[<- e1,<- e1',e]);subst this;rw[o1]at o1';cases o1';rw[e2,e2']
theorem zM(cs:List Pl):((d8 cs).map (·.1)).Nodup:=rA _ _ (by simp)
theorem pQ{l:Cells}(hp:pinched l=false)(p:Pl):p∈(d8 (iW l)).map (·.1)↔∃q d,p=iP q/\outOf l q=some d:=by
 rw[<- aQ];constructor
 ·intro h;cases e:aK (d8 (iW l)) p with
  |none=>rw[e]at h;cases h
  |some v=>obtain⟨q,d,h1,h2,_⟩:=(pR hp p v).mp e;exact⟨q,d,h1,h2⟩
 ·rintro⟨q,d,h1,h2⟩;rw[(pR hp p (hdg d)).mpr ⟨q,d,h1,h2,rfl⟩];rfl
theorem rE(cs:List Pl):(fR cs).length<=4*cs.length:=by
 unfold fR;have:∀(l:List Pl),(l.flatMap (eM cs)).length<=4*l.length:=by
  intro l;induction l with
  |nil=>simp
  |cons c r ih=>
   rw[fx,aq,bo];have:(eM cs c).length<=4:=by unfold eM;rw[ai];exact df (fy _ _) (by simp)
   omega
 exact this cs
theorem nO(cs:List Pl):(d8 cs).length<=4*cs.length:=by have h1:=gI (fR cs) [];have h2:=rE cs;unfold d8;simp at h1;omega
inductive mB (hd:Pl->Option Int):Pl->List (Pl×Int)->Pl->Prop where
 |nil (p:Pl):mB hd p [] p
 |cons {p q:Pl}{h:Int}{r:List (Pl×Int)}:hd p=some h->0<=h->h<4->mB hd (aN p h.toNat) r q->mB hd p ((p,h)::r) q
noncomputable def bL:Option Int->List (Pl×Int)->List Pl
 |_,[]=>[]
 |came,(p,h)::r=>if some h=came then bL (some h) r else p::bL (some h) r
def iF(x:Foot):Pl×Int:=(iP x.1,hdg x.2)
theorem GI{l:Cells}{p:Point}{d:Nat}(h:outOf l p=some d):aN (iP p) (hdg d).toNat=iP (stepped p d):=by
 obtain⟨hd,_⟩:=bA h;obtain⟨b2,b3⟩:=jB h;have cd:d=0\/d=1\/d=2\/d=3:=by omega
 rcases cd with rfl|rfl|rfl|rfl
 ·simp[aN,hdg,iP,stepped]
 ·simp[aN,hdg,iP,stepped]
 ·simp[aN,hdg,iP,stepped];have:=b2 rfl;omega
 ·simp[aN,hdg,iP,stepped];have:=b3 rfl;omega
theorem G3{l:Cells}(hp:pinched l=false){p q:Point}{f:List Foot}(h:Way l p f q):mB (aK (d8 (iW l))) (iP p) (f.map iF) (iP q):=by
 induction h with
 |nil p=>exact .nil _
 | @cons p q d r ho _ ih=>
  rw[bf];refine .cons ((pR hp _ _).mpr ⟨p,d,rfl,ho,rfl⟩) ?_ ?_ ?_
  ·unfold hdg;omega
  ·unfold hdg;omega
  ·rw[GI ho];exact ih
theorem m8:∀(r:List Foot)(d:Nat),d<4->(∀x∈r,x.2<4)->bL (some (hdg d)) (r.map iF)=iW (turns d r)
 |[],d,_,_=>rfl
 |x::r,d,hd,hr=>by
  have hx:=hr x (by simp);rw[bf];show(if some (hdg x.2)=some (hdg d)then bL (some (hdg x.2)) (r.map iF)else iP x.1::bL (some (hdg x.2)) (r.map iF))=iW (if x.2=d then turns x.2 r else x.1::turns x.2 r)
  rw[m8 r x.2 hx (fun y hy=>hr y (by simp[hy]))];by_cases e:x.2=d
  ·rw[ah (by rw[e]),ah e]
  ·rw[ag (fun z=>e (KG hx hd (Option.some.inj z))),ag e];rfl
def c8(l:Cells):List Point:=(pointsOf l).filter fun p=>(outOf l p).isSome
theorem dO(l:Cells):∀(uh seen:List Point),walksFrom l seen uh=walksFrom l seen (uh.filter fun p=>(outOf l p).isSome)
 |[],seen=>rfl
 |p::r,seen=>by
  cases ho:outOf l p with
  |none=>
   rw[List.filter_cons_of_neg (by simp[ho])];have e:walksFrom l seen (p::r)=walksFrom l seen r:=by
    show(if seen.contains p=true then _ else match outOf l p with|none=>_|some d=>_)=_
    rw[ho];split<;>rfl
   rw[e];exact dO l r seen
  |some d=>
   rw[List.filter_cons_of_pos (by simp[ho])];show(if seen.contains p=true then _ else match outOf l p with|none=>_|some d=>_)=(if seen.contains p=true then _ else match outOf l p with|none=>_|some d=>_)
   rw[ho,dO l r seen];dsimp only;rw[dO l r (seen++List.map (fun x=>x.fst) (follow l p (4*List.length l+4) p d))]
theorem fC.starts(l:Cells):fC l [] (c8 l):=by
 have g:=fC.start l;refine⟨g.oX,fun q d h=>?_,?_⟩
 ·rcases g.all q d h with z|z
  ·exact .inl z
  ·exact .inr (bw.mpr ⟨z,by simp[h]⟩)
 ·exact g.row.sublist (List.filter_sublist ..)
theorem A9{a b:Point}(h:before a b=true):CJ (iP a) (iP b):=by rw[cN]at h;unfold CJ iP;simp only;omega
theorem yG{a b:Pl}(h:CJ a b):gB a b:=by unfold CJ at h;unfold gB;omega
theorem yN{xs ys:List Pl}(hp:xs.Perm ys)(h1:xs.Pairwise gB)(h2:ys.Pairwise gB):xs=ys:=
 hp.eq_of_pairwise (fun _ _ _ _ a b=>sD a b) h1 h2
theorem uA{l:Cells}(hp:pinched l=false){ys:List Pl}(h:ys.Perm ((d8 (iW l)).map (·.1)))(hs:ys.Pairwise gB):ys=iW (c8 l):=by
 have hr:(iW (c8 l)).Pairwise gB:=by unfold iW;rw[iy];exact(fC.starts l).row.imp fun h=>yG (A9 h)
 refine yN (h.trans ?_) hs hr;refine(List.perm_ext_iff_of_nodup (zM _) ?_).mpr fun p=>?_
 ·unfold iW;exact d6 (wO (fC.starts l).row) fun x _ y _ e=>fZ e
 ·rw[pQ hp];constructor
  ·rintro⟨q,d,rfl,ho⟩;exact gR.mpr (bw.mpr ⟨gN ho,by simp[ho]⟩)
  ·intro hm;obtain⟨q,hq,rfl⟩:=aw.mp hm;have:=(bw.mp hq).2;cases e:outOf l q with
   |none=>rw[e]at this;cases this
   |some d=>exact⟨q,d,rfl,e⟩
theorem G7{l:Cells}(hp:pinched l=false){seen r:List Point}{p:Point}{d:Nat}(g:fC l seen (p::r))(hs:p∉seen)(ho:outOf l p=some d):
  ∃f:List Foot,mB (aK (d8 (iW l))) (iP p) (f.map iF) (iP p)/\f≠[]/\((f.map iF).map (·.1)).Nodup/\(∀y∈f.map (·.1),y∉seen)/\fC l (seen++f.map (·.1)) r/\
   walksFrom l seen (p::r)=cornersOf f::walksFrom l (seen++f.map (·.1)) r/\iW (cornersOf f)=bL none (f.map iF):=by
 obtain⟨R,fr,⟨r',er,ec⟩,ew,g2⟩:=g.step hp hs ho rfl;refine⟨_,G3 hp R.way,R.ne,?_,fr,g2,?_,?_⟩
 ·have e:((follow l p (4*l.length+4) p d).map iF).map (·.1)=iW ((follow l p (4*l.length+4) p d).map (·.1)):=by simp[iW,iF,Function.comp_def]
  rw[e];exact d6 R.nd fun x _ y _ e=>fZ e
 ·show(if seen.contains p=true then _ else match outOf l p with|none=>_|some d=>_)=_
  rw[ag (by simpa using hs),ho]
 ·rw[ec,er,bf];show iP p::iW (turns d r')=(if some (hdg d)=none then _ else iP p::bL (some (hdg d)) (r'.map iF))
  rw[ag (by simp),m8 r' d (bA ho).1];intro x hx;have:=R.way.out x (by rw[er];simp[hx]);exact(bA this).1
noncomputable def aE:Nat->List (List T3)->List (T3×Int)
 |_,[]=>[]
 |k,N::r=>N.map (fun p=>(p,(k:Int)))++aE (k+1) r
theorem jS:∀(a b:List (List T3))(k:Nat),aE k (a++b)=aE k a++aE (k+a.length) b
 |[],b,k=>by simp[aE]
 |N::a,b,k=>by
  rw[cons_append];show N.map (fun p=>(p,(k:Int)))++aE (k+1) (a++b)=(N.map (fun p=>(p,(k:Int)))++aE (k+1) a)++aE (k+(a.length+1)) b
  rw[jS a b (k+1),fk,show k+1+a.length=k+(a.length+1) by omega]
theorem b8:∀(Ns:List (List T3))(k:Nat),(aE k Ns).map (·.1)=Ns.flatten
 |[],k=>rfl
 |N::r,k=>by
  show(N.map (fun p=>(p,(k:Int)))++aE (k+1) r).map (·.1)=N++r.flatten
  rw[cg,b8 r (k+1),dq];congr 1;simp[Function.comp_def]
theorem l9{κ β:Type}[DecidableEq κ](k:κ)(b:List (κ×β)):∀a:List (κ×β),aK (a++b) k=if k∈a.map (·.1)then aK a k else aK b k
 |[]=>by simp
 |x::a=>by
  rw[cons_append,bU,bU,l9 k b a,bf];by_cases e:x.1=k
  ·rw[ah e,ah e,ah (by rw[ao];exact .inl e.symm)]
  ·rw[ag e,ag e];by_cases h:k∈a.map (·.1)
   ·rw[ah h,ah (ar _ h)]
   ·rw[ag h,ag (by rw[ao];rintro(z|z);exact e z.symm;exact h z)]
theorem qC{κ β:Type}[DecidableEq κ](v:β)(k:κ):∀N:List κ,aK (N.map fun p=>(p,v)) k=if k∈N then some v else none
 |[]=>by simp[j6]
 |x::N=>by
  rw[bf,bU,qC v k N];by_cases e:x=k
  ·rw[ah e,ah (by simp[e])]
  ·rw[ag e];by_cases h:k∈N
   ·rw[ah h,ah (ar _ h)]
   ·rw[ag h,ag (by rw[ao];rintro(z|z);exact e z.symm;exact h z)]
theorem iY(Ns:List (List T3))(N:List T3):aE 0 (Ns++[N])=aE 0 Ns++N.map (fun p=>(p,(Ns.length:Int))):=by rw[jS];simp[aE]
theorem nF{Ns:List (List T3)}{N:List T3}(hd:∀p∈N,p∉Ns.flatten)(p:T3):aK (aE 0 (Ns++[N])) p=if p∈N then some (Ns.length:Int)else aK (aE 0 Ns) p:=by
 rw[iY,l9,qC,b8];by_cases h:p∈Ns.flatten
 ·rw[ah h,ag (fun z=>hd p z h)]
 ·rw[ag h];split
  ·rfl
  ·exact(lV.mpr (by rw[b8];exact h)).symm
theorem rK:∀(Ns:List (List T3))(j:Nat)(p:T3)(k:Int),Ns.flatten.Nodup->(aK (aE j Ns) p=some k↔∃i N,Ns[i]? =some N/\p∈N/\k=((j+i:Nat):Int))
 |[],j,p,k,_=>by simp[aE,j6]
 |N::r,j,p,k,hn=>by
  rw[flatten_cons,cv]at hn;show aK (N.map (fun p=>(p,(j:Int)))++aE (j+1) r) p=some k↔ _
  rw[l9,qC];have e:(N.map fun p=>(p,(j:Int))).map (·.1)=N:=by simp[Function.comp_def]
  rw[e];by_cases h:p∈N
  ·rw[ah h,ah h];constructor
   ·intro q;cases q;exact⟨0,N,rfl,h,by simp⟩
   ·rintro⟨i,M,hi,hm,rfl⟩;cases i with
    |zero=>cases hi;simp
    |succ i=>exfalso;rw[gg]at hi;exact hn.2.2 p h p (List.mem_flatten.mpr ⟨M,az hi,hm⟩) rfl
  ·rw[ag h,rK r (j+1) p k hn.2.1];constructor
   ·rintro⟨i,M,hi,hm,rfl⟩;exact⟨i+1,M,by rw[gg];exact hi,hm,by congr 1;omega⟩
   ·rintro⟨i,M,hi,hm,rfl⟩;cases i with
    |zero=>cases hi;exact absurd hm h
    |succ i=>rw[gg]at hi;exact⟨i,M,hi,hm,by congr 1;omega⟩
structure lA(h:List Nat)(Ns:List (List T3))(lab:Array Nat):Prop where
 rel:lB h (aK (aE 0 Ns)) lab
 nd:Ns.flatten.Nodup
 ne:∀N∈Ns,N≠[]
theorem lA.sub{h:List Nat}{Ns:List (List T3)}{lab:Array Nat}(R:lA h Ns lab):∀p∈Ns.flatten,p∈(trianglesOf h).map tP:=by intro p hp;apply Classical.byContradiction;intro q;have:=R.rel.out p q;rw[lV,b8]at this;exact this hp
theorem kM{α:Type}:∀{Ns:List (List α)},(∀N∈Ns,N≠[])->Ns.length<=Ns.flatten.length
 |[],_=>by simp
 |N::r,h=>by
  have h1:=kM (Ns:=r) fun M hM=>h M (by simp[hM])
  have h2:0<N.length:=fh.mpr (h N (by simp));simp only[bo,flatten_cons,aq];omega
theorem lA.few{h:List Nat}{Ns:List (List T3)}{lab:Array Nat}(R:lA h Ns lab):Ns.length<=(trianglesOf h).length:=by have h1:=kM R.ne;have h2:=bS R.nd R.sub;rw[ai]at h2;omega
theorem lA.start{h:List Nat}(hh:∀r∈h,okR r):lA h [] (xD h):=⟨lB.start hh,by simp,by simp⟩
theorem lA.face{h:List Nat}(hh:∀r∈h,okR r){fac:Array Nat}{kb:T3->Option Int}{lab:Array Nat}{Ns:List (List T3)}(hf:∀t∈trianglesOf h,kb (tP t)=some (fac.getD t 4:Int))(zh:∀p,p∉ (trianglesOf h).map tP->kb p=none)
  (jt:(trianglesOf h).length<NONE) (R:lA h Ns lab) {t0:Nat} (h0:t0∈trianglesOf h) (hl:aK (aE 0 Ns) (tP t0)=none) {N:List T3} (hN:∀p,p∈N↔Rch (okT kb (tP t0)) nbP (isN (aK (aE 0 Ns))) (tP t0) p) (qh:N.Nodup):
  lab.getD t0 0=NONE/\lA h (Ns++[N]) (fill fac Ns.length (4*(trianglesOf h).length+4) [t0] lab):=by
 have zc:lab.getD t0 0=NONE:=by have:=R.rel.ins t0 h0;rw[hl]at this;apply Classical.byContradiction;intro q;rw[ag q]at this;cases this
 have u0:¬isN (aK (aE 0 Ns)) (tP t0):=by intro q;have q:(aK (aE 0 Ns) (tP t0)).isSome=true:=q;rw[hl]at q;cases q
 have hd:∀p∈N,p∉Ns.flatten:=by
  intro p hp hm;have:=(((hN p).mp hp).ok' rfl u0).2;refine this ?_;show(aK (aE 0 Ns) p).isSome=true
  rw[aQ,b8];exact hm
 refine⟨zc,?_,?_,?_⟩
 ·exact R.rel.face hh hf zh h0 (gx R.few jt) zc hN (nF hd)
 ·rw[ib,cv];refine⟨R.nd,by simpa using qh,?_⟩;intro a ha b hb e;have qi:b∈N:=by simpa using hb
  exact hd b qi (e▸ha)
 ·intro M hM;rcases ay.mp hM with hM|hM
  ·exact R.ne M hM
  ·have:M=N:=by simpa using hM
   subst this;intro e;have:tP t0∈M:=(hN _).mpr .refl;rw[e]at this;cases this
structure Numbering(h:List Nat)(i:Nat)(Ns:List (List T3)):Prop where
 ex:∃(lab:Array Nat)(firsts:List Nat),lA h Ns lab/\firsts.length=Ns.length/\
  facesFrom (nW h) (4*(trianglesOf h).length+4) (trianglesOf h) 0 [] (xD h)=facesFrom (nW h) (4*(trianglesOf h).length+4) ((trianglesOf h).drop i) Ns.length firsts lab
 done:(∀t∈(trianglesOf h).take i,(aK (aE 0 Ns) (tP t)).isSome=true)/\(∀j,j<Ns.length->∃n t,n<i/\(trianglesOf h)[n]? =some t/\aK (aE 0 Ns) (tP t)=some (j:Int))/\
  ∀(n t k:Nat),n<i->(trianglesOf h)[n]? =some t->aK (aE 0 Ns) (tP t)=some (k:Int)->∀j,j<k->∃m u,m<n/\(trianglesOf h)[m]? =some u/\aK (aE 0 Ns) (tP u)=some (j:Int)
theorem Numbering.start{h:List Nat}(hh:∀r∈h,okR r):Numbering h 0 []:=⟨⟨xD h,[],lA.start hh,rfl,rfl⟩,by simp,fun j hj=>by simp at hj,fun n t k hn=>by omega⟩
theorem drop_cons{α:Type}{l:List α}{i:Nat}{t:α}(h:l[i]? =some t):l.drop i=t::l.drop (i+1):=by obtain⟨hi,e⟩:=ak.mp h;rw[jc hi,e]
theorem take_snoc{α:Type}{l:List α}{i:Nat}{t:α}(h:l[i]? =some t):l.take (i+1)=l.take i++[t]:=by rw[List.take_add_one,h];rfl
theorem Numbering.skip{h:List Nat}{i:Nat}{Ns:List (List T3)}(R:Numbering h i Ns){t:Nat}(ht:(trianglesOf h)[i]? =some t)(hs:(aK (aE 0 Ns) (tP t)).isSome=true):Numbering h (i+1) Ns:=by
 obtain⟨⟨lab,firsts,O,hl,e⟩,dn⟩:=R;have hm:t∈trianglesOf h:=az ht;have q:lab.getD t 0≠NONE:=by intro q;have:=O.rel.ins t hm;rw[ah q]at this;rw[this]at hs;cases hs
 refine⟨⟨lab,firsts,O,hl,?_⟩,fun u hu=>?_,fun j hj=>?_,fun n u k hn hu hk j hj=>?_⟩
 ·rw[e,drop_cons ht];show(if lab.getD t 0≠NONE then _ else _)=_
  rw[ah q]
 ·rw[take_snoc ht]at hu;rcases ay.mp hu with hu|hu
  ·exact dn.1 u hu
  ·have:u=t:=by simpa using hu
   subst this;exact hs
 ·obtain⟨n,u,a1,a2⟩:=dn.2.1 j hj;exact⟨n,u,by omega,a2⟩
 ·by_cases c:n<i
  ·exact dn.2.2 n u k c hu hk j hj
  ·have:n=i:=by omega
   subst this;obtain⟨m,N,b1,_,b3⟩:=(rK Ns 0 _ _ O.nd).mp hk;have:=(ak.mp b1).1;exact dn.2.1 j (by omega)
theorem Numbering.face{h:List Nat}(hh:∀r∈h,okR r){kb:T3->Option Int}(hf:∀t∈trianglesOf h,kb (tP t)=some ((nW h).getD t 4:Int))(zh:∀p,p∉ (trianglesOf h).map tP->kb p=none)
  (jt:(trianglesOf h).length<NONE) {i:Nat}{Ns:List (List T3)} (R:Numbering h i Ns) {t:Nat} (ht:(trianglesOf h)[i]? =some t) (hl:aK (aE 0 Ns) (tP t)=none)
  {N:List T3} (hN:∀p,p∈N↔Rch (okT kb (tP t)) nbP (isN (aK (aE 0 Ns))) (tP t) p) (qh:N.Nodup):Numbering h (i+1) (Ns++[N]):=by
 obtain⟨⟨lab,firsts,O,hl2,e⟩,dn⟩:=R;have hm:t∈trianglesOf h:=az ht;obtain⟨q,O2⟩:=O.face hh hf zh jt hm hl hN qh;have grow:∀p,(aK (aE 0 Ns) p).isSome=true->(aK (aE 0 (Ns++[N])) p).isSome=true:=by intro p hp;rw[aQ,b8]at hp ⊢;rw[ib];exact cc _ hp
 have hd:∀p∈N,p∉Ns.flatten:=fun p hp hm=>by have z:=O2.nd;rw[ib,cv]at z;exact z.2.2 p hm p (by simpa using hp) rfl
 have old:∀p (k:Nat),aK (aE 0 Ns) p=some (k:Int)->aK (aE 0 (Ns++[N])) p=some (k:Int):=fun p k hk=>by
  rw[nF hd,ag]
  ·exact hk
  ·intro hp;refine hd p hp ?_;rw[<- b8 Ns 0,<- aQ,hk];rfl
 have htN:tP t∈N:=(hN _).mpr .refl;have new:aK (aE 0 (Ns++[N])) (tP t)=some (Ns.length:Int):=by rw[nF hd,ah htN]
 refine⟨⟨_,t::firsts,O2,by simp[hl2],?_⟩,fun u hu=>?_,fun j hj=>?_,fun n u k hn hu hk j hj=>?_⟩
 rotate_left 2
 ·by_cases c:j<Ns.length
  ·obtain⟨n,u,a1,a2,a3⟩:=dn.2.1 j c;exact⟨n,u,by omega,a2,old _ _ a3⟩
  ·have:j=Ns.length:=by simp at hj;omega
   subst this;exact⟨i,t,by omega,ht,new⟩
 ·by_cases c:n<i
  ·have hs:=dn.1 u (az (l:=(trianglesOf h).take i) (i:=n) (by rw[fo c];exact hu));have tw:aK (aE 0 Ns) (tP u)=some (k:Int):=by
    rw[nF hd,ag]at hk
    ·exact hk
    ·intro hp;refine hd _ hp ?_;rw[<- b8 Ns 0,<- aQ];exact hs
   obtain⟨m,v,a1,a2,a3⟩:=dn.2.2 n u k c hu tw j hj;exact⟨m,v,a1,a2,old _ _ a3⟩
  ·have:n=i:=by omega
   subst this;rw[ht]at hu;cases hu;rw[new]at hk;have:(Ns.length:Int)=(k:Int):=Option.some.inj hk;obtain⟨m,v,a1,a2,a3⟩:=dn.2.1 j (by omega);exact⟨m,v,a1,a2,old _ _ a3⟩
 ·rw[e,drop_cons ht];show(if lab.getD t 0≠NONE then _ else facesFrom _ _ _ (Ns.length+1) (t::firsts) (fill _ _ _ [t] lab))=_
  rw[ag (by simpa using q),aq];rfl
 ·rw[take_snoc ht]at hu;rcases ay.mp hu with hu|hu
  ·exact grow _ (dn.1 u hu)
  ·have:u=t:=by simpa using hu
   subst this;rw[aQ,b8,ib];refine bh _ ?_;have:tP u∈N:=(hN _).mpr .refl;simpa using this
theorem Numbering.all{l:Cells}{Ns:List (List T3)}{i:Nat}(R:Numbering (halvesOf l) i Ns)(hi:(trianglesOf (halvesOf l)).length<=i):
  (∀t∈(topOf l).tris,aK (aE 0 Ns) (tP t)=some ((topOf l).face t:Int))/\(topOf l).firsts.length=Ns.length/\(∀p,p∉ (topOf l).tris.map tP->aK (aE 0 Ns) p=none)/\Ns.flatten.Nodup/\∀N∈Ns,N≠[]:=by
 obtain⟨⟨lab,firsts,O,hl,e⟩,dn⟩:=R;rw[ij hi]at e;have e1:facesFrom (nW (halvesOf l)) (4*(trianglesOf (halvesOf l)).length+4) (trianglesOf (halvesOf l)) 0 [] (xD (halvesOf l))=(lab,firsts.reverse):=e;have eT:(topOf l).lab=lab:=congrArg Prod.fst e1;have eF:(topOf l).firsts=firsts.reverse:=congrArg Prod.snd e1;refine⟨fun t ht=>?_,by rw[eF,List.length_reverse,hl],fun p hp=>O.rel.out p hp,O.nd,O.ne⟩;have hs:=dn.1 t (by rw[bc hi];exact ht);have:=O.rel.ins t ht;rw[this]at hs ⊢;by_cases q:lab.getD t 0=NONE
 ·rw[ah q]at hs;cases hs
 ·rw[ag q];show _=some (((topOf l).lab.getD t 0:Nat):Int)
  rw[eT]
noncomputable def fO(hs:List Pl):List T3:=hs.flatMap fun p=>[(p.1,p.2,0),(p.1,p.2,1),(p.1,p.2,2),(p.1,p.2,3)]
theorem k7(h:List Nat):fO (h.map hP)=(trianglesOf h).map tP:=by
 unfold fO trianglesOf;induction h with
 |nil=>rfl
 |cons r h ih=>
  rw[bf,fx,fx,cg,ih];congr 1;have e0:tP (4*r)=((hP r).1,(hP r).2,0):=by unfold tP hP;rw[show 4*r/4=r by omega,show 4*r%4=0 by omega];rfl
  have e1:tP (4*r+1)=((hP r).1,(hP r).2,1):=by unfold tP hP;rw[show(4*r+1)/4=r by omega,show(4*r+1)%4=1 by omega];rfl
  have e2:tP (4*r+2)=((hP r).1,(hP r).2,2):=by unfold tP hP;rw[show(4*r+2)/4=r by omega,show(4*r+2)%4=2 by omega];rfl
  have e3:tP (4*r+3)=((hP r).1,(hP r).2,3):=by unfold tP hP;rw[show(4*r+3)/4=r by omega,show(4*r+3)%4=3 by omega];rfl
  simp[e0,e1,e2,e3]
theorem j8(hs:List Pl):(fO hs).length=4*hs.length:=by
 unfold fO;induction hs with
 |nil=>rfl
 |cons p r ih=>rw[fx,aq,ih];simp only[bo,dt];omega
theorem iL(l:Cells):(halvesOf l).length=4*l.length:=by
 unfold halvesOf;rw[List.length_mergeSort];induction l with
 |nil=>rfl
 |cons p r ih=>rw[fx,aq,ih];simp only[bo,dt];omega
section
variable {κ β:Type} [DecidableEq κ]
theorem gQ(f:κ->β)(l:List κ):(l.map fun p=>(p,f p)).map (·.1)=l:=by rw[dq];simp[Function.comp_def]
theorem j7(f:κ->β)(k:κ):∀l:List κ,aK (l.map fun p=>(p,f p)) k=if k∈l then some (f k)else none
 |[]=>by simp[j6]
 |x::N=>by
  rw[bf,bU,j7 f k N];by_cases e:x=k
  ·rw[ah e,ah (by simp[e]),e]
  ·rw[ag e];by_cases h:k∈N
   ·rw[ah h,ah (ar _ h)]
   ·rw[ag h,ag (by rw[ao];rintro(z|z);exact e z.symm;exact h z)]
theorem J0(f:κ->β){l:List κ}{k:κ}(v:β)(h:k∈l):cR (l.map fun p=>(p,f p)) k v=l.map fun p=>(p,if p=k then v else f p):=by unfold cR;rw[ah (rM.mpr (by rw[gQ];exact h)),dq];apply fb;intro x _;simp only[Function.comp];split<;>rfl
theorem wH:∀(L:List κ)(f:κ->β){l:List κ}(v:β),(∀p∈L,p∈l)->cJ (l.map fun p=>(p,f p)) (L.map fun p=>(p,v))=l.map fun p=>(p,if p∈L then v else f p)
 |[],f,l,v,_=>by simp[cJ]
 |k::L,f,l,v,h=>by
  rw[bf];show cJ (cR (l.map fun p=>(p,f p)) k v) (L.map fun p=>(p,v))=_
  rw[J0 f v (h k (by simp)),wH L (fun p=>if p=k then v else f p) v (fun p hp=>h p (by simp[hp]))];apply fb;intro x _;by_cases h1:x∈L
  ·simp[h1]
  ·by_cases h2:x=k
   ·simp[h1,h2]
   ·simp[h1,h2]
theorem qB:∀(ps l:List (κ×β)),(ps.map (·.1)).Nodup->(∀k∈ps.map (·.1),k∉l.map (·.1))->cJ l ps=l++ps
 |[],l,_,_=>by simp[cJ]
 |p::r,l,h,h2=>by
  rw[bf,bx]at h;show cJ (cR l p.1 p.2) r=_
  rw[fU p.2 (h2 p.1 (by simp)),qB r _ h.2,fk]
  ·rfl
  ·intro k hk hm;rw[cg,ay]at hm;rcases hm with hm|hm
   ·exact h2 k (by rw[bf];exact ar _ hk) hm
   ·have:k=p.1:=by simpa using hm
    exact h.1 (this▸hk)
end
theorem FH{hs:List Pl}{p:Pl}(h:p∈hs):lY hs 1 p=0:=by
 show(if p∈aU hs 0 then((0:Nat):Int)else lY hs 0 p)=0
 rw[ah (show p∈aU hs 0 from h)];rfl
theorem mF(hs:List Pl):∀k,∀p∈aU hs k,p∈hs
 |0,_,h=>h
 |k+1,p,h=>mF hs k p (bw.mp h).1
noncomputable def iN(hs:List Pl)(k:Nat):List (Pl×Int):=if k=0 then[]else hs.map fun p=>(p,lY hs k p)
theorem A3{hs:List Pl}(hn:hs.Nodup)(k:Nat):cJ (iN hs k) ((aU hs k).map fun p=>(p,(k:Int)))=iN hs (k+1):=by
 cases k with
 |zero=>
  show cJ [] (hs.map fun p=>(p,((0:Nat):Int)))=hs.map fun p=>(p,lY hs 1 p)
  rw[qB]
  ·rw[nil_append];apply fb;intro p hp;rw[FH hp];rfl
  ·rw[gQ (fun _=>((0:Nat):Int))];exact hn
  ·simp
 |succ k=>
  show cJ (hs.map fun p=>(p,lY hs (k+1) p)) _=hs.map fun p=>(p,lY hs (k+2) p)
  rw[wH (aU hs (k+1)) (fun p=>lY hs (k+1) p) ((k+1:Nat):Int) (mF hs _)];apply fb;intro p _;show _=(p,if p∈aU hs (k+1)then((k+1:Nat):Int)else lY hs (k+1) p)
  by_cases q:p∈aU hs (k+1)
  ·rw[ah q,ah q]
  ·rw[ag q,ag q]
theorem vY{hs:List Pl}{k:Nat}(e:aU hs k=[])(p:Pl):∀m,k<=m->lY hs m p=lY hs k p:=by
 have mV:∀m,k<=m->aU hs m=[]:=by
  intro m hm;induction m with
  |zero=>
       have:k=0:=by omega
       rw[<- this];exact e
  |succ m ih=>
   by_cases h:k<=m
   ·show(aU hs m).filter _=[]
    rw[ih h];rfl
   ·have:k=m+1:=by omega
    rw[<- this];exact e
 intro m hm;induction m with
 |zero=>
      have:k=0:=by omega
      rw[this]
 |succ m ih=>
  by_cases h:k<=m
  ·show(if p∈aU hs m then(m:Int)else lY hs m p)=_
   rw[mV m h,ag (by simp),ih h]
  ·have:k=m+1:=by omega
   rw[this]
def bQ(h:List Nat):List (Pl×Int):=(h.map hP).map fun p=>(p,cY h p)
theorem C5{h:List Nat}(hh:∀r∈h,okR r){k:Nat}(hk:0<k)(e:aU (h.map hP) k=[]):iN (h.map hP) k=bQ h:=by
 unfold iN bQ;rw[ag (by omega)];apply fb;intro p hp;unfold cY;rw[ah hp];have Ah:aU (h.map hP) 64=[]:=by rw[dJ hh,fH hh (au 64)];rfl
 by_cases c:k<=64
 ·rw[vY e p 64 c]
 ·rw[vY Ah p k (by omega)]
theorem IT(h:List Nat)(p:Pl):(aK (bQ h) p).getD (-1)=cY h p:=by
 unfold bQ;rw[j7];by_cases q:p∈h.map hP
 ·rw[ah q];rfl
 ·rw[ag q];unfold cY;rw[ag q];rfl
def hgt(h:List Nat)(p:Pl):Int:=(heightAt (gridOf h) p.1.toNat p.2.toNat:Int)
theorem BN(h:List Nat)(c:Point):hgt h (iP c)=(heightAt (gridOf h) c.1 c.2:Int):=by unfold hgt iP;simp
theorem KC{h:List Nat}(hh:∀r∈h,okR r){r c:Nat}(hr:r∈h){m:Int}(hm:m∈dU h (aM (hP r) c))(oo:∀x∈dU h (aM (hP r) c),m<=x):m=hgt h (aM (hP r) c):=by rw[mJ]at hm oo ⊢;rw[BN];exact F1 hh (FN (hh r hr)).1 hm oo
noncomputable def tO(h:List Nat)(t:T3):Int:=IM t.2.2.toNat (hgt h (aM (t.1,t.2.1) t.2.2.toNat)) (hgt h (aM (t.1,t.2.1) (t.2.2.toNat+1))) (cY h (t.1,t.2.1))
theorem D8{h:List Nat}(hh:∀r∈h,okR r){t:Nat}(ht:t∈trianglesOf h):tO h (tP t)=((nW h).getD t 4:Int):=by
 have hr:=dF.mp ht;rw[FE hh,ah ht,<- KO ((xG hh).mpr hr)];unfold tO;have e1:((tP t).1,(tP t).2.1)=hP (t/4):=rfl;have e2:(tP t).2.2.toNat=t%4:=by unfold tP;dsimp only;omega
 rw[e1,e2,vZ hh hr,mJ,mJ,BN,BN];rfl
def cS(h:List Nat):List (T3×Int):=(fO (h.map hP)).map fun t=>(t,tO h t)
theorem D7{h:List Nat}(hh:∀r∈h,okR r):∀t∈trianglesOf h,aK (cS h) (tP t)=some ((nW h).getD t 4:Int):=by intro t ht;unfold cS;rw[j7,k7,ah (aw.mpr ⟨t,ht,rfl⟩),D8 hh ht]
theorem zY(h:List Nat):∀p,p∉ (trianglesOf h).map tP->aK (cS h) p=none:=by intro p hp;unfold cS;rw[j7,k7,ag hp]
noncomputable def partsFrom(m:Int)(cur:List Int):List Int->List (List Int)
 |[]=>[cur]
 |v::r=>if v=m then cur::partsFrom m [] r else partsFrom m (cur++[v]) r
theorem fW(m:Int):∀(t cur:List Int),∃p ps,parts m t=p::ps/\partsFrom m cur t=(cur++p)::ps
 |[],cur=>⟨[],[],rfl,by simp[partsFrom]⟩
 |v::r,cur=>by
  by_cases e:v=m
  ·obtain⟨p,ps,h1,h2⟩:=fW m r [];refine⟨[],parts m r,?_,?_⟩
   ·simp[parts,e]
   ·simp only[partsFrom,ah e];rw[h2,h1];simp
  ·obtain⟨p,ps,h1,h2⟩:=fW m r (cur++[v]);refine⟨v::p,ps,?_,?_⟩
   ·simp[parts,e,h1]
   ·simp only[partsFrom,ag e];rw[h2];simp
theorem iH(m:Int)(t:List Int):partsFrom m [] t=parts m t:=by obtain⟨p,ps,h1,h2⟩:=fW m t [];rw[h2,h1];simp
theorem iI{m v:Int}{cur r:List Int}(e:v=m):partsFrom m cur (v::r)=cur::partsFrom m [] r:=by simp[partsFrom,e]
theorem gP{m v:Int}{cur r:List Int}(e:¬v=m):partsFrom m cur (v::r)=partsFrom m (cur++[v]) r:=by simp[partsFrom,e]
theorem pD(m:Int)(t:List Int):(parts m t).length<=t.length+1:=by
 have:∀(t cur:List Int),(partsFrom m cur t).length<=t.length+1:=by
  intro t;induction t with
  |nil=>intro cur;simp[partsFrom]
  |cons v r ih=>
   intro cur;by_cases e:v=m
   ·rw[iI e];have:=ih [];simp;omega
   ·rw[gP e];have:=ih (cur++[v]);simp;omega
 rw[<- iH];exact this t []
theorem iG{m:Int}{t p:List Int}(h:p∈parts m t):p.length<=t.length:=by
 have:∀(t cur:List Int),∀p∈partsFrom m cur t,p.length<=cur.length+t.length:=by
  intro t;induction t with
  |nil=>intro cur p hp;simp[partsFrom]at hp;subst hp;simp
  |cons v r ih=>
   intro cur p hp;by_cases e:v=m
   ·rw[iI e]at hp;rcases ao.mp hp with rfl|hp
    ·simp
    ·have:=ih [] p hp;simp at this ⊢;omega
   ·rw[gP e]at hp;have:=ih _ p hp;simp at this ⊢;omega
 rw[<- iH]at h;simpa using this t [] p h
section
variable {α β:Type}{f:α->Option β}
theorem EJ:∀{l:List α}{zs:List β}{x:α}{z:β},l.mapM f=some zs->f x=some z->(l++[x]).mapM f=some (zs++[z]):=by
 intro l zs x z h1 h2;exact lM (by
  have h:=mapM_some h1;induction h with
  |nil=>exact .cons h2 .nil
  |cons r _ ih=>exact .cons r (ih (lM (by assumption))))
theorem pJ{l:List α}{i:Nat}{zs:List β}{x:α}{z:β}(h:(l.take i).mapM f=some zs)(hx:l[i]? =some x)(hz:f x=some z):(l.take (i+1)).mapM f=some (zs++[z]):=by rw[take_snoc hx];exact EJ h hz
theorem lZ.mem{R:α->β->Prop}:∀{l:List α}{m:List β},lZ R l m->∀x∈l,∃y,R x y
 |_,_,.nil,_,h=>by cases h
 |_,_,.cons r t,x,h=>by
  rcases ao.mp h with rfl|h
  ·exact⟨_,r⟩
  ·exact lZ.mem t x h
theorem lZ.len{R:α->β->Prop}:∀{l:List α}{m:List β},lZ R l m->l.length=m.length
 |_,_,.nil=>rfl
 |_,_,.cons _ t=>by simp[lZ.len t]
theorem pK{l:List α}{x:α}(hx:x∈l)(hz:f x=none):l.mapM f=none:=by
 cases h:l.mapM f with
 |none=>rfl
 |some zs=>obtain⟨y,e⟩:=(mapM_some h).mem x hx;rw[hz]at e;cases e
theorem sW{l:List α}{zs:List β}(h:l.mapM f=some zs):zs.length=l.length:=((mapM_some h).len).symm
end
theorem zW{α β:Type}{f:β->α->Option β}{l:List α}{b:β}{x:α}:(l++[x]).foldlM f b=(l.foldlM f b).bind fun c=>f c x:=by
 rw[List.foldlM_append];show(l.foldlM f b>>=fun c=>[x].foldlM f c)=_
 congr 1;funext c;simp
theorem qZ{α β:Type}{f:β->α->Option β}{l:List α}{b c:β}{i:Nat}{x:α}(h:(l.take i).foldlM f b=some c)(hx:l[i]? =some x):(l.take (i+1)).foldlM f b=f c x:=by rw[take_snoc hx,zW,h];rfl
theorem zX{α β:Type}{f:β->α->Option β}{l:List α}{b c:β}{i:Nat}{x:α}(h:(l.take i).foldlM f b=some c)(hx:l[i]? =some x)(hn:f c x=none):l.foldlM f b=none:=by have e:l=l.take (i+1)++l.drop (i+1):=(List.take_append_drop ..).symm;rw[e,List.foldlM_append,qZ h hx,hn];rfl
def fP(a b q:Pl):Prop:=a.1=b.1/\a.1=q.1/\min a.2 b.2<=q.2/\q.2<max a.2 b.2
def n4(n k:Nat):Nat:=if k=0 then n - 1 else k - 1
noncomputable def zV(w:List Pl)(k:Nat)(q:Pl):Prop:=∃a b,w[k]? =some a/\w[n4 w.length k]? =some b/\fP a b q
noncomputable def jM(ws:List (List Pl))(i:Nat)(q:Pl):Prop:=∃w∈ws.take i,∃k,zV w k q
theorem D6(a b:Point)(x y:Nat):qY a b x y=true↔fP (iP b) (iP a) ((x:Int),(y:Int)):=by
 unfold qY fP iP;simp only[dh,beq_iff_eq,decide_eq_true_iff];have e1:(min (b.2:Int) (a.2:Int))=((min a.2 b.2:Nat):Int):=by omega
 have e2:(max (b.2:Int) (a.2:Int))=((max a.2 b.2:Nat):Int):=by omega
 rw[e1,e2];omega
theorem yE(w:Walk)(s:Point×Point):s∈sides w↔∃k,w[k]? =some s.2/\w[n4 w.length k]? =some s.1:=by
 unfold sides;rw[di];have hz:∀(j:Nat),(w.zip (w.drop 1++w.take 1))[j]? =some s↔w[j]? =some s.1/\(w.drop 1++w.take 1)[j]? =some s.2:=by intro j;rw[List.getElem?_zip_eq_some]
 constructor
 ·rintro⟨j,h⟩;obtain⟨h1,h2⟩:=(hz j).mp h;have hj:j<w.length:=(ak.mp h1).1;by_cases c:j+1<w.length
  ·rw[fj (by rw[gm];omega),List.getElem?_drop]at h2;refine⟨j+1,by rw[Nat.add_comm];exact h2,?_⟩;unfold n4;rw[ag (by omega)];exact h1
  ·rw[dc (by rw[gm];omega),gm]at h2;have e:j - (w.length - 1)=0:=by omega
   rw[e,fo (by omega)]at h2;refine⟨0,h2,?_⟩;unfold n4;rw[ah rfl,show w.length - 1=j by omega];exact h1
 ·rintro⟨k,h1,h2⟩;have hk:k<w.length:=(ak.mp h1).1;by_cases c:k=0
  ·subst c;refine⟨w.length - 1,(hz _).mpr ⟨h2,?_⟩⟩;rw[dc (by rw[gm];omega),gm,show w.length - 1 - (w.length - 1)=0 by omega,fo (by omega)];exact h1
  ·refine⟨k - 1,(hz _).mpr ⟨?_,?_⟩⟩
   ·unfold n4 at h2;rw[ag c]at h2;exact h2
   ·rw[fj (by rw[gm];omega),List.getElem?_drop,show 1+(k - 1)=k by omega];exact h1
theorem vT(w:Walk)(x y:Nat):(∃k,zV (iW w) k ((x:Int),(y:Int)))↔∃s∈sides w,qY s.1 s.2 x y=true:=by
 have hl:(iW w).length=w.length:=ai ..;have hg:∀(k:Nat)(a:Pl),(iW w)[k]? =some a↔∃p,w[k]? =some p/\a=iP p:=by intro k a;unfold iW;rw[ba];cases w[k]? <;>simp[eq_comm]
 constructor
 ·rintro⟨k,a,b,h1,h2,h3⟩;obtain⟨p,hp,rfl⟩:=(hg k a).mp h1;rw[hl]at h2;obtain⟨q,hq,rfl⟩:=(hg _ b).mp h2;exact⟨(q,p),(yE w (q,p)).mpr ⟨k,hp,hq⟩,(D6 q p x y).mpr h3⟩
 ·rintro⟨s,hs,hf⟩;obtain⟨k,h1,h2⟩:=(yE w s).mp hs;exact⟨k,iP s.2,iP s.1,(hg k _).mpr ⟨_,h1,rfl⟩,by rw[hl];exact(hg _ _).mpr ⟨_,h2,rfl⟩,(D6 s.1 s.2 x y).mp hf⟩
theorem BW(ws:List Walk)(x y:Nat):jM (iWs ws) (iWs ws).length ((x:Int),(y:Int))↔dN ws x y=true:=by
 unfold jM dN;rw[bc (au _),dz];constructor
 ·rintro⟨w,hw,hk⟩;obtain⟨v,hv,rfl⟩:=aw.mp hw;obtain⟨s,hs,hf⟩:=(vT v x y).mp hk;exact⟨v,hv,dz.mpr ⟨s,hs,hf⟩⟩
 ·rintro⟨v,hv,h⟩;obtain⟨s,hs,hf⟩:=dz.mp h;exact⟨iW v,aw.mpr ⟨v,hv,rfl⟩,(vT v x y).mpr ⟨s,hs,hf⟩⟩
noncomputable def m6(ws:List (List Pl))(i:Nat)(w:List Pl)(k:Nat)(q:Pl):Prop:=jM ws i q\/∃j,j<k/\zV w j q
theorem BX(ws:List (List Pl))(i:Nat)(w:List Pl)(q:Pl):m6 ws i w 0 q↔jM ws i q:=by
 unfold m6;constructor
 ·rintro(h|⟨j,h,_⟩)
  ·exact h
  ·omega
 ·exact .inl
theorem tJ(ws:List (List Pl))(i:Nat)(w:List Pl)(k:Nat)(q:Pl):m6 ws i w (k+1) q↔m6 ws i w k q\/zV w k q:=by
 unfold m6;constructor
 ·rintro(h|⟨j,h1,h2⟩)
  ·exact .inl (.inl h)
  ·by_cases e:j=k
   ·exact .inr (e▸h2)
   ·exact .inl (.inr ⟨j,by omega,h2⟩)
 ·rintro((h|⟨j,h1,h2⟩)|h)
  ·exact .inl h
  ·exact .inr ⟨j,by omega,h2⟩
  ·exact .inr ⟨k,by omega,h⟩
theorem F6{ws:List (List Pl)}{i:Nat}{w:List Pl}(hw:ws[i]? =some w)(q:Pl):m6 ws i w w.length q↔jM ws (i+1) q:=by
 unfold m6 jM;rw[take_snoc hw];constructor
 ·rintro(⟨v,hv,h⟩|⟨j,_,h⟩)
  ·exact⟨v,cc _ hv,h⟩
  ·exact⟨w,by simp,j,h⟩
 ·rintro⟨v,hv,h⟩;rcases ay.mp hv with hv|hv
  ·exact .inl ⟨v,hv,h⟩
  ·have:v=w:=by simpa using hv
   subst this;obtain⟨k,h⟩:=h;obtain⟨a,b,h1,h2⟩:=id h;exact .inr ⟨k,(ak.mp h1).1,h⟩
noncomputable def box:List Pl:=(List.range 65).flatMap fun(x:Nat)=>(List.range 65).map fun(y:Nat)=>(((x:Int),(y:Int)):Pl)
theorem DF{q:Pl}(h1:0<=q.1)(h2:q.1<=64)(h3:0<=q.2)(h4:q.2<=64):q∈box:=by unfold box;refine da.mpr ⟨q.1.toNat,iq.mpr (by omega),aw.mpr ⟨q.2.toNat,iq.mpr (by omega),?_⟩⟩;obtain⟨a,b⟩:=q;simp at h1 h3 ⊢;omega
theorem KY:box.length=4225:=by decide+kernel
theorem tI{ws:List (List Pl)}(ho:∀w∈ws,∀p∈w,(0<=p.1/\p.1<=64)/\(0<=p.2/\p.2<=64)){w:List Pl}(hw:w∈ws){k:Nat}{q:Pl}(h:zV w k q):q∈box:=by obtain⟨a,b,h1,h2,h3,h4,h5,h6⟩:=h;have o1:=ho w hw a (az h1);have o2:=ho w hw b (az h2);exact DF (by omega) (by omega) (by omega) (by omega)
noncomputable def mC(F:Nat->Nat->Bool)(y n:Nat):Cells:=((List.range n).map fun x=>((x,y):Cell)).filter fun c=>bW F c.2 c.1
noncomputable def iU(F:Nat->Nat->Bool)(n:Nat):Cells:=(List.range n).flatMap fun y=>mC F y 64
theorem DZ(F:Nat->Nat->Bool):iU F 64=aR F:=rfl
theorem lH(F:Nat->Nat->Bool)(y n:Nat):mC F y (n+1)=if bW F y n=true then mC F y n++[(n,y)]else mC F y n:=by
 unfold mC;rw[range_succ,cg,gb];by_cases h:bW F y n=true
 ·rw[ah h];simp[h]
 ·rw[ag h];simp[h]
theorem sC(F:Nat->Nat->Bool)(n:Nat):iU F (n+1)=iU F n++mC F n 64:=by unfold iU;rw[range_succ,gz];simp
theorem sE{F:Nat->Nat->Bool}{y n:Nat}{c:Cell}(h:c∈mC F y n):c.1<n/\c.2=y:=by unfold mC at h;obtain⟨h1,_⟩:=bw.mp h;obtain⟨x,hx,rfl⟩:=aw.mp h1;exact⟨iq.mp hx,rfl⟩
theorem uX{F:Nat->Nat->Bool}{n:Nat}{c:Cell}(h:c∈iU F n):c.2<n/\c.1<64:=by unfold iU at h;obtain⟨y,hy,h⟩:=da.mp h;have:=sE h;have:=iq.mp hy;omega
theorem zI(F:Nat->Nat->Bool)(y x:Nat):bW F y x=xor (if x=0 then false else bW F y (x - 1)) (F x y):=by
 cases x with
 |zero=>simp[bW]
 |succ x=>simp[bW]
theorem sF(F:Nat->Nat->Bool)(y n:Nat):(mC F y n).length<=n:=by unfold mC;exact df (fy _ _) (by simp)
theorem oZ(F:Nat->Nat->Bool)(n:Nat):(iU F n).length<=64*n:=by
 induction n with
 |zero=>simp[iU]
 |succ n ih=>rw[sC,aq];have:=sF F n 64;omega
section
variable {κ β:Type} [DecidableEq κ]
noncomputable def Tbl(l:List (κ×β))(S:κ->Prop):Prop:=(l.map (·.1)).Nodup/\∀q,q∈l.map (·.1)↔S q
theorem Tbl.nil:Tbl ([]:List (κ×β)) fun _=>False:=⟨by simp,by simp⟩
theorem Tbl.put{l:List (κ×β)}{S:κ->Prop}(h:Tbl l S)(k:κ)(v:β):Tbl (cR l k v) fun q=>S q\/q=k:=by
 refine⟨jP h.1,fun q=>?_⟩;rw[wI];split
 ·rename_i hk;rw[h.2];constructor
  ·exact .inl
  ·rintro(z|z)
   ·exact z
   ·rw[z];exact(h.2 k).mp hk
 ·rw[ay,h.2];simp
theorem Tbl.iff{l:List (κ×β)}{S T:κ->Prop}(h:Tbl l S)(e:∀q,S q↔T q):Tbl l T:=⟨h.1,fun q=>(h.2 q).trans (e q)⟩
theorem Tbl.len{l:List (κ×β)}{S:κ->Prop}(h:Tbl l S){b:List κ}(hb:∀q,S q->q∈b):l.length<=b.length:=by
 have:=bS h.1 (b:=b) fun q hq=>hb q ((h.2 q).mp hq)
 rwa [ai]at this
end
theorem JW{W:List Walk}(h:sS W):∀w∈iWs W,∀p∈w,(0<=p.1/\p.1<=64)/\(0<=p.2/\p.2<=64):=by intro w hw p hp;obtain⟨v,hv,rfl⟩:=aw.mp hw;obtain⟨q,hq,rfl⟩:=aw.mp hp;have:=h v hv q hq;unfold okP at this;unfold iP;simp only;omega
theorem F5{ws:List (List Pl)}(ho:∀w∈ws,∀p∈w,(0<=p.1/\p.1<=64)/\(0<=p.2/\p.2<=64)){w:List Pl}(hw:w∈ws){i k:Nat}{q:Pl}(h:m6 ws i w k q):q∈box:=by
 rcases h with⟨v,hv,k,h⟩|⟨j,_,h⟩
 ·exact tI ho (List.mem_of_mem_take hv) h
 ·exact tI ho hw h
theorem zU(ws:List (List Pl))(q:Pl):jM ws 0 q↔False:=by simp[jM]
noncomputable def cM(cs:List Pl)(c:Pl)(j:Nat):List (Pl×Int):=(([0,1,2,3].take j).filter fun(s:Nat)=>!decide (aN c s∈cs)).map fun s=>(aM c s,hdg s)
theorem tV(cs:List Pl)(c:Pl):cM cs c 4=eM cs c:=rfl
theorem rF(cs:List Pl)(c:Pl){j:Nat}(hj:j<4):cM cs c (j+1)=cM cs c j++(if aN c j∈cs then[]else[(aM c j,hdg j)]):=by
 have e:([0,1,2,3]:List Nat).take (j+1)=[0,1,2,3].take j++[j]:=by
  have cs:j=0\/j=1\/j=2\/j=3:=by omega
  rcases cs with rfl|rfl|rfl|rfl<;>rfl
 unfold cM;rw[e,gb,cg];congr 1;by_cases h:aN c j∈cs
 ·rw[ah h];simp[h]
 ·rw[ag h];simp[h]
theorem kX(cs:List Pl)(c:Pl)(j:Nat):(cM cs c j).length<=4:=by unfold cM;rw[ai];refine df (fy _ _) ?_;rw[bu];simp;omega
def dD(cs:List Pl)(i:Nat):List (Pl×Int):=(cs.take i).flatMap (eM cs)
theorem nP{cs:List Pl}{i:Nat}{c:Pl}(h:cs[i]? =some c):dD cs (i+1)=dD cs i++eM cs c:=by unfold dD;rw[take_snoc h,gz];simp
theorem zO(cs:List Pl):cJ [] (dD cs cs.length)=d8 cs:=by unfold dD d8 fR;rw[bc (au _)]
theorem zN(cs:List Pl)(i:Nat):(dD cs i).length<=4*i:=by
 induction i with
 |zero=>simp[dD]
 |succ i ih=>
  cases h:cs[i]? with
  |some c=>rw[nP h,aq,<- tV];have:=kX cs c 4;omega
  |none=>
   have hl:cs.length<=i:=jd.mp h;have:dD cs (i+1)=dD cs i:=by unfold dD;rw[bc (by omega),bc hl]
   rw[this];omega
theorem tW{κ β:Type}[DecidableEq κ](l a:List (κ×β))(k:κ)(v:β):cJ l (a++[(k,v)])=cR (cJ l a) k v:=by rw[xR];rfl
structure f9(l:Cells)(seen:List Point)(i:Nat)(ws:List Walk):Prop where
 IH:fC l seen ((c8 l).drop i)
 eq:ws++walksFrom l seen ((c8 l).drop i)=walksOf l
 nd:seen.Nodup
 out:∀y∈seen,(outOf l y).isSome=true
theorem f9.start(l:Cells):f9 l [] 0 [] where
 IH:=fC.starts l
 eq:=by
  show walksFrom l [] (c8 l)=walksFrom l [] (pointsOf l)
  rw[dO l (pointsOf l)];rfl
 nd:=by simp
 out:=by simp
theorem f9.skip{l:Cells}{seen:List Point}{i:Nat}{ws:List Walk}(h:f9 l seen i ws){p:Point}(hi:(c8 l)[i]? =some p)(hs:p∈seen):f9 l seen (i+1) ws:=by
 have g:=h.IH;have e:=h.eq;rw[drop_cons hi]at g e;refine⟨g.skip (.inl hs),?_,h.nd,h.out⟩;rw[<- e];show _=ws++(if seen.contains p=true then _ else _)
 rw[ah (by simpa using hs)]
theorem f9.done{l:Cells}{seen:List Point}{ws:List Walk}(h:f9 l seen (c8 l).length ws):ws=walksOf l:=by have e:=h.eq;rw[ij (au _)]at e;rw[<- e];simp[walksFrom]
theorem f9.len{l:Cells}(hp:pinched l=false){seen:List Point}{i:Nat}{ws:List Walk}(h:f9 l seen i ws):seen.length<=4*l.length:=by
 have h1:(iW seen).Nodup:=d6 h.nd fun x _ y _ e=>fZ e
 have h2:=bS (b:=(d8 (iW l)).map (·.1)) h1 fun p hm=>by
  obtain⟨q,hq,rfl⟩:=aw.mp hm;have:=h.out q hq;cases e:outOf l q with
  |none=>rw[e]at this;cases this
  |some d=>exact(pQ hp _).mpr ⟨q,d,rfl,e⟩
 have h3:=nO (iW l);simp only[iW,ai]at h2 h3;omega
theorem f9.next{l:Cells}(hp:pinched l=false){seen:List Point}{i:Nat}{ws:List Walk}(h:f9 l seen i ws){p:Point}(hi:(c8 l)[i]? =some p)(hs:p∉seen):
  ∃f:List (Pl×Int),mB (aK (d8 (iW l))) (iP p) f (iP p)/\f≠[]/\(f.map (·.1)).Nodup/\(∀y∈f.map (·.1),y∉iW seen)/\∃(nv:List Point)(w:Walk),iW nv=iW seen++f.map (·.1)/\iW w=bL none f/\f9 l nv (i+1) (ws++[w]):=by
 have g:=h.IH;have e:=h.eq;rw[drop_cons hi]at g e;have hm:=az hi;have ho:=(bw.mp hm).2;obtain⟨d,ho⟩:∃d,outOf l p=some d:=by
  cases q:outOf l p with
  |none=>rw[q]at ho;cases ho
  |some d=>exact⟨d,rfl⟩
 obtain⟨f,p1,p2,p3,p4,p5,p6,p7⟩:=G7 hp g hs ho;have ek:(f.map iF).map (·.1)=iW (f.map (·.1)):=by simp[iW,iF,Function.comp_def]
 have nd2:(f.map (·.1)).Nodup:=by rw[ek]at p3;unfold iW at p3;exact List.Pairwise.of_map iP (fun a b zi z=>zi (by rw[z])) p3
 refine⟨f.map iF,p1,by intro z;exact p2 (by simpa using z),p3,?_,seen++f.map (·.1),cornersOf f,?_,p7,p5,?_,?_,?_⟩
 ·intro y hy;rw[ek]at hy;obtain⟨q,hq,rfl⟩:=aw.mp hy;intro z;exact p4 q hq (gR.mp z)
 ·rw[ek];simp[iW]
 ·rw[<- e,p6];simp
 ·rw[cv];exact⟨h.nd,nd2,fun a ha b hb z=>p4 b hb (z▸ha)⟩
 ·intro y hy;rcases ay.mp hy with hy|hy
  ·exact h.out y hy
  ·have hk:iP y∈(f.map iF).map (·.1):=by rw[ek];exact gR.mpr hy
   have pa:∀{a b:Pl}{r:List (Pl×Int)},mB (aK (d8 (iW l))) a r b->∀z∈r.map (·.1),(aK (d8 (iW l)) z).isSome=true:=by
    intro a b r pr;induction pr with
    |nil p=>intro z hz;cases hz
    |cons h1 _ _ _ ih=>
     intro z hz;rcases ao.mp hz with rfl|hz
     ·rw[h1];rfl
     ·exact ih z hz
   have:=pa p1 _ hk;rw[aQ]at this;obtain⟨q,d',h1,h2⟩:=(pQ hp _).mp this;rw[fZ h1,h2];rfl
noncomputable def vA(c:Pl):List Pl:=[(2*c.1+0,2*c.2+0),(2*c.1+1,2*c.2+0),(2*c.1+0,2*c.2+1),(2*c.1+1,2*c.2+1)]
theorem yJ{cs:List Pl}{i:Nat}{c:Pl}(h:cs[i]? =some c):fV (cs.take (i+1))=fV (cs.take i)++vA c:=by unfold fV;rw[take_snoc h,gz];simp[vA]
theorem AV(cs:List Pl):(fV cs).length=4*cs.length:=by
 unfold fV;induction cs with
 |nil=>rfl
 |cons c r ih=>rw[fx,aq,ih,bo];simp;omega
theorem E8(c:Pl){j:Nat}{q:Pl}(hq:([(0,0),(1,0),(0,1),(1,1)]:List Pl)[j]? =some q):(vA c).take (j+1)=(vA c).take j++[(2*c.1+q.1,2*c.2+q.2)]:=by
 have hj:j<4:=(ak.mp hq).1;have cs:j=0\/j=1\/j=2\/j=3:=by omega
 rcases cs with rfl|rfl|rfl|rfl<;>(cases hq;rfl)
theorem CB(p:Pl){j:Nat}{q:Pl}(hq:([(-1,-1),(0,-1),(1,-1),(-1,0),(1,0),(-1,1),(0,1),(1,1)]:List Pl)[j]? =some q):(f7 p)[j]? =some (p.1+q.1,p.2+q.2):=by
 have hj:j<8:=(ak.mp hq).1;have cs:j=0\/j=1\/j=2\/j=3\/j=4\/j=5\/j=6\/j=7:=by omega
 rcases cs with rfl|rfl|rfl|rfl|rfl|rfl|rfl|rfl<;>(cases hq;rfl)
theorem L1(h:List Nat)(p:Pl){j:Nat}{q:Pl}(hq:([(-1,-1),(0,-1),(-1,0),(0,0)]:List Pl)[j]? =some q):(dU h p)[j]? =some (cY h (p.1+q.1,p.2+q.2)+1):=by
 have hj:j<4:=(ak.mp hq).1;have cs:j=0\/j=1\/j=2\/j=3:=by omega
 rcases cs with rfl|rfl|rfl|rfl<;>(cases hq;rfl)
structure G2(h:List Nat)(ht:List (Pl×Int)):Prop where
 val:∀q z,aK ht q=some z->z=hgt h q
 all:∀x∈h,∀c,c<4->aK ht (aM (hP x) c)=some (hgt h (aM (hP x) c))
structure gE(h:List Nat)(ht:List (Pl×Int))(i j:Nat):Prop where
 val:∀q z,aK ht q=some z->z=hgt h q
 old:∀m x,m<i->h[m]? =some x->∀c,c<4->(aK ht (aM (hP x) c)).isSome=true
 cur:∀x,h[i]? =some x->∀c,c<j->(aK ht (aM (hP x) c)).isSome=true
 len:ht.length<=4*i+j
theorem gE.start(h:List Nat):gE h [] 0 0:=⟨fun q z e=>(by cases e),fun m x hm=>by omega,fun x _ c hc=>by omega,cn _⟩
theorem gE.keep{h:List Nat}{ht:List (Pl×Int)}{i j:Nat}(a:gE h ht i j){r:Nat}(hr:h[i]? =some r)(hs:(aK ht (aM (hP r) j)).isSome=true):gE h ht i (j+1):=by
 refine⟨a.val,a.old,fun x hx c hc=>?_,by have:=a.len;omega⟩;by_cases e:c=j
 ·subst e;rw[hr]at hx;cases hx;exact hs
 ·exact a.cur x hx c (by omega)
theorem gE.put{h:List Nat}{ht:List (Pl×Int)}{i j:Nat}(a:gE h ht i j){r:Nat}(hr:h[i]? =some r):gE h (cR ht (aM (hP r) j) (hgt h (aM (hP r) j))) i (j+1):=by
 have mono:∀q,(aK ht q).isSome=true->(aK (cR ht (aM (hP r) j) (hgt h (aM (hP r) j))) q).isSome=true:=by
  intro q hq;rw[gX];split
  ·rfl
  ·exact hq
 refine⟨fun q z e=>?_,fun m x hm hx c hc=>mono _ (a.old m x hm hx c hc),fun x hx c hc=>?_,?_⟩
 ·rw[gX]at e;by_cases z':q=aM (hP r) j
  ·rw[ah z']at e;cases e;rw[z']
  ·rw[ag z']at e;exact a.val q z e
 ·by_cases e:c=j
  ·subst e;rw[hr]at hx;cases hx;rw[gX,ah rfl];rfl
  ·exact mono _ (a.cur x hx c (by omega))
 ·have:=l8 ht (aM (hP r) j) (hgt h (aM (hP r) j));have:=a.len;omega
theorem gE.next{h:List Nat}{ht:List (Pl×Int)}{i:Nat}(a:gE h ht i 4):gE h ht (i+1) 0:=by
 refine⟨a.val,fun m x hm hx c hc=>?_,by intro x _ c hc;omega,by have:=a.len;omega⟩;by_cases e:m=i
 ·subst e;exact a.cur x hx c hc
 ·exact a.old m x (by omega) hx c hc
theorem gE.done{h:List Nat}{ht:List (Pl×Int)}(a:gE h ht h.length 0):G2 h ht:=by
 refine⟨a.val,fun x hx c hc=>?_⟩;obtain⟨m,hm⟩:=di.mp hx;have:=a.old m x (ak.mp hm).1 hm c hc;cases e:aK ht (aM (hP x) c)with
 |none=>rw[e]at this;cases this
 |some z=>rw[a.val _ z e]
def wL(p:Pl):List T3:=[(p.1,p.2,0),(p.1,p.2,1),(p.1,p.2,2),(p.1,p.2,3)]
theorem AM{hs:List Pl}{i:Nat}{p:Pl}(h:hs[i]? =some p):fO (hs.take (i+1))=fO (hs.take i)++wL p:=by unfold fO;rw[take_snoc h,gz];simp[wL]
theorem DW(p:Pl){j:Nat}(hj:j<4):(wL p).take (j+1)=(wL p).take j++[(p.1,p.2,(j:Int))]:=by
 have cs:j=0\/j=1\/j=2\/j=3:=by omega
 rcases cs with rfl|rfl|rfl|rfl<;>rfl
theorem DT{hs:List Pl}{t:T3}(h:t∈fO hs):(t.1,t.2.1)∈hs:=by unfold fO at h;obtain⟨p,hp,h⟩:=da.mp h;simp at h;rcases h with rfl|rfl|rfl|rfl<;>exact hp
theorem DV{hs:List Pl}(hn:hs.Nodup){i j:Nat}{p:Pl}(h:hs[i]? =some p)(hj:j<4):(p.1,p.2,(j:Int))∉fO (hs.take i)++(wL p).take j:=by
 intro z;rcases ay.mp z with z|z
 ·have:=DT z;simp only at this;obtain⟨m,hm⟩:=di.mp this;have jw:m<i:=by have:=(ak.mp hm).1;rw[bu]at this;omega
  rw[fo jw]at hm;have h1:=(ak.mp hm).1;have hpw:=List.pairwise_iff_getElem.mp hn m i h1 (ak.mp h).1 jw;have e1:=(ak.mp hm).2;have e2:=(ak.mp h).2;exact hpw (e1.trans e2.symm)
 ·have cs:j=0\/j=1\/j=2\/j=3:=by omega
  rcases cs with rfl|rfl|rfl|rfl<;>simp[wL]at z
theorem DU(hs:List Pl)(i:Nat):(fO (hs.take i)).length<=4*hs.length:=by rw[j8,bu];omega
section
variable {α:Type}{ok:α->Prop}{nb:α->List α}{U:α->Prop}{t0:α}
theorem gJ.iff{N N' W:List α}(h:gJ ok nb U t0 N W)(e:∀x,x∈N'↔x∈N):gJ ok nb U t0 N' W:=
 ⟨fun x hx=>h.new x ((e x).mp hx),h.wait,h.start.imp (e t0).mpr id,fun x hx u hu ou uu=>(h.oX x ((e x).mp hx) u hu ou uu).imp (e u).mpr id⟩
theorem gJ.pop{N W:List α}{x:α}(h:gJ ok nb U t0 N (W++[x]))(o0:ok t0)(u0:¬U t0)(hx:¬ok x\/U x\/x∈N):gJ ok nb U t0 N W:=
 h.skip o0 u0 (x:=x) (fun y hy=>cc _ hy) (fun y hy=>by
  rcases ay.mp hy with q|q
  ·exact .inl q
  ·exact .inr (by simpa using q)) hx
theorem gJ.push{N W:List α}{x:α}(h:gJ ok nb U t0 N (W++[x]))(ox:ok x)(ux:¬U x):gJ ok nb U t0 (N++[x]) (W++nb x):=by
 refine(h.take (x:=x) (W':=W++nb x) (by simp) ox ux (fun y hy=>?_) (fun y hy=>?_) fun u hu _ _=>bh _ hu).iff fun y=>by simp[or_comm]
 ·rcases ay.mp hy with q|q
  ·exact .inl (cc _ q)
  ·exact .inr q
 ·rcases ay.mp hy with q|q
  ·exact .inl (cc _ q)
  ·exact .inr (by simpa using q)
end
theorem FC{h:List Nat}{t:T3}{z:Int}(e:aK (cS h) t=some z):0<=t.2.2/\t.2.2<4:=by
 have hm:t∈(trianglesOf h).map tP:=by apply Classical.byContradiction;intro q;rw[zY h t q]at e;cases e
 obtain⟨u,_,rfl⟩:=aw.mp hm;unfold tP;dsimp only;omega
theorem lR(h:List Nat):(cS h).map (·.1)=(trianglesOf h).map tP:=by unfold cS;rw[gQ,k7]
theorem yA(h:List Nat):(trianglesOf h).length=4*h.length:=by have:=j8 (h.map hP);rw[k7,ai,ai]at this;exact this
theorem CQ:∀(Ns:List (List T3))(j:Nat)(x:T3×Int),x∈aE j Ns->(j:Int)<=x.2
 |[],j,x,h=>by cases h
 |N::r,j,x,h=>by
  rcases ay.mp (show x∈N.map (fun p=>(p,(j:Int)))++aE (j+1) r from h)with h|h
  ·obtain⟨p,_,rfl⟩:=aw.mp h;exact Int.le_refl _
  ·have:=CQ r (j+1) x h;omega
theorem yY:∀(A B:List (List T3))(j:Nat),(∀N∈A,N≠[])->(∀N∈B,N≠[])->aE j A=aE j B->A=B
 |[],[],_,_,_,_=>rfl
 |[],N::r,j,_,hB,e=>by
  have e:([]:List (T3×Int))=N.map (fun p=>(p,(j:Int)))++aE (j+1) r:=e;have:=hB N (by simp);cases N with
  |nil=>exact absurd rfl this
  |cons _ _=>simp at e
 |N::r,[],j,hA,_,e=>by
  have e:N.map (fun p=>(p,(j:Int)))++aE (j+1) r=[]:=e;have:=hA N (by simp);cases N with
  |nil=>exact absurd rfl this
  |cons _ _=>simp at e
 |N::r,M::s,j,hA,hB,e=>by
  have e:N.map (fun p=>(p,(j:Int)))++aE (j+1) r=M.map (fun p=>(p,(j:Int)))++aE (j+1) s:=e;have none_of:∀q:List (List T3),(aE (j+1) q).filter (fun x=>decide (x.2=(j:Int)))=[]:=by intro q;rw[List.filter_eq_nil_iff];intro x hx;have:=CQ q (j+1) x hx;simp;omega
  have all_of:∀q:List T3,(q.map (fun p=>(p,(j:Int)))).filter (fun x=>decide (x.2=(j:Int)))=q.map (fun p=>(p,(j:Int))):=by intro q;rw[List.filter_eq_self];intro x hx;obtain⟨p,_,rfl⟩:=aw.mp hx;simp
  have e2:=congrArg (List.filter (fun x=>decide (x.2=(j:Int)))) e;rw[gb,gb,none_of,none_of,all_of,all_of,dj,dj]at e2;have eN:N=M:=by
   have:=congrArg (List.map Prod.fst) e2;rw[dq,dq]at this;have id1:∀q:List T3,q.map (Prod.fst∘fun p=>(p,(j:Int)))=q:=fun q=>map_id q
   rw[id1,id1]at this;exact this
  subst eN;have e3:=List.append_cancel_left e;rw[yY r s (j+1) (fun x hx=>hA x (by simp[hx])) (fun x hx=>hB x (by simp[hx])) e3]
theorem vK:∀(Ns:List (List T3))(k i:Nat)(t:T3)(m:Int),(∀N∈Ns,N≠[])->(aE k Ns)[i]? =some (t,m)->(i=0/\m=(k:Int))\/(0<i/\∃t' m',(aE k Ns)[i - 1]? =some (t',m')/\(m=m'\/m=m'+1))
 |[],k,i,t,m,_,h=>by simp[aE]at h
 |N::r,k,i,t,m,jl,h=>by
  have h:(N.map (fun p=>(p,(k:Int)))++aE (k+1) r)[i]? =some (t,m):=h;show(i=0/\m=(k:Int))\/(0<i/\∃t' m',(N.map (fun p=>(p,(k:Int)))++aE (k+1) r)[i - 1]? =some (t',m')/\(m=m'\/m=m'+1))
  have hN:0<N.length:=fh.mpr (jl N (by simp));have lN:(N.map (fun p=>(p,(k:Int)))).length=N.length:=by simp
  have inN:∀j,j<N.length->∃t',(N.map (fun p=>(p,(k:Int)))++aE (k+1) r)[j]? =some (t',(k:Int)):=by intro j hj;refine⟨N[j],?_⟩;rw[fj (by omega),ba,bq hj];rfl
  by_cases c:i<N.length
  ·obtain⟨t',qz⟩:=inN i c;rw[qz]at h;cases h;by_cases i0:i=0
   ·exact .inl ⟨i0,rfl⟩
   ·obtain⟨t2,ht2⟩:=inN (i - 1) (by omega);exact .inr ⟨by omega,t2,_,ht2,.inl rfl⟩
  ·rw[dc (by omega),lN]at h;rcases vK r (k+1) (i - N.length) t m (fun x hx=>jl x (by simp[hx])) h with⟨e1,e2⟩|⟨e1,t',m',e2,e3⟩
   ·obtain⟨t2,ht2⟩:=inN (i - 1) (by omega);exact .inr ⟨by omega,t2,_,ht2,.inr (by omega)⟩
   ·refine .inr ⟨by omega,t',m',?_,e3⟩;rw[dc (by omega),lN,show i - 1 - N.length=i - N.length - 1 by omega];exact e2
structure qD(Ns:List (List T3))(i:Nat)(Fs:List (List T3)):Prop where
 eq:aE 0 Fs=(aE 0 Ns).take i
 ne:∀F∈Fs,F≠[]
theorem qD.start(Ns:List (List T3)):qD Ns 0 []:=⟨rfl,by simp⟩
theorem qD.done{Ns Fs:List (List T3)}(jl:∀N∈Ns,N≠[])(h:qD Ns (aE 0 Ns).length Fs):Fs=Ns:=by have e:=h.eq;rw[bc (au _)]at e;exact yY Fs Ns 0 h.ne jl e
theorem qD.step{Ns Fs:List (List T3)}(jl:∀N∈Ns,N≠[]){i:Nat}{t:T3}{m:Int}(h:qD Ns i Fs)(hi:(aE 0 Ns)[i]? =some (t,m)):
  (m=(Fs.length:Int)/\qD Ns (i+1) (Fs++[[]++[t]]))\/∃F L,Fs=F++[L]/\m=(F.length:Int)/\qD Ns (i+1) (F++[L++[t]]):=by
 have ph:=(ak.mp hi).1;have new:m=(Fs.length:Int)->qD Ns (i+1) (Fs++[[]++[t]]):=by
  intro em;refine⟨?_,fun F hF=>?_⟩
  ·rw[iY,h.eq,take_snoc hi,em];rfl
  ·rcases ay.mp hF with hF|hF
   ·exact h.ne F hF
   ·have:F=[t]:=by simpa using hF
    rw[this];simp
 rcases vK Ns 0 i t m jl hi with⟨i0,m0⟩|⟨ip,t',m',hi',hm⟩
 ·subst i0;have hF:Fs=[]:=by
   cases Fs with
   |nil=>rfl
   |cons F r=>
    have e:=h.eq;have:=h.ne F (by simp);cases F with
    |nil=>exact absurd rfl this
    |cons _ _=>simp[aE]at e
  subst hF;exact .inl ⟨by rw[m0];rfl,new (by rw[m0];rfl)⟩
 ·have Bq:Fs≠[]:=by intro z;have e:=h.eq;rw[z]at e;have:=congrArg List.length e;rw[bu]at this;simp[aE]at this;omega
  obtain⟨F,L,eF⟩:∃F L,Fs=F++[L]:=⟨Fs.dropLast,Fs.getLast Bq,(ir Bq).symm⟩
  subst eF;have hL:L≠[]:=h.ne L (by simp);have e:=h.eq;rw[iY]at e;have el:(aE 0 F++L.map fun p=>(p,(F.length:Int))).length=i:=by rw[e,bu];omega
  have hLp:0<L.length:=fh.mpr hL;have xl:(aE 0 F++L.map fun p=>(p,(F.length:Int)))[i - 1]? =some (L[L.length - 1],(F.length:Int)):=by rw[aq,ai]at el;rw[dc (by omega),ba,show i - 1 - (aE 0 F).length=L.length - 1 by omega,bq (by omega)];rfl
  rw[e,fo (by omega),hi']at xl;cases xl;rcases hm with hm|hm
  ·refine .inr ⟨F,L,rfl,hm,?_,fun G hG=>?_⟩
   ·rw[iY,cg,<- fk,e,take_snoc hi,hm];rfl
   ·rcases ay.mp hG with hG|hG
    ·exact h.ne G (by simp[hG])
    ·have:G=L++[t]:=by simpa using hG
     rw[this];simp
  ·have em:m=((F++[L]).length:Int):=by rw[hm,aq];simp
   exact .inl ⟨em,new em⟩
section
variable {i j s:Int}{t u:List Int}
theorem B6{t:List Int}{f:Top->RoofB.Answer}(h:houseOf (RoofBNeutral.text t)=none):RoofB.ofTop (RoofBNeutral.text t) f=[-1]:=by unfold RoofB.ofTop;rw[h];rfl
theorem sT{t:List Int}{f:Top->RoofB.Answer}{l:Cells}(h:houseOf (RoofBNeutral.text t)=some l):RoofB.ofTop (RoofBNeutral.text t) f=f (topOf l):=by unfold RoofB.ofTop;rw[h]
end
theorem vX{h:List Nat}{p:Pl}(m:p∈h.map hP):aK (bQ h) p=some (cY h p):=by unfold bQ;rw[j7,ah m]
theorem IL{h:List Nat}{t:T3}(h0:0<=t.2.2)(h4:t.2.2<4):(aK (cS h) t).isSome=true↔(t.1,t.2.1)∈h.map hP:=by
 rw[aQ];unfold cS;rw[gQ];unfold fO;rw[da];constructor
 ·rintro⟨p,hp,ht⟩;simp only[ao,gp,or_false]at ht;rcases ht with rfl|rfl|rfl|rfl<;>exact hp
 ·intro hp;refine⟨_,hp,?_⟩;have cs:t.2.2=0\/t.2.2=1\/t.2.2=2\/t.2.2=3:=by omega
  obtain⟨a,b,c⟩:=t;simp only at cs;rcases cs with rfl|rfl|rfl|rfl<;>simp
theorem Numbering.tN{l:Cells}{Ns:List (List T3)}(R:Numbering (halvesOf l) (trianglesOf (halvesOf l)).length Ns){k:Nat}{N:List T3}(hk:Ns[k]? =some N)(p:T3):p∈N↔∃t∈(topOf l).tris,tP t=p/\(topOf l).face t=k:=by
 obtain⟨a1,_,a3,nd,_⟩:=R.all (au _);constructor
 ·intro hp;have e:=(rK Ns 0 p ((0+k:Nat):Int) nd).mpr ⟨k,N,hk,hp,rfl⟩;by_cases q:p∈(topOf l).tris.map tP
  ·obtain⟨t,ht,rfl⟩:=aw.mp q;rw[a1 t ht]at e;exact⟨t,ht,rfl,by have:=Option.some.inj e;omega⟩
  ·rw[a3 p q]at e;cases e
 ·rintro⟨t,ht,rfl,hf⟩;obtain⟨i,N',h1,h2,h3⟩:=(rK Ns 0 (tP t) _ nd).mp (a1 t ht);have:i=k:=by omega
  subst this;rw[hk]at h1;cases h1;exact h2
theorem Numbering.side{l:Cells}{Ns:List (List T3)}(R:Numbering (halvesOf l) (trianglesOf (halvesOf l)).length Ns):∀N∈Ns,∀t∈N,0<=t.2.2/\t.2.2<4:=by
 intro N hN p hp;obtain⟨k,hk⟩:=di.mp hN;obtain⟨t,ht,rfl,_⟩:=(R.tN hk p).mp hp;show 0<=((t%4:Nat):Int)/\((t%4:Nat):Int)<4
 omega
theorem z7{α:Type}:∀{Ns:List (List α)},(∀N∈Ns,N≠[])->Ns.length<=Ns.flatten.length
 |[],_=>au _
 |N::r,h=>by
  have:=z7 (Ns:=r) fun M hM=>h M (ar _ hM)
  have:=fh.mpr (h N bb);rw[flatten_cons,aq,bo];omega
theorem HS{α:Type}:∀{Ns:List (List α)}{N:List α},N∈Ns->N.length<=Ns.flatten.length
 |M::r,N,h=>by
  rw[flatten_cons,aq];rcases ao.mp h with rfl|h
  ·omega
  ·have:=HS h;omega
theorem Numbering.small{l:Cells}{Ns:List (List T3)}(R:Numbering (halvesOf l) (trianglesOf (halvesOf l)).length Ns)(mf:l.length<=256):Ns.flatten.length<=4096/\Ns.length<=4096/\∀N∈Ns,N.length<=4096:=by
 obtain⟨lab,firsts,O,_,_⟩:=R.ex;have h2:=bS O.nd O.sub;have tl:=j8 ((halvesOf l).map hP);rw[k7,ai,ai,iL]at tl;rw[ai]at h2;have f:Ns.flatten.length<=4096:=by omega
 exact⟨f,df (z7 O.ne) f,fun N hN=>df (HS hN) f⟩
theorem AO{h:List Nat}{t:T3}(h0:0<=t.2.2)(h4:t.2.2<4):t∈fO (h.map hP)↔(t.1,t.2.1)∈h.map hP:=by rw[<- IL h0 h4,aQ];unfold cS;rw[gQ]
theorem FA{h:List Nat}{t:T3}(h0:0<=t.2.2)(h4:t.2.2<4)(m:(t.1,t.2.1)∈h.map hP):aK (cS h) t=some (tO h t):=by unfold cS;rw[j7,ah ((AO h0 h4).mpr m)]
section
variable {κ μ:Type} [DecidableEq κ] [DecidableEq μ]
def cW(k:κ)(L:List κ):Nat:=L.countP fun x=>decide (x=k)
theorem bT(k x:κ)(L:List κ):cW k (x::L)=cW k L+if x=k then 1 else 0:=by unfold cW;rw[ft];by_cases c:x=k<;>simp[c]
theorem kR(k:κ)(A B:List κ):cW k (A++B)=cW k A+cW k B:=List.countP_append ..
theorem tU(k x:κ):cW k [x]=if x=k then 1 else 0:=by rw[bT];simp[cW]
theorem kQ{k:κ}{L:List κ}:0<cW k L↔k∈L:=by
 unfold cW;rw[List.countP_pos_iff];constructor
 ·rintro⟨a,ha,e⟩;exact(bp e)▸ha
 ·intro h;exact⟨k,h,decide_eq_true rfl⟩
theorem w9{k:κ}{L:List κ}(h:k∉L):cW k L=0:=by have:=mt (kQ (k:=k) (L:=L)).mp h;omega
theorem iA{k:κ}{g:κ->Bool}(h:g k=true):∀L:List κ,cW k (L.filter g)=cW k L
 |[]=>rfl
 |x::L=>by
  rw[filter_cons];by_cases c:x=k
  ·subst c;rw[ah h,bT,bT,iA h L]
  ·by_cases q:g x=true
   ·rw[ah q,bT,bT,iA h L]
   ·rw[ag q,bT,ag c,iA h L];rfl
theorem FP{A B:List κ}(h:A.Perm B)(k:κ):cW k A=cW k B:=h.countP_eq _
structure c9(jj:List (κ×Int))(L:List κ):Prop where
 nd:(jj.map (·.1)).Nodup
 get:∀k,aK jj k=if k∈L then some (cW k L:Int)else none
theorem c9.start:c9 ([]:List (κ×Int)) []:=⟨gw,fun k=>by simp[aK]⟩
theorem c9.step{jj:List (κ×Int)}{L:List κ}(C:c9 jj L)(k:κ):c9 (cR jj k ((aK jj k).getD 0+1)) (L++[k]):=by
 refine⟨jP C.nd,fun j=>?_⟩;rw[gX];by_cases e:j=k
 ·subst e;rw[ah rfl,ah (by simp),C.get];by_cases h:j∈L
  ·rw[ah h,kR,tU,ah rfl];rfl
  ·rw[ag h,kR,tU,ah rfl,w9 h];rfl
 ·rw[ag e,C.get];have:(j∈L++[k])↔j∈L:=by simp[e]
  by_cases h:j∈L
  ·rw[ah h,ah (this.mpr h),kR,tU,ag (fun z=>e z.symm)];simp
  ·rw[ag h,ag (fun z=>h (this.mp z))]
theorem K5{jj:List (κ×Int)}(nd:(jj.map (·.1)).Nodup):∀{k:κ}{v:Int},(k,v)∈jj↔aK jj k=some v:=by
 induction jj with
 |nil=>intro k v;simp[aK]
 |cons x r ih=>
  intro k v;rw[bf,bx]at nd;rw[bU,ao];by_cases c:x.1=k
  ·rw[ah c];constructor
   ·rintro(e|e)
    ·rw[<- e]
    ·exact absurd (aw.mpr ⟨_,e,c.symm⟩) nd.1
   ·intro e;left;cases e;rw[<- c]
  ·rw[ag c,<- ih nd.2];constructor
   ·rintro(e|e)
    ·rw[<- e]at c;exact absurd rfl c
    ·exact e
   ·exact fun e=>.inr e
theorem c9.mem{jj:List (κ×Int)}{L:List κ}(C:c9 jj L){k:κ}{v:Int}:(k,v)∈jj↔k∈L/\v=(cW k L:Int):=by
 rw[K5 C.nd,C.get];by_cases h:k∈L
 ·rw[ah h];exact⟨fun e=>⟨h,(Option.some.inj e).symm⟩,fun e=>by rw[e.2]⟩
 ·rw[ag h];exact⟨fun e=>(by cases e),fun e=>absurd e.1 h⟩
theorem c9.keys{jj:List (κ×Int)}{L:List κ}(C:c9 jj L)(k:κ):k∈jj.map (·.1)↔k∈L:=by
 rw[<- aQ,C.get];by_cases h:k∈L
 ·rw[ah h];simp[h]
 ·rw[ag h];simp[h]
theorem c9.len{jj:List (κ×Int)}{L:List κ}(C:c9 jj L):jj.length<=L.length:=by
 have:=bS C.nd fun k hk=>(C.keys k).mp hk
 rw[ai]at this;exact this
noncomputable def wsum(f:κ->μ)(ps:List (κ×Int))(m:μ):Int:=((ps.filter fun p=>decide (f p.1=m)).map (·.2)).sum
theorem wsum_snoc(f:κ->μ)(ps:List (κ×Int))(p:κ×Int)(m:μ):wsum f (ps++[p]) m=wsum f ps m+if f p.1=m then p.2 else 0:=by unfold wsum;rw[gb,cg,List.sum_append];by_cases c:f p.1=m<;>simp[c]
structure uQ(f:κ->μ)(jj:List (μ×Int))(ps:List (κ×Int)):Prop where
 nd:(jj.map (·.1)).Nodup
 get:∀m,aK jj m=if m∈ps.map (fun p=>f p.1)then some (wsum f ps m)else none
theorem uQ.start(f:κ->μ):uQ f [] []:=⟨gw,fun m=>by simp[aK]⟩
theorem DL(f:κ->μ):∀{ps:List (κ×Int)}{m:μ},m∉ps.map (fun p=>f p.1)->wsum f ps m=0:=by
 intro ps m h;unfold wsum;have:ps.filter (fun p=>decide (f p.1=m))=[]:=by rw[List.filter_eq_nil_iff];intro p hp z;exact h (aw.mpr ⟨p,hp,bp z⟩)
 rw[this];rfl
theorem uQ.step{f:κ->μ}{jj:List (μ×Int)}{ps:List (κ×Int)}(C:uQ f jj ps)(p:κ×Int):uQ f (cR jj (f p.1) ((aK jj (f p.1)).getD 0+p.2)) (ps++[p]):=by
 refine⟨jP C.nd,fun j=>?_⟩;rw[gX,wsum_snoc];by_cases e:j=f p.1
 ·subst e;rw[ah rfl,ah (by simp),ah rfl,C.get];by_cases h:f p.1∈ps.map (fun p=>f p.1)
  ·rw[ah h];rfl
  ·rw[ag h,DL f h];rfl
 ·have e':¬f p.1=j:=fun z=>e z.symm
  rw[ag e,C.get];simp only[ag e',Int.add_zero];have:(j∈(ps++[p]).map (fun p=>f p.1))↔j∈ps.map (fun p=>f p.1):=by rw[cg,ay];simp[e]
  by_cases h:j∈ps.map (fun p=>f p.1)
  ·rw[ah h,ah (this.mpr h)]
  ·rw[ag h,ag (fun z=>h (this.mp z))]
theorem oE(g:κ->Bool)(p:κ):∀L:List κ,L.countP g=(if g p=true then cW p L else 0)+(L.filter fun x=>decide (x≠p)).countP g
 |[]=>by simp[cW]
 |x::L=>by
  have ih:=oE g p L;rw[ft,bT,filter_cons,ih];by_cases c:x=p
  ·subst c;simp only[ne_eq,not_true_eq_false,decide_false,dv,if_false,if_true];split<;>omega
  ·have c2:decide (x≠p)=true:=by simpa using c
   simp only[c2,c,if_false,if_true,ft,add_zero];omega
theorem rO(f:κ->μ)(m:μ):∀{jj:List (κ×Int)}{L:List κ},c9 jj L->wsum f jj m=((L.countP fun x=>decide (f x=m):Nat):Int)
 |[],L,C=>by
  have:L=[]:=by
   cases L with
   |nil=>rfl
   |cons x r=>have:=C.get x;rw[ah bb]at this;cases this
  subst this;rfl
 |(p,v)::r,L,C=>by
  have hv:v=(cW p L:Int):=(C.mem.mp bb).2;have nd:=C.nd;rw[bf,bx]at nd;have C2:c9 r (L.filter fun x=>decide (x≠p)):=by
   refine⟨nd.2,fun k=>?_⟩;by_cases c:k=p
   ·subst c;rw[ag (by simp)];cases e:aK r k with
    |none=>rfl
    |some z=>exact absurd ((aQ k r).mp (by rw[e];rfl)) nd.1
   ·have:=C.get k;rw[bU,ag (fun z=>c z.symm)]at this;rw[this];have hm:(k∈L.filter fun x=>decide (x≠p))↔k∈L:=by simp[c]
    by_cases h:k∈L
    ·rw[ah h,ah (hm.mpr h),iA (by simpa using c)]
    ·rw[ag h,ag (fun z=>h (hm.mp z))]
  have ih:=rO f m C2;rw[oE _ p L];have e:wsum f ((p,v)::r) m=(if f p=m then v else 0)+wsum f r m:=by unfold wsum;rw[filter_cons];by_cases c:f p=m<;>simp[c]
  rw[e,ih,hv];by_cases c:f p=m<;>simp[c]
theorem uQ.done{f:κ->μ}{jj:List (μ×Int)}{ps:List (κ×Int)}{L:List κ}(C:uQ f jj ps)(D:c9 ps L):c9 jj (L.map f):=by
 refine⟨C.nd,fun m=>?_⟩;rw[C.get,rO f m D];have hm:(m∈ps.map (fun p=>f p.1))↔m∈L.map f:=by
  constructor
  ·intro h;obtain⟨p,hp,rfl⟩:=aw.mp h;exact aw.mpr ⟨p.1,(D.keys p.1).mp (aw.mpr ⟨p,hp,rfl⟩),rfl⟩
  ·intro h;obtain⟨k,hk,rfl⟩:=aw.mp h;obtain⟨p,hp,rfl⟩:=aw.mp ((D.keys k).mpr hk);exact aw.mpr ⟨p,hp,rfl⟩
 have hc:(L.countP fun x=>decide (f x=m))=cW m (L.map f):=by unfold cW;rw[countP_map];rfl
 by_cases h:m∈L.map f
 ·rw[ah h,ah (hm.mpr h),hc]
 ·rw[ag h,ag (fun z=>h (hm.mp z))]
end
theorem nN{a b:Nat×Nat}:lessTile a b=true↔a.1<b.1\/(a.1=b.1/\a.2<=b.2):=by unfold lessTile;simp[gy,dh]
theorem EO{a b:Nat×Nat}(h:lessTile a b=true)(g:lessTile b a=true):a=b:=by rw[nN]at h g;exact Prod.ext (by omega) (by omega)
structure SH{κ:Type}[DecidableEq κ](jj:List (κ×Nat))(L:List κ):Prop where
 nd:(jj.map (·.1)).Nodup
 mem:∀x n,(x,n)∈jj↔x∈L/\n=cW x L
 head:(jj.map (·.1)).head?=L.head?
theorem tT:∀(l:List (Nat×Nat)),l.Pairwise (fun a b=>lessTile a b=true)->SH (counted l) l
 |[],_=>⟨gw,fun x n=>by simp[counted],rfl⟩
 |x::r,hs=>by
  rw[ff]at hs;have ih:=tT r hs.2;have e:counted (x::r)=match counted r with
   |(y,n)::l=>if x=y then(y,n+1)::l else(x,1)::(y,n)::l
   |[]=>[(x,1)]:=rfl
  rw[e];cases q:counted r with
  |nil=>
   rw[q]at ih;have hr:r=[]:=by
    cases r with
    |nil=>rfl
    |cons z r=>have:=ih.head;simp at this
   subst hr;refine⟨by simp,fun z n=>?_,rfl⟩;simp only[gk,Prod.mk.injEq];constructor
   ·rintro⟨rfl,rfl⟩;simp[bT,cW]
   ·rintro⟨rfl,h⟩;exact⟨rfl,by simpa[bT,cW]using h⟩
  |cons yn l=>
   obtain⟨y,n⟩:=yn;rw[q]at ih;obtain⟨r',hr⟩:∃r',r=y::r':=by
    cases r with
    |nil=>have:=ih.head;simp at this
    |cons z r'=>have:=ih.head;simp at this;exact⟨r',by rw[this]⟩
   have hn:n=cW y r:=((ih.mem y n).mp bb).2;have nd:=ih.nd;rw[bf,bx]at nd;have inl:∀z k,(z,k)∈l->z≠y:=fun z k h e=>nd.1 (aw.mpr ⟨(z,k),h,e⟩)
   by_cases c:x=y
   ·subst c;simp only[if_true];refine⟨by rw[bf,bx];exact nd,fun z k=>?_,rfl⟩;by_cases cz:z=x
    ·subst cz;rw[ao,bT,ah rfl,<- hn];constructor
     ·rintro(h|h)
      ·cases h;exact⟨bb,rfl⟩
      ·exact absurd rfl (inl z k h)
     ·rintro⟨_,rfl⟩;exact .inl rfl
    ·have m1:=ih.mem z k;rw[ao]at m1 ⊢;rw[ao,bT,ag (fun e=>cz e.symm),add_zero];have n1:¬((z,k)=(x,n)):=fun e=>cz (Prod.mk.inj e).1
     have n2:¬((z,k)=(x,n+1)):=fun e=>cz (Prod.mk.inj e).1
     simp only[n1,n2,cz,false_or]at m1 ⊢;exact m1
   ·have xr:x∉r:=fun h=>by
     have h1:=hs.1 y (by rw[hr];exact bb);rw[hr]at h hs;rcases ao.mp h with h|h
     ·exact c h
     ·exact c (EO h1 ((ff.mp hs.2).1 x h))
    simp only[c,if_false];refine⟨?_,fun z k=>?_,rfl⟩
    ·rw[bf,bx];refine⟨fun h=>?_,ih.nd⟩;obtain⟨⟨z,k⟩,hz,e⟩:=aw.mp h;have e:z=x:=e;exact xr (e▸ ((ih.mem z k).mp hz).1)
    ·rw[ao,ih.mem z k];by_cases cz:z=x
     ·subst cz;rw[bT,ah rfl,w9 xr];constructor
      ·rintro(h|h)
       ·cases h;exact⟨bb,rfl⟩
       ·exact absurd h.1 xr
      ·rintro⟨_,rfl⟩;exact .inl rfl
     ·rw[ao,bT,ag (fun e=>cz e.symm),add_zero];have n1:¬((z,k)=(x,1)):=fun e=>cz (Prod.mk.inj e).1
      simp only[n1,cz,false_or]
theorem oY{α:Type}[DecidableEq α]{A B:List α}(ha:A.Nodup)(hb:B.Nodup)(h:∀x,x∈A↔x∈B):A.length=B.length:=
 Nat.le_antisymm (bS ha fun x hx=>(h x).mp hx) (bS hb fun x hx=>(h x).mpr hx)
theorem iJ{α β:Type}:∀{l:List (α×β)},(l.map (·.1)).Nodup->l.Nodup
 |[],_=>gw
 |x::l,h=>by rw[bf,bx]at h;rw[bx];exact⟨fun m=>h.1 (aw.mpr ⟨x,m,rfl⟩),iJ h.2⟩
theorem iO{κ μ:Type}[DecidableEq κ][DecidableEq μ]{f:κ->μ}(inj:∀{x y},f x=f y->x=y)(x:κ):∀L:List κ,cW (f x) (L.map f)=cW x L
 |[]=>rfl
 |y::L=>by
  rw[bf,bT,bT,iO inj x L];by_cases c:y=x
  ·rw[ah c,ah (by rw[c])]
  ·rw[ag c,ag (fun e=>c (inj e))]
theorem K9{x y:Nat×Nat}(e:iP x=iP y):x=y:=by unfold iP at e;exact Prod.ext (by have:=congrArg Prod.fst e;simp at this;omega) (by have:=congrArg Prod.snd e;simp at this;omega)
theorem DX{κ μ:Type}[DecidableEq κ][DecidableEq μ]{f:κ->μ}(inj:∀{x y},f x=f y->x=y){jj:List (μ×Int)}{tn:List (κ×Nat)}{L M:List κ}(C:c9 jj (L.map f))(N:SH tn M)(hp:∀x,cW x M=cW x L):
  jj.length=tn.length/\∀v:Nat,(jj.map (·.2)).count (v:Int)=tn.countP (fun x=>x.2==v):=by
 have ml:∀x,x∈M↔x∈L:=fun x=>by rw[<- kQ,<- kQ,hp]
 have same:∀z,z∈jj↔z∈tn.map fun x=>(f x.1,(x.2:Int)):=by
  rintro⟨k,v⟩;rw[C.mem];constructor
  ·rintro⟨h,rfl⟩;obtain⟨x,hx,rfl⟩:=aw.mp h;exact aw.mpr ⟨(x,cW x L),(N.mem x _).mpr ⟨(ml x).mpr hx,(hp x).symm⟩,by rw[iO inj]⟩
  ·intro h;obtain⟨⟨x,n⟩,hx,e⟩:=aw.mp h;obtain⟨h1,h2⟩:=(N.mem x n).mp hx;cases e;refine⟨aw.mpr ⟨x,(ml x).mp h1,rfl⟩,?_⟩;show(n:Int)=((cW (f x) (L.map f):Nat):Int)
   rw[iO inj,h2,hp]
 have ndT:=iJ C.nd;have ndN:(tn.map fun x=>(f x.1,(x.2:Int))).Nodup:=by
  apply iJ;rw[dq];have:((fun x:μ×Int=>x.1)∘fun x:κ×Nat=>(f x.1,(x.2:Int)))=f∘ (·.1):=rfl;rw[this,<- dq];exact d6 N.nd fun a _ b _ e=>inj e
 refine⟨?_,fun v=>?_⟩
 ·have:=oY ndT ndN same;rw[ai]at this;exact this
 ·rw[List.count_eq_countP,countP_map,gh];have h2:tn.countP (fun x=>x.2==v)=(tn.map fun x=>(f x.1,(x.2:Int))).countP (fun z=>z.2==(v:Int)):=by
   rw[countP_map];congr 1;funext x;show(x.2==v)=((x.2:Int)==(v:Int))
   rw[ck,beq_iff_eq,beq_iff_eq];omega
  rw[h2,gh];refine oY (ndT.filter _) (ndN.filter _) fun z=>?_
  rw[bw,bw,same z];rfl
theorem vO{α:Type}(g:α->Bool):∀l:List α,l.length=l.countP g+l.countP fun x=>!g x
 |[]=>rfl
 |x::l=>by rw[bo,ft,ft,vO g l];cases g x<;>simp<;>omega
theorem GB{jj:List (Pl×Int)}{T:Top}{z:Size}{k:Nat}(C:c9 jj (((T.trisOf k).map (T.tile z)).map iP)):
  RoofB.told [(tally z (T.tiles z k)).1,(tally z (T.tiles z k)).2]=[((jj.map (·.2)).count (4*((z.wide:Int)*(z.high:Int))):Int),(jj.length:Int) - ((jj.map (·.2)).count (4*((z.wide:Int)*(z.high:Int))):Int)]:=by
 have srt:(((T.trisOf k).map (T.tile z)).mergeSort lessTile).Pairwise (fun a b=>lessTile a b=true):=by
  apply List.pairwise_mergeSort
  ·intro a b c h g;rw[nN]at h g ⊢;omega
  ·intro a b;rw[gy,nN,nN];omega
 have N:=tT _ srt;have hp:∀x,cW x (((T.trisOf k).map (T.tile z)).mergeSort lessTile)=cW x ((T.trisOf k).map (T.tile z)):=fun x=>FP (List.mergeSort_perm _ _) x
 obtain⟨e1,e2⟩:=DX (f:=iP) (fun{x y} e=>K9 e) C N hp;have e3:=e2 (4*(z.wide*z.high));have ev:((4*(z.wide*z.high):Nat):Int)=4*((z.wide:Int)*(z.high:Int)):=by push_cast;rfl
 rw[ev]at e3;have e4:T.tiles z k=counted (((T.trisOf k).map (T.tile z)).mergeSort lessTile):=rfl;rw[<- e4]at e1 e3;have e5:(T.tiles z k).length=(tally z (T.tiles z k)).1+(tally z (T.tiles z k)).2:=vO (fun x:(Nat×Nat)×Nat=>x.2==4*(z.wide*z.high)) (T.tiles z k);have e6:(tally z (T.tiles z k)).1=(T.tiles z k).countP (fun x=>x.2==4*(z.wide*z.high)):=rfl;rw[<- e6]at e3;generalize (tally z (T.tiles z k)).1=a at e3 e5 ⊢;generalize (tally z (T.tiles z k)).2=b at e5 ⊢;unfold RoofB.told;simp only[bf,ie];rw[e3,e1,e5];congr 2;omega
noncomputable def e7(w h:Int):Bool:=decide (2<=w)&& (decide (w<=64)&& (decide (w%2=0)&& (decide (1<=h)&& decide (h<=64))))
noncomputable def bH(h:List Nat)(t:T3):Pl:=(cY h (t.1,t.2.1),if tO h t%2=0 then t.1 else t.2.1)
def cH(w h:Int)(p:Pl):Pl:=(p.1/h,(p.2+w/2*(p.1/h%2))/w)
theorem yC{w h:Int}(w0:0<=w)(h0:0<=h):e7 w h=(RoofB.sizeOf w.toNat h.toNat).ok:=by unfold e7 RoofB.sizeOf Size.ok;rw[ck];simp only[dh,decide_eq_true_eq,beq_iff_eq];omega
theorem JC{l:Cells}(hl:∀c∈l,c.1<64/\c.2<64){w h:Int}(s:e7 w h=true){t:Nat}(ht:t∈(topOf l).tris):cH w h (bH (halvesOf l) (tP t))=iP ((topOf l).tile (RoofB.sizeOf w.toNat h.toNat) t):=by
 have hr:t/4∈halvesOf l:=dF.mp ht;have hv:0<(gridOf (halvesOf l)).val (t/4):=(xG (dR hl)).mpr hr;unfold e7 at s;simp only[dh,decide_eq_true_eq]at s;obtain⟨s1,s2,s3,s4,s5⟩:=s;obtain⟨w',rfl⟩:=Int.eq_ofNat_of_zero_le (show 0<=w by omega);obtain⟨h',rfl⟩:=Int.eq_ofNat_of_zero_le (show 0<=h by omega);have e1:((tP t).1,(tP t).2.1)=hP (t/4):=rfl;unfold bH;rw[e1,vZ (dR hl) hr,D8 (dR hl) ht];have ef:(topOf l).faces t=(nW (halvesOf l)).getD t 4:=rfl;have et:(topOf l).tile (RoofB.sizeOf (w':Int).toNat (h':Int).toNat) t=(((gridOf (halvesOf l)).val (t/4) - 1)/h',((if(topOf l).faces t%2=0 then iOf (t/4)else jOf (t/4))+if((gridOf (halvesOf l)).val (t/4) - 1)/h'%2=0 then 0 else w'/2)/w'):=rfl;rw[et,<- ef];generalize (topOf l).faces t=fc;obtain⟨v,Ab⟩:∃v,(gridOf (halvesOf l)).val (t/4)=v+1:=⟨(gridOf (halvesOf l)).val (t/4) - 1,by omega⟩
 rw[Ab];have e2:(((v+1:Nat):Int) - 1)=(v:Int):=by omega
 have e3:v+1 - 1=v:=by omega
 rw[e2,e3];have al:(if(fc:Int)%2=0 then(tP t).1 else(tP t).2.1)=((if fc%2=0 then iOf (t/4)else jOf (t/4):Nat):Int):=by
  by_cases c:fc%2=0
  ·rw[ah c,ah (by omega)];rfl
  ·rw[ag c,ag (by omega)];rfl
 unfold cH iP;simp only;rw[al];generalize (if fc%2=0 then iOf (t/4)else jOf (t/4))=a;have d1:(v:Int)/(h':Int)=((v/h':Nat):Int):=by simp
 have d2:(w':Int)/2=((w'/2:Nat):Int):=by simp
 rw[d1,d2];generalize v/h'=q;generalize w'/2=u;refine Prod.ext rfl ?_;show((a:Int)+(u:Int)*((q:Int)%2))/(w':Int)=(((a+if q%2=0 then 0 else u)/w':Nat):Int)
 have:(a:Int)+(u:Int)*((q:Int)%2)=((a+if q%2=0 then 0 else u:Nat):Int):=by
  by_cases c:q%2=0
  ·rw[ah c,show(q:Int)%2=0 by omega];simp
  ·rw[ag c,show(q:Int)%2=1 by omega];simp
 rw[this];simp
section
variable {κ:Type} [DecidableEq κ]
theorem c9.congr{jj:List (κ×Int)}{L M:List κ}(C:c9 jj L)(h:∀k,cW k L=cW k M):c9 jj M:=by
 refine⟨C.nd,fun k=>?_⟩;have hm:k∈L↔k∈M:=by rw[<- kQ,<- kQ,h]
 rw[C.get,h];by_cases c:k∈L
 ·rw[ah c,ah (hm.mp c)]
 ·rw[ag c,ag (fun z=>c (hm.mpr z))]
theorem uM{α:Type}[DecidableEq α]{A B:List α}(ha:A.Nodup)(hb:B.Nodup)(h:∀x,x∈A↔x∈B)(g:α->κ)(k:κ):cW k (A.map g)=cW k (B.map g):=by
 unfold cW;rw[countP_map,countP_map,gh,gh];refine oY (ha.filter _) (hb.filter _) fun z=>?_
 rw[bw,bw,h z]
end
theorem JE{l:Cells}(hl:∀c∈l,c.1<64/\c.2<64){a b:Nat}(ha:a∈(topOf l).tris)(hb:b∈(topOf l).tris)(e:tP a=tP b):a=b:=by have h1:=pS (dR hl _ (dF.mp ha)) (dR hl _ (dF.mp hb)) (show hP (a/4)=hP (b/4)from Prod.ext (show(tP a).1=(tP b).1 by rw[e]) (show(tP a).2.1=(tP b).2.1 by rw[e]));have h2:((a%4:Nat):Int)=((b%4:Nat):Int):=congrArg (fun z=>z.2.2) e;omega
theorem qI:∀{h:List Nat},h.Nodup->(trianglesOf h).Nodup
 |[],_=>gw
 |r::h,nd=>by
  rw[bx]at nd;have e:trianglesOf (r::h)=[4*r,4*r+1,4*r+2,4*r+3]++trianglesOf h:=rfl;rw[e,cv];refine⟨by simp,qI nd.2,fun a ha b hb e=>?_⟩;subst e;have h1:=dF.mp hb;have h2:a/4=r:=by simp only[ao,gp,or_false]at ha;omega
  exact nd.1 (h2▸h1)
theorem BY{l:Cells}(hn:l.Nodup)(hl:∀c∈l,c.1<64/\c.2<64){Ns:List (List T3)}(R:Numbering (halvesOf l) (trianglesOf (halvesOf l)).length Ns){k:Nat}{N:List T3}(hk:Ns[k]? =some N){w h:Int}(s:e7 w h=true){jj:List (Pl×Int)}
  (C:c9 jj ((N.map (bH (halvesOf l))).map (cH w h))):c9 jj ((((topOf l).trisOf k).map ((topOf l).tile (RoofB.sizeOf w.toNat h.toNat))).map iP):=by
 have sub:∀t∈(topOf l).trisOf k,t∈(topOf l).tris:=fun t ht=>(bw.mp ht).1
 have e:(((topOf l).trisOf k).map ((topOf l).tile (RoofB.sizeOf w.toNat h.toNat))).map iP=(((topOf l).trisOf k).map tP).map (fun p=>cH w h (bH (halvesOf l) p)):=by rw[dq,dq];apply fb;intro t ht;exact(JC hl s (sub t ht)).symm
 rw[e];rw[dq]at C;refine C.congr fun m=>uM ?_ ?_ (fun p=>?_) _ m
 ·exact(List.sublist_flatten_of_mem (az hk)).nodup (R.all (au _)).2.2.2.1
 ·refine d6 ?_ fun a ha b hb e=>JE hl (sub a ha) (sub b hb) e
  exact(qI ((fL hn hl).imp fun{a b} h=>by omega)).filter _
 ·rw[R.tN hk p,aw];constructor
  ·rintro⟨t,ht,rfl,hf⟩;exact⟨t,bw.mpr ⟨ht,by rw[hf];simp⟩,rfl⟩
  ·rintro⟨t,ht,rfl⟩;obtain⟨h1,h2⟩:=bw.mp ht;exact⟨t,h1,rfl,by simpa using h2⟩
theorem Numbering.half{l:Cells}{Ns:List (List T3)}(R:Numbering (halvesOf l) (trianglesOf (halvesOf l)).length Ns):∀N∈Ns,∀t∈N,(t.1,t.2.1)∈(halvesOf l).map hP:=by intro N hN p hp;obtain⟨k,hk⟩:=di.mp hN;obtain⟨t,ht,rfl,_⟩:=(R.tN hk p).mp hp;exact aw.mpr ⟨t/4,dF.mp ht,rfl⟩
theorem CI(f:Nat->Nat)(g:Nat->Int):∀l:List Nat,(∀k∈l,((f k:Nat):Int)=g k)->(((l.map f).sum:Nat):Int)=(l.map g).sum
 |[],_=>rfl
 |k::l,h=>by
  rw[bf,sum_cons,bf,sum_cons,<- h k bb,<- CI f g l fun x hx=>h x (ar _ hx)]
  push_cast
  rfl
theorem E6{α:Type}{l:List α}{g:Nat->α}(h:∀k x,l[k]? =some x->g k=x):(List.range l.length).map g=l:=by
 apply List.ext_getElem?;intro k;rw[ba];by_cases c:k<l.length
 ·rw[List.getElem?_range c,bq c];exact congrArg some (h k _ (bq c))
 ·rw[List.getElem?_eq_none (by rw[List.length_range];omega),List.getElem?_eq_none (by omega)];rfl
noncomputable def oP(n:Int)(jj:List (Pl×Int)):Int×Int:=(((jj.map (·.2)).count n:Int),(jj.length:Int) - ((jj.map (·.2)).count n:Int))
section
variable {l:Cells}{Ns:List (List T3)}{w h:Int}{jy:List (List (Pl×Int))}
theorem FD(hn:l.Nodup)(hl:∀c∈l,c.1<64/\c.2<64)(R:Numbering (halvesOf l) (trianglesOf (halvesOf l)).length Ns)(w0:0<=w)(h0:0<=h)(s:e7 w h=true){k:Nat}{N:List T3}(hk:Ns[k]? =some N){jj:List (Pl×Int)}
  (C:c9 jj ((N.map (bH (halvesOf l))).map (cH w h))):(((tally (RoofB.sizeOf w.toNat h.toNat) ((topOf l).tiles (RoofB.sizeOf w.toNat h.toNat) k)).1:Nat):Int)=(oP (4*w*h) jj).1/\(((tally (RoofB.sizeOf w.toNat h.toNat) ((topOf l).tiles (RoofB.sizeOf w.toNat h.toNat) k)).2:Nat):Int)=(oP (4*w*h) jj).2:=by
 have e:=GB (BY hn hl R hk s C);have ev:4*(((RoofB.sizeOf w.toNat h.toNat).wide:Int)*((RoofB.sizeOf w.toNat h.toNat).high:Int))=4*w*h:=by
  show 4*((w.toNat:Int)*(h.toNat:Int))=_
  rw[fu w0,fu h0,Int.mul_assoc]
 rw[ev]at e;have e1:=(List.cons.inj e).1;have e2:=(List.cons.inj (List.cons.inj e).2).1;exact⟨e1,e2⟩
theorem E3(hn:l.Nodup)(hl:∀c∈l,c.1<64/\c.2<64)(R:Numbering (halvesOf l) (trianglesOf (halvesOf l)).length Ns)(w0:0<=w)(h0:0<=h)(s:e7 w h=true)(ht:jy.length=Ns.length)
  (C:∀(k:Nat) jj N,jy[k]? =some jj->Ns[k]? =some N->c9 jj ((N.map (bH (halvesOf l))).map (cH w h))):
  ((((topOf l).roofTiles (RoofB.sizeOf w.toNat h.toNat)).1:Nat):Int)=(jy.map fun x=>(oP (4*w*h) x).1).sum/\((((topOf l).roofTiles (RoofB.sizeOf w.toNat h.toNat)).2:Nat):Int)=(jy.map fun x=>(oP (4*w*h) x).2).sum:=by
 have key:∀k jj,jy[k]? =some jj->_:=fun k jj hk=>by have jw:=(ak.mp hk).1;have hN:Ns[k]? =some (Ns[k]'(by omega)):=bq (by omega);exact FD hn hl R w0 h0 s hN (C k jj _ hk hN)
 have fl:=(R.all (au _)).2.1;have gen:∀(f:Nat×Nat->Nat)(g:Int×Int->Int),(∀k jj,jy[k]? =some jj->((f (tally (RoofB.sizeOf w.toNat h.toNat) ((topOf l).tiles (RoofB.sizeOf w.toNat h.toNat) k)):Nat):Int)=g (oP (4*w*h) jj))->((((((List.range (topOf l).firsts.length).map fun(k:Nat)=>tally (RoofB.sizeOf w.toNat h.toNat) ((topOf l).tiles (RoofB.sizeOf w.toNat h.toNat) k)).map f).sum:Nat)):Int)=(jy.map fun x=>g (oP (4*w*h) x)).sum:=by
  intro f g q;rw[dq,fl,<- ht];refine(CI _ (fun k=>((f (tally (RoofB.sizeOf w.toNat h.toNat) ((topOf l).tiles (RoofB.sizeOf w.toNat h.toNat) k)):Nat):Int)) _ (fun _ _=>rfl)).trans ?_;congr 1;have:=E6 (l:=jy.map fun x=>g (oP (4*w*h) x)) (g:=fun k=>((f (tally (RoofB.sizeOf w.toNat h.toNat) ((topOf l).tiles (RoofB.sizeOf w.toNat h.toNat) k)):Nat):Int)) fun k x hx=>by
   rw[ba]at hx;cases e:jy[k]? with
   |none=>rw[e]at hx;cases hx
   |some jj=>rw[e]at hx;cases hx;exact q k jj e
  rw[ai]at this;exact this
 exact⟨gen (·.1) (·.1) fun k jj hk=>(key k jj hk).1,gen (·.2) (·.2) fun k jj hk=>(key k jj hk).2⟩
end
noncomputable def lt3(y:Nat×Nat)(j:Nat)(x:Nat×Nat)(b:Nat):Prop:=y.1+y.2<x.1+x.2\/(y.1+y.2=x.1+x.2/\(y.2<x.2\/(y.2=x.2/\j<b)))
theorem vV(a b:Nat×Nat):fewer a b=true↔a.1+a.2<b.1+b.2\/(a.1+a.2=b.1+b.2/\a.2<b.2):=by unfold fewer;simp only[gy,dh,decide_eq_true_eq,beq_iff_eq]
theorem qA(xs:List (Nat×Nat)):∀(r:List (Nat×Nat))(i b:Nat)(x:Nat×Nat),xs.drop i=r->xs[b]? =some x->b<i->(∀(j:Nat) y,j<i->xs[j]? =some y->¬lt3 y j x b) ->
  ∃z,xs[bestFrom i b x r]? =some z/\∀(j:Nat) y,xs[j]? =some y->¬lt3 y j z (bestFrom i b x r)
 |[],i,b,x,hd,hx,hb,h=>by refine⟨x,hx,fun j y hy=>h j y ?_ hy⟩;have:=(ak.mp hy).1;have:=List.drop_eq_nil_iff.mp hd;omega
 |y::r,i,b,x,hd,hx,hb,h=>by
  have hi:i<xs.length:=by
   rcases lt_or_ge i xs.length with c|c
   ·exact c
   ·rw[ij c]at hd;cases hd
  rw[jc hi]at hd;obtain⟨e1,e2⟩:=List.cons.inj hd;have hy:xs[i]? =some y:=by rw[bq hi,e1]
  show∃z,xs[if fewer y x=true then bestFrom (i+1) i y r else bestFrom (i+1) b x r]? =some z/\∀(j:Nat) y',xs[j]? =some y'->¬lt3 y' j z (if fewer y x=true then bestFrom (i+1) i y r else bestFrom (i+1) b x r)
  by_cases c:fewer y x=true
  ·rw[ah c];rw[vV]at c;refine qA xs r (i+1) i y e2 hy (by omega) fun j y' hj qu=>?_
   by_cases cj:j=i
   ·subst cj;rw[hy]at qu;cases qu;unfold lt3;omega
   ·have:=h j y' (by omega) qu;unfold lt3 at this ⊢;omega
  ·rw[ag c];rw[vV]at c;refine qA xs r (i+1) b x e2 hx (by omega) fun j y' hj qu=>?_
   by_cases cj:j=i
   ·subst cj;rw[hy]at qu;cases qu;unfold lt3;omega
   ·exact h j y' (by omega) qu
theorem FU{T:Top}{l:List Size}(jl:l≠[]):∃z,(l.map T.roofTiles)[RoofB.bestSize T l]? =some z/\∀(j:Nat) y,(l.map T.roofTiles)[j]? =some y->¬lt3 y j z (RoofB.bestSize T l):=by
 unfold RoofB.bestSize;cases e:l.map T.roofTiles with
 |nil=>exact absurd (List.map_eq_nil_iff.mp e) jl
 |cons x r=>
  refine qA (x::r) r 1 0 x rfl rfl (by decide) fun j y hj hy=>?_
  have:j=0:=by omega
  subst this;cases hy;unfold lt3;omega
theorem FV{xs:List (Nat×Nat)}{i k:Nat}{x z:Nat×Nat}(hi:xs[i]? =some x)(hk:xs[k]? =some z)(h1:∀(j:Nat) y,xs[j]? =some y->¬lt3 y j z k)(h2:¬lt3 z k x i):i=k:=by have:=h1 i x hi;unfold lt3 at this h2;omega
def fN:List Int->List (Int×Int)
 |a::b::r=>(a,b)::fN r
 |_=>[]
theorem xY:∀z:List Int,z.length%2=0->RoofBNeutral.two z=some ((fN z).map fun p=>(p.1.toNat,p.2.toNat))
 |[],_=>rfl
 |[a],h=>by simp at h
 |a::b::r,h=>by
  have:=xY r (by simp at h ⊢;omega);show(RoofBNeutral.two r).map _=_
  rw[this];rfl
theorem rS:∀z:List Int,(fN z).length=z.length/2
 |[]=>by simp[fN]
 |[a]=>by simp[fN]
 |a::b::r=>by
  show(fN r).length+1=(r.length+1+1)/2
  rw[rS r];omega
theorem rT:∀(z:List Int)(i:Nat)(p:Int×Int),(fN z)[i]? =some p->z[2*i]? =some p.1/\z[2*i+1]? =some p.2
 |[],i,p,h=>by cases h
 |[a],i,p,h=>by cases h
 |a::b::r,i,p,h=>by
  cases i with
  |zero=>cases h;exact⟨rfl,rfl⟩
  |succ i=>have:=rT r i p h;exact this
theorem mT{z:List Int}{p:Int×Int}(h:p∈fN z):p.1∈z/\p.2∈z:=by obtain⟨i,hi⟩:=di.mp h;obtain⟨h1,h2⟩:=rT z i p hi;exact⟨az h1,az h2⟩
section
variable {t z:List Int}
def zs(z:List Int):List (Nat×Nat):=(fN z).map fun p=>(p.1.toNat,p.2.toNat)
theorem xN(he:z.length%2=0):RoofBNeutral.f [[9],t,z]=if(zs z).any (fun(z:Nat×Nat)=>!(RoofB.sizeOf z.1 z.2).ok)=true then RoofB.RANGE else RoofB.ofTop (RoofBNeutral.text t) fun T=>match zs z with
  |[]=>RoofB.EMPTY
  |_::_=>RoofB.told [RoofB.bestSize T ((zs z).map fun(z:Nat×Nat)=>RoofB.sizeOf z.1 z.2),(T.roofTiles (RoofB.sizeOf ((zs z).getD (RoofB.bestSize T ((zs z).map fun(z:Nat×Nat)=>RoofB.sizeOf z.1 z.2)) (2,1)).1 ((zs z).getD (RoofB.bestSize T ((zs z).map fun(z:Nat×Nat)=>RoofB.sizeOf z.1 z.2)) (2,1)).2)).1,(T.roofTiles (RoofB.sizeOf ((zs z).getD (RoofB.bestSize T ((zs z).map fun(z:Nat×Nat)=>RoofB.sizeOf z.1 z.2)) (2,1)).1 ((zs z).getD (RoofB.bestSize T ((zs z).map fun(z:Nat×Nat)=>RoofB.sizeOf z.1 z.2)) (2,1)).2)).2]:=by
 have e:RoofBNeutral.callOf [[9],t,z]=some (.size (RoofBNeutral.text t) (zs z)):=by
  show(RoofBNeutral.two z).map _=_
  rw[xY z he];rfl
 unfold RoofBNeutral.f;rw[e];rfl
theorem size_range(he:z.length%2=0)(z0:∀x∈z,0<=x){p:Int×Int}(hp:p∈fN z)(s:e7 p.1 p.2=false):RoofBNeutral.f [[9],t,z]=[-3]:=by
 rw[xN he,ah]
 ·rfl
 ·rw[dz];refine⟨(p.1.toNat,p.2.toNat),aw.mpr ⟨p,hp,rfl⟩,?_⟩;obtain⟨m1,m2⟩:=mT hp;rw[<- yC (z0 _ m1) (z0 _ m2),s];rfl
theorem oV(z0:∀x∈z,0<=x)(s:∀p∈fN z,e7 p.1 p.2=true):¬(zs z).any (fun(z:Nat×Nat)=>!(RoofB.sizeOf z.1 z.2).ok)=true:=by intro h;obtain⟨q,hq,e⟩:=dz.mp h;obtain⟨p,hp,rfl⟩:=aw.mp hq;obtain⟨m1,m2⟩:=mT hp;rw[<- yC (z0 _ m1) (z0 _ m2),s p hp]at e;cases e
theorem wR(he:z.length%2=0)(z0:∀x∈z,0<=x)(s:∀p∈fN z,e7 p.1 p.2=true)(e:houseOf (RoofBNeutral.text t)=none):RoofBNeutral.f [[9],t,z]=[-1]:=by rw[xN he,ag (oV z0 s),B6 e]
theorem size_empty(he:z.length%2=0)(z0:∀x∈z,0<=x)(hz:fN z=[]){l:Cells}(e:houseOf (RoofBNeutral.text t)=some l):RoofBNeutral.f [[9],t,z]=[-7]:=by
 rw[xN he,ag (oV z0 (by rw[hz];intro p hp;cases hp)),sT e];have:zs z=[]:=by unfold zs;rw[hz];rfl
 rw[this];rfl
theorem DY(he:z.length%2=0)(z0:∀x∈z,0<=x)(s:∀p∈fN z,e7 p.1 p.2=true){l:Cells}(e:houseOf (RoofBNeutral.text t)=some l){k:Nat}{p:Int×Int}(hk:(fN z)[k]? =some p)
  (h:∀(j:Nat) q,(fN z)[j]? =some q->¬lt3 ((topOf l).roofTiles (RoofB.sizeOf q.1.toNat q.2.toNat)) j ((topOf l).roofTiles (RoofB.sizeOf p.1.toNat p.2.toNat)) k):
  RoofBNeutral.f [[9],t,z]=[(k:Int),((((topOf l).roofTiles (RoofB.sizeOf p.1.toNat p.2.toNat)).1:Nat):Int),((((topOf l).roofTiles (RoofB.sizeOf p.1.toNat p.2.toNat)).2:Nat):Int)]:=by
 rw[xN he,ag (oV z0 s),sT e];have hzk:(zs z)[k]? =some (p.1.toNat,p.2.toNat):=by unfold zs;rw[ba,hk];rfl
 have jl:zs z≠[]:=by intro c;rw[c]at hzk;cases hzk
 have hne':(zs z).map (fun(z:Nat×Nat)=>RoofB.sizeOf z.1 z.2)≠[]:=by simpa using jl
 obtain⟨y,hy,hm⟩:=FU (T:=topOf l) hne';have at_:∀(j:Nat) x,(((zs z).map (fun(z:Nat×Nat)=>RoofB.sizeOf z.1 z.2)).map (topOf l).roofTiles)[j]? =some x->∃q,(fN z)[j]? =some q/\x=(topOf l).roofTiles (RoofB.sizeOf q.1.toNat q.2.toNat):=by
  intro j x hx;unfold zs at hx;rw[ba,ba,ba]at hx;cases ej:(fN z)[j]? with
  |none=>rw[ej]at hx;cases hx
  |some q=>rw[ej]at hx;cases hx;exact⟨q,rfl,rfl⟩
 have Bx:(((zs z).map (fun(z:Nat×Nat)=>RoofB.sizeOf z.1 z.2)).map (topOf l).roofTiles)[k]? =some ((topOf l).roofTiles (RoofB.sizeOf p.1.toNat p.2.toNat)):=by rw[ba,ba,hzk];rfl
 obtain⟨q,hq,ey⟩:=at_ _ _ hy;have ek:k=RoofB.bestSize (topOf l) ((zs z).map fun(z:Nat×Nat)=>RoofB.sizeOf z.1 z.2):=FV Bx hy hm (by rw[ey];exact h _ q hq);generalize RoofB.bestSize (topOf l) ((zs z).map fun(z:Nat×Nat)=>RoofB.sizeOf z.1 z.2)=b at ek;subst ek;have eg:(zs z).getD k (2,1)=(p.1.toNat,p.2.toNat):=by rw[dk,hzk];rfl
 rw[eg];cases ez:zs z with
 |nil=>exact absurd ez jl
 |cons a r=>rfl
end
end RM
namespace L3
open PySem PySem.Spec PyProof.Rows L2
structure aO(P:Program)(w:World)(K:W.Frag)(mg:Str->Option Value)(base:Heap)(CX:CXT)(k:Nat)(x:Str)(ps:List Str)(sp:Sp):Prop where
 ex:∃f fd,bJ P w K mg base CX k f fd ps sp/\mg x=some (.ref f)/\W.keepIn K (.ref f)=true/\Binds K fd ps []
section
variable {X:Cx}{CX:CXT}{k:Nat}{ps:List Str}{sp:Sp}{E:XK}{x:Str}{p pos:Pos}{e:Expr}{es:List Expr}{t:TA}
theorem aS(D:aO X.prog X.w X.K X.mg X.base CX k x ps sp)(hr:cO k X.A)(hx:Passes CX X E)(hg:Gl X x)(ha:PA X (e::es) t)(so:(x==("__debug__" : Str))=false:=by decide)
  (qb:starEach (e::es) X.env=(false,eval e X.env)::starEach es X.env:=by rfl) (qo:(backTo pos (starEach es X.env)).any (·.1)=false:=by rfl):PE X (.Call (.Name x p) (e::es) [] pos) (CG sp [] E t):=by
 obtain⟨f,fd,F,hm,hk,hb⟩:=D.ex;exact JU F hr hg hm hk hb .nil hx ha so qb qo
end
theorem a9.rd{H H':Hp}{a:Addr}{u:HO}(e:a9 H H')(h:Rd H a u):Rd H' a u:=by
 rcases h with h|⟨o,h⟩
 ·exact .inl (e _ _ h)
 ·exact .inr ⟨o,e _ _ h⟩
theorem a9.sqT{K:W.Frag}{H H':Hp}{a:Addr}{xs:List V}(e:a9 H H')(h:SqT K H a xs):SqT K H' a xs:=by
 rcases h with h|h
 ·exact .inl (a9.rd e h)
 ·exact .inr h
theorem a9.upd{H:Hp}{p:Addr}{o:HO}(h:H p=none):a9 H (upd H p o):=fun b u e=>by rw[aA (aI e h)];exact e
noncomputable def T2(H:Hp)(v:V)(p:Int×Int):Prop:=∃a,v=.ref a/\H a=some (.tup [.int p.1,.int p.2])
noncomputable def C2(K:W.Frag)(H:Hp)(v:V)(p:Int×Int):Prop:=∃a,v=.ref a/\SqT K H a [.int p.1,.int p.2]
noncomputable def T3(H:Hp)(v:V)(p:Int×Int×Int):Prop:=∃a,v=.ref a/\H a=some (.tup [.int p.1,.int p.2.1,.int p.2.2])
theorem T2.mono{H H':Hp}{v:V}{p:Int×Int}(e:a9 H H')(h:T2 H v p):T2 H' v p:=let⟨a,h1,h2⟩:=h;⟨a,h1,e _ _ h2⟩
theorem T3.mono{H H':Hp}{v:V}{p:Int×Int×Int}(e:a9 H H')(h:T3 H v p):T3 H' v p:=let⟨a,h1,h2⟩:=h;⟨a,h1,e _ _ h2⟩
theorem T2.c{K:W.Frag}{H:Hp}{v:V}{p:Int×Int}(h:T2 H v p):C2 K H v p:=let⟨a,h1,h2⟩:=h;⟨a,h1,SqT.of h2⟩
def jH:Option HO->Bool
 |none=>false
 |some (.frz _ _)=>false
 |some _=>true
noncomputable def HW(h:Heap)(H:Hp)(fs:List Addr):List Addr:=(List.range h.objs.size).filter fun a=>jH (H a)||fs.contains a
def gC(h:Heap)(H:Hp)(fs:List Addr):Heap:=W.hideAll h (HW h H fs)
theorem gM{h:Heap}{H:Hp}{fs:List Addr}{b:Addr}{o:Obj}(e:h.get? b=some o)(n:jH (H b)=false)(hb:b∉fs):(gC h H fs).get? b=some o:=
 W.hideAll_get _ e fun hm=>by have q:=(bw.mp hm).2;rw[n,Bool.false_or]at q;exact hb (by simpa using q)
theorem yX{h:Heap}{H:Hp}{fs:List Addr}{b:Addr}{o:Obj}(e:(gC h H fs).get? b=some o):h.get? b=some o/\jH (H b)=false/\b∉fs:=by
 have e':h.get? b=some o:=W.of_hideAll (HW h H fs) e;refine⟨e',?_⟩;by_cases q:b∈HW h H fs
 ·have z:(gC h H fs).get? b=none:=W.hideAll_none _ q;rw[z]at e;cases e
 ·have hn:¬((jH (H b)||fs.contains b)=true):=fun z=>q (bw.mpr ⟨iq.mpr (bj e'),z⟩)
  rw[gy]at hn;refine⟨?_,fun z=>hn (.inr (by simpa using z))⟩;cases z:jH (H b)with
  |false=>rfl
  |true=>exact absurd (.inl z) hn
structure Fly(outer:List Env)(ex:List Addr)(H:Hp)(s:Shared)(ae C:Addr)(s':Shared):Prop where
 fl:∃a0,Heap.FlyingW (gC s.heap H (frs outer++ex)) outer ae (.ref C) a0 s'.heap
 slot:∀b∈frs outer,∀o,s.heap.get? b=some o->∃sl,s'.heap.get? b=some {o with slots:=sl}
 os:s'.os=s.os
 bare:AllBare s'.gens
noncomputable def CXf:CXT:=fun outer H s E e s'=>∃ae C,e=.ref ae/\Fly outer [] H s ae C s'/\E (.ref C) none H
section
variable {X:Cx}{jh:List (Addr×Obj)}{σ:L2.St}{H:Hp}{s:Shared}
theorem stays(I:Inv X jh σ H s)(kl:HOk X.prog X.w X.H_0 X.s_0.heap){ex:List Addr}(uc:∀b∈X.ex,b∈ex){b:Addr}{o:Obj}(e:(gC X.s_0.heap X.H_0 (X.fs++ex)).get? b=some o):
  s.heap.get? b=some o/\jH (H b)=false/\b∉frs X.stack/\b∉ex:=by
 obtain⟨e1,n,qi⟩:=yX e;have hb:b∉X.fs:=fun z=>qi (cc _ z)
 have hx:b∉ex:=fun z=>qi (bh _ z)
 have qb:b∉frs X.stack:=fun z=>by
  rcases ao.mp (I.rX b z)with q|q
  ·exact absurd (bj e1) (not_lt.mpr (q▸I.ok.above))
  ·exact hb q
 have Aa:b∉X.ex:=fun z=>hx (uc b z)
 cases q:X.H_0 b with
 |none=>refine⟨I.base.keep b o e1 q hb Aa,?_,qb,hx⟩;rw[I.base.free b o e1 q Aa];rfl
 |some u=>
  rw[q]at n;cases u with
  |frz ob u=>have z:=I.base.mH b ob u q;obtain⟨e2,_⟩:=kl b _ q;obtain⟨e3,_⟩:=I.hok b _ z;rw[e1]at e2;cases e2;exact⟨e3,by rw[z];rfl,qb,hx⟩
  |_=>cases n
theorem jU{h base xq:Heap}:∀{l:List Env},h.FunFrames base l->(∀b∈frs l,xq.get? b=none)->h.FunFrames xq l
 |[],_,_=>trivial
 |env::r,⟨hk,⟨L,o,hf,hn,ho,hd⟩,hr⟩,k=>by
  have e:frs (env::r)=L::frs r:=by unfold frs;rw[fg,hf]
  rw[e]at k;exact⟨hk,⟨L,o,hf,k L (by simp),ho,hd⟩,jU hr fun b hb=>k b (by simp[hb])⟩
theorem BU(I:Inv X jh σ H s)(kl:HOk X.prog X.w X.H_0 X.s_0.heap){ex:List Addr}(uc:∀b∈X.ex,b∈ex):s.heap.FunFrames (gC X.s_0.heap X.H_0 (X.fs++ex)) X.stack:=
 jU I.stack fun b hb=>by
  cases q:(gC X.s_0.heap X.H_0 (X.fs++ex)).get? b with
  |none=>rfl
  |some o=>exact absurd hb (stays I kl uc q).2.2.1
theorem k9(I:Inv X jh σ H s){b:Addr}(hb:b∈X.fs)(hx:b∉X.ex){o:Obj}(e:X.s_0.heap.get? b=some o):∃sl,s.heap.get? b=some {o with slots:=sl}:=I.base.slot b o e (I.ok.frf b hb) hb hx
end
section
variable {P:Program}{w:World}{K:W.Frag}{mg:Str->Option Value}{base:Heap}{N:List Str}{qual:Str}{scope:Scope}{f:Addr}{cd:Value}{A:Around}{outer:List Env}{s:Shared}{H:Hp}{E:XK}
 {jh:List (Addr×Obj)}{σ:L2.St}{H1:Hp}{s1:Shared}
noncomputable abbrev cxF(P:Program)(w:World)(K:W.Frag)(mg:Str->Option Value)(base:Heap)(N:List Str)(qual:Str)(scope:Scope)(f:Addr)(cd:Value)(A:Around)(outer:List Env)(s:Shared)(H:Hp)(E:XK):Cx:=uK CXf P w K mg base N qual scope f cd A outer s H E
theorem nK(l:List Addr):l++[]=l:=dj l
theorem GS(kl:HOk P w H s.heap)(I:Inv (cxF P w K mg base N qual scope f cd A outer s H E) jh σ H1 s1){h':Heap}{e C:Addr}{as:List Value}(hx:Heap.MadeExcOf s1.heap h' e (.ref C) as)(hE:E (.ref C) none H):
  (cxF P w K mg base N qual scope f cd A outer s H E).xe (.ref e) {s1 with heap:=h'}:=by
 have st:∀b o,(gC s.heap H (frs outer++[])).get? b=some o->s1.heap.get? b=some o:=fun b o q=>(stays I kl (ex:=[]) (fun _ z=>z) q).1
 refine wpAny_leaves_madeW (base:=gC s.heap H (frs outer++[])) (h:=s1.heap) (L:=s.heap.objs.size) (outer:=outer) I.ok.frames rfl st (BU I kl (fun _ z=>z)) hx fun h2 t fl tup hn up=>?_
 refine⟨e,C,rfl,⟨⟨_,fl⟩,fun b hb o q=>?_,I.os,I.bare⟩,hE⟩;obtain⟨sl,q1⟩:=k9 I hb (by intro z;exact nomatch z) q;have fr:=(I.stack.mem (b:=b) (show b∈frs (_::outer) by
  unfold frs;rw[fg];exact ar _ hb)).2
 obtain⟨o2,q2,nf⟩:=fr;rw[q1]at q2;cases q2;obtain⟨qe,q3⟩:=up b _ (hx.keeps b _ q1) nf;exact⟨qe,q3⟩
theorem yQ(kl:HOk P w H s.heap):Passes CXf (cxF P w K mg base N qual scope f cd A outer s H E) (fun c _ _=>E c none H):=by
 intro jh σ H1 s1 e s' I h;obtain⟨ae,C,rfl,⟨⟨a0,fl⟩,sl,os,bare⟩,hE⟩:=h;have zm:Heap.FlyingW (gC s.heap H (frs outer++[])) (cxF P w K mg base N qual scope f cd A outer s H E).stack ae (.ref C) a0 s'.heap:=
  W.flyingW_base (fun b o q=>by
   obtain⟨z1,z2,z3,_⟩:=stays I kl (ex:=[]) (fun _ z=>z) q;exact gM z1 z2 (by rw[nK];exact z3)) fl
 refine wpAny_leaves_onW (L:=s.heap.objs.size) (outer:=outer) I.ok.frames rfl zm fun h2 fl3 up=>?_
 refine⟨ae,C,rfl,⟨⟨_,fl3⟩,fun b hb o q=>?_,os.trans I.os,bare⟩,hE⟩;have vp:b∈frs (cxF P w K mg base N qual scope f cd A outer s H E).stack:=by
  show b∈frs (_::outer)
  unfold frs;rw[fg];exact ar _ hb
 obtain⟨sl1,q1⟩:=k9 I hb (by intro z;exact nomatch z) q;obtain⟨qe,q2⟩:=sl b vp _ q1;obtain⟨o3,q3,nf⟩:=(fl.2.2.1.mem (b:=b) vp).2;rw[q2]at q3;cases q3;obtain⟨zt,q4⟩:=up b _ q2 nf;exact⟨zt,q4⟩
theorem d4(kl:HOk P w H s.heap){x:Str}{C:Addr}{B lh yk:String}{bm:List Value}{np jn pos:Pos}(FB:ExcBaseFacts B lh yk bm)(O:OwnCls x C bm lh mg base)
  (hg:Gl (cxF P w K mg base N qual scope f cd A outer s H E) x) (hd:(x==("__debug__" : Str))=false:=by decide):
  PS (cxF P w K mg base N qual scope f cd A outer s H E) (.Raise (some (.Call (.Name x np) [] [] jn)) none pos) (fun _ _ _=>E (.ref C) none H):=by
 intro jh s1 σ H1 D I h;obtain⟨tl,N,nm,q,bs,hdct,sn,sub,ab,col,dd,k0,k1,k2,k3,k5,mN,hC,hN,hni,T⟩:=O.obj;refine wpAny_Raise_call_subT (C:=C) (nm:=nm) (q:=q) (N:=N) (bs:=bs) (bm:=tl) (hdct:=hdct) (sn:=sn) (sub:=sub) (ab:=ab) (col:=col) (dd:=dd) (k0:=k0) (k1:=k1) (k2:=k2) (k3:=k3) (k5:=k5)
  FB (mN:=mN) (T.hasType FB.hasBase) (I.ok.hd rfl) rfl hni (jF I hg O.bound ⟨rfl,?_⟩ hd)
 exact evalArgs_empty ⟨rfl,cn _,I.bk _ _ hC,hN.keeps I.bk,T.keeps I.bk,fun h' e hx=>GS kl I hx h⟩
end
section
variable {P:Program}{w:World}{K:W.Frag}{mg:Str->Option Value}{base:Heap}
theorem II{CX:CXT}{k:Nat}{f:Addr}{name qual:Str}{params:Arguments}{body:List Stmt}{scope:Scope}{dV kV lg pm js ct oc:Value}{an od:Option Addr}
  {mi:Array (Option Value)}{N ps:List Str}{sp:Sp} (lk:K.lookup f=some ⟨oc,od,.func (W.fnOf name qual params body scope dV kV lg pm an js ct),mi⟩) (nj:W.codeIn K js qual=true) (S:aJ N ps scope)
  (len:∀vs H Q E,sp vs H Q E->vs.length=ps.length)
  (kr:∀(A:Around)(outer:List Env)(s:Shared)(H:Hp)(vs:List V)(Q:VK)(E:XK),cO k (A.deeper (envOfC qual scope s.heap.objs.size f js))->HOk P w H s.heap->sp vs H Q E ->
   ∃t,PSs (uK CX P w K mg base N qual scope f js A outer s H E) body t/\t {nx:=fun _ H'=>Q .non H',rt:=Q} (start N vs) H):
  bJ P w K mg base CX (k+1) f (W.fnOf name qual params body scope dV kV lg pm an js ct) ps sp:=by
 refine⟨len,fun A outer s H args us vs Q E hr e0 hb r sh=>?_⟩;have hl:=len _ _ _ _ sh;have KX:K.In s.heap:=e0.mod.kin.keeps fun b o e=>(e0.bs b o e).1
 have yi:s.heap.NoLimit:=e0.mod.nolimit.keeps fun b o e=>(e0.bs b o e).1
 have pf:∀y∈ps.zip us,scope.names.lookup y.1=some .local\/(scope.names.lookup y.1=some .cell/\((cellsFrom (s.heap.objs.size+1) scope.names []).lookup y.1).isSome=true):=fun⟨n,v⟩ hy=>by
  rcases S.par n (of_mem_zip hy).1 with q|q
  ·exact .inl q
  ·exact .inr ⟨q,W.cellsFrom_some _ _ _ (.inl q)⟩
 refine codeAny_call_function hr.depth (KX _ _ lk) rfl S.co S.gen rfl (W.codeRec_of KX nj) (hb _ _ _ _ ?_);refine wpAny_newFunctionEnv_cells S.kind pf fun env he s1 x=>?_
 subst he;refine⟨yi.keeps x.toInCall.keep,codeAny_func ?_⟩;obtain⟨t,ht,hq⟩:=kr A outer s H vs Q E (hr.deeper _) e0.hok sh;have I:Inv (uK CX P w K mg base N qual scope f js A outer s H E) [] (start N vs) H s1:=pP S hr.hd e0 hl r x;refine wpAny_mono (ht [] s1 (start N vs) H _ I hq) (fun fl s' hs=>?_) fun e s' hs=>hs
 have fin:∀{σ':L2.St}{H':Hp}{v:V}{u:Value},Inv (uK CX P w K mg base N qual scope f js A outer s H E) [] σ' H' s'->RelV v u->Q v H'->CE outer P w H s Q u s':=
  fun{σ' H' v u} J rv q=>⟨v,H',J.os,J.bare,J.base,J.hok,rv,q⟩
 cases fl with
 |ret u=>obtain⟨v,σ',H',J,rv,q⟩:=hs;exact fin J rv q
 |next=>obtain⟨σ',H',J,q⟩:=hs;exact fin (v:=V.non) (u:=Value.none) J rfl q
 |brk=>obtain⟨_,_,_,q⟩:=hs;exact False.elim q
 |cont=>obtain⟨_,_,_,q⟩:=hs;exact False.elim q
theorem okX{x qual:Str}{st:Stmt}{f:Addr}{fd:FuncData}{N ps:List Str}{k:Nat}{sp:Sp}(F:Fun K x qual st f fd)(S:aJ N ps (aG st))(len:∀vs H Q E,sp vs H Q E->vs.length=ps.length)
  (kr:∀(js:Value)(A:Around)(outer:List Env)(s:Shared)(H:Hp)(vs:List V)(Q:VK)(E:XK),cO k (A.deeper (envOfC qual (aG st) s.heap.objs.size f js))->HOk P w H s.heap->sp vs H Q E ->
   ∃t,PSs (cxF P w K mg base N qual (aG st) f js A outer s H E) (f6 st) t/\t {nx:=fun _ H'=>Q .non H',rt:=Q} (start N vs) H):bJ P w K mg base CXf (k+1) f fd ps sp:=by
 obtain⟨oc,od,kV,lg,pm,an,js,ct,mi,rfl,lk,nj⟩:=F.ex;exact II lk nj S len fun A outer s H vs Q E hr hk sh=>kr js A outer s H vs Q E hr hk sh
end
section
variable {X:Cx}{x:Str}{pos:Pos}
def rG(mg:Str->Option Value)(x:Str)(n:Int):Prop:=∃t,mg x=some (.int n t)
theorem cU{n:Int}(h:rG X.mg x n)(hg:Gl X x)(hd:(x==("__debug__" : Str))=false:=by decide):PE X (.Name x pos) (tC (.int n)):=by obtain⟨t,h⟩:=h;exact CO (v:=.int n) hg h ⟨t,rfl⟩ hd
theorem fK{a:Addr}(h:X.mg x=some (.ref a))(hg:Gl X x)(hd:(x==("__debug__" : Str))=false:=by decide):PE X (.Name x pos) (tC (.ref a)):=CO (v:=.ref a) hg h rfl hd
end
noncomputable def CT2(K:W.Frag)(a:Addr)(ps:List (Int×Int)):Prop:=∃xs,(∀H,SqT K H a xs)/\Paired (fun v p=>∀H,C2 K H v p) xs ps
theorem pairs_at{α β:Type}{R:α->β->Prop}:∀{l:List α}{m:List β},Paired R l m->∀{i:Nat}{a:α},l[i]? =some a->∃b,m[i]? =some b/\R a b
 |_,_,.nil,_,_,h=>by simp at h
 |_,_,.cons r _,0,_,h=>by simp at h;subst h;exact⟨_,rfl,r⟩
 |_,_,.cons _ t,i+1,a,h=>by obtain⟨b,h1,h2⟩:=pairs_at t (i:=i) (a:=a) (by simpa using h);exact⟨b,by simpa using h1,h2⟩
theorem iV{α β:Type}{R:α->β->Prop}:∀{l:List α}{m:List β},Paired R l m->∀{i:Nat}{b:β},m[i]? =some b->∃a,l[i]? =some a/\R a b
 |_,_,.nil,_,_,h=>by simp at h
 |_,_,.cons r _,0,_,h=>by simp at h;subst h;exact⟨_,rfl,r⟩
 |_,_,.cons _ t,i+1,b,h=>by obtain⟨a,h1,h2⟩:=iV t (i:=i) (b:=b) (by simpa using h);exact⟨a,by simpa using h1,h2⟩
theorem pairs_len{α β:Type}{R:α->β->Prop}:∀{l:List α}{m:List β},Paired R l m->l.length=m.length
 |_,_,.nil=>rfl
 |_,_,.cons _ t=>by simp[pairs_len t]
theorem aW{α β:Type}{R:α->β->Prop}{a:α}{b:β}(r:R a b):∀{l:List α}{m:List β},Paired R l m->Paired R (l++[a]) (m++[b])
 |_,_,.nil=>.cons r .nil
 |_,_,.cons q t=>.cons q (aW r t)
theorem aH{α β:Type}{R S:α->β->Prop}(f:∀a b,R a b->S a b):∀{l:List α}{m:List β},Paired R l m->Paired S l m
 |_,_,.nil=>.nil
 |_,_,.cons r t=>.cons (f _ _ r) (aH f t)
theorem bI{xs:List V}{z:Int}{v:V}(h0:0<=z)(h:xs[z.toNat]? =some v):atI xs z=some v:=at_of (j:=z.toNat) (fu h0).symm h
abbrev PI:=Int×Int
abbrev PI3:=Int×Int×Int
noncomputable def LI(H:Hp)(v:V)(ns:List Int):Prop:=∃a,v=.ref a/\H a=some (.lst (ns.map V.int))
noncomputable def LLI(H:Hp)(a:Addr)(yb:List (List Int)):Prop:=∃xs,H a=some (.lst xs)/\Paired (LI H) xs yb
noncomputable def LT(H:Hp)(v:V)(ps:List PI):Prop:=∃a xs,v=.ref a/\H a=some (.lst xs)/\Paired (T2 H) xs ps
noncomputable def LLT(H:Hp)(v:V)(ws:List (List PI)):Prop:=∃a xs,v=.ref a/\H a=some (.lst xs)/\Paired (LT H) xs ws
theorem LI.mono{H H':Hp}{v:V}{ns:List Int}(e:a9 H H')(h:LI H v ns):LI H' v ns:=let⟨a,h1,h2⟩:=h;⟨a,h1,e _ _ h2⟩
theorem LT.mono{H H':Hp}{v:V}{ps:List PI}(e:a9 H H')(h:LT H v ps):LT H' v ps:=let⟨a,xs,h1,h2,h3⟩:=h;⟨a,xs,h1,e _ _ h2,aH (fun _ _ q=>q.mono e) h3⟩
theorem LLT.mono{H H':Hp}{v:V}{ws:List (List PI)}(e:a9 H H')(h:LLT H v ws):LLT H' v ws:=let⟨a,xs,h1,h2,h3⟩:=h;⟨a,xs,h1,e _ _ h2,aH (fun _ _ q=>q.mono e) h3⟩
def k2(p:PI):List Key:=[.inl p.1,.inl p.2]
def k3(p:PI3):List Key:=[.inl p.1,.inl p.2.1,.inl p.2.2]
theorem BF{p q:PI}(h:k2 p=k2 q):p=q:=by obtain⟨a,b⟩:=p;obtain⟨c,d⟩:=q;simp[k2]at h;rw[h.1,h.2]
theorem HX{p q:PI3}(h:k3 p=k3 q):p=q:=by obtain⟨a,b,e⟩:=p;obtain⟨c,d,f⟩:=q;simp[k3]at h;rw[h.1,h.2.1,h.2.2]
section
variable {κ:Type} [DecidableEq κ] {kf:κ->List Key} (hk:∀p q,kf p=kf q->p=q)
noncomputable def kvF(kf:κ->List Key)(kvs:List (κ×V)):List (List Key×V):=kvs.map fun x=>(kf x.1,x.2)
include hk in
theorem G8(kvs:List (κ×V))(k:κ):rR (kvF kf kvs) (kf k)=RM.aK kvs k:=by
 unfold kvF;induction kvs with
 |nil=>rfl
 |cons x r ih=>
  rw[bf,RM.bU];by_cases e:x.1=k
  ·rw[ah e,mR (by rw[e])]
  ·rw[ag e,mS (fun z=>e (hk _ _ z)),ih]
include hk in
theorem AW(kvs:List (κ×V))(k:κ)(v:V):putK (kvF kf kvs) (kf k) v=kvF kf (RM.cR kvs k v):=by
 unfold putK RM.cR kvF;have e1:((kvs.map fun x=>(kf x.1,x.2)).any fun kv=>decide (kv.1=kf k))=kvs.any fun x=>decide (x.1=k):=by
  rw[any_map];congr 1;funext x;simp only[Function.comp];by_cases e:x.1=k
  ·simp[e]
  ·have e':¬kf x.1=kf k:=fun z=>e (hk _ _ z)
   simp[e,e']
 rw[e1];split
 ·rw[dq,dq];apply fb;intro x _;simp only[Function.comp];by_cases e:x.1=k
  ·simp[e]
  ·have e':¬kf x.1=kf k:=fun z=>e (hk _ _ z)
   simp[e,e']
 ·simp
end
theorem eZ{κ:Type}{kf:κ->List Key}(kvs:List (κ×V)):(kvF kf kvs).length=kvs.length:=by simp[kvF]
def D2(H:Hp)(a:Addr)(kvs:List (PI×V)):Prop:=H a=some (.dT (kvF k2 kvs))
def R2(H:Hp)(a:Addr)(kvs:List (PI×V)):Prop:=Rd H a (.dT (kvF k2 kvs))
def D3(H:Hp)(a:Addr)(kvs:List (PI3×V)):Prop:=H a=some (.dT (kvF k3 kvs))
def R3(H:Hp)(a:Addr)(kvs:List (PI3×V)):Prop:=Rd H a (.dT (kvF k3 kvs))
theorem D2.rd{H:Hp}{a:Addr}{kvs:List (PI×V)}(h:D2 H a kvs):R2 H a kvs:=.inl h
theorem D3.rd{H:Hp}{a:Addr}{kvs:List (PI3×V)}(h:D3 H a kvs):R3 H a kvs:=.inl h
theorem R2.mono{H H':Hp}{a:Addr}{kvs:List (PI×V)}(e:a9 H H')(h:R2 H a kvs):R2 H' a kvs:=a9.rd e h
theorem R3.mono{H H':Hp}{a:Addr}{kvs:List (PI3×V)}(e:a9 H H')(h:R3 H a kvs):R3 H' a kvs:=a9.rd e h
theorem R2.get{H:Hp}{a:Addr}{kvs:List (PI×V)}(h:R2 H a kvs){b:Addr}{p:PI}(hb:H b=some (.tup [.int p.1,.int p.2])):lF H a (.ref b) (RM.aK kvs p):=
 .inr ⟨_,k2 p,b,h,rfl,hb,(G8 (fun _ _=>BF) kvs p).symm⟩
theorem R3.get{H:Hp}{a:Addr}{kvs:List (PI3×V)}(h:R3 H a kvs){b:Addr}{p:PI3}(hb:H b=some (.tup [.int p.1,.int p.2.1,.int p.2.2])):lF H a (.ref b) (RM.aK kvs p):=
 .inr ⟨_,k3 p,b,h,rfl,hb,(G8 (fun _ _=>HX) kvs p).symm⟩
theorem D2.put{H:Hp}{a:Addr}{kvs:List (PI×V)}(h:D2 H a kvs){b:Addr}{p:PI}(hb:H b=some (.tup [.int p.1,.int p.2]))(v:V)(hl:kvs.length<sizeLine):L8 H a (.ref b) v (upd H a (.dT (kvF k2 (RM.cR kvs p v)))):=
 .inr ⟨_,k2 p,b,h,rfl,hb,by rw[eZ];exact hl,by rw[AW (fun _ _=>BF)]⟩
theorem D3.put{H:Hp}{a:Addr}{kvs:List (PI3×V)}(h:D3 H a kvs){b:Addr}{p:PI3}(hb:H b=some (.tup [.int p.1,.int p.2.1,.int p.2.2]))(v:V)(hl:kvs.length<sizeLine):L8 H a (.ref b) v (upd H a (.dT (kvF k3 (RM.cR kvs p v)))):=
 .inr ⟨_,k3 p,b,h,rfl,hb,by rw[eZ];exact hl,by rw[AW (fun _ _=>HX)]⟩
theorem a9.put{H0 H:Hp}{a:Addr}{o:HO}(e:a9 H0 H)(h:H0 a=none):a9 H0 (L2.upd H a o):=fun b u q=>by rw[aA (aI q h)];exact e b u q
theorem qX{h h' base:Heap}:∀{l:List Env},h.FunFrames base l->(∀b∈frs l,∀o,h.get? b=some o->(∀vs,o.data≠ .fields vs)->∃o',h'.get? b=some o'/\o'.data=o.data)->h'.FunFrames base l
 |[],_,_=>trivial
 |env::r,⟨hk,⟨L,o,hf,hn,ho,hd⟩,hr⟩,k=>by
  have e:frs (env::r)=L::frs r:=by unfold frs;rw[fg,hf]
  rw[e]at k;obtain⟨o',h1,h2⟩:=k L (by simp) o ho hd;exact⟨hk,⟨L,o',hf,hn,h1,fun vs=>h2▸hd vs⟩,qX hr fun b hb=>k b (by simp[hb])⟩
theorem BE{M:Model}{A:Around}{E:Value->Shared->Prop}{s:Shared}{base:Heap}{env:Env}{outer:List Env}{L e:Addr}{cls a0 fl:Value}{Q:Unit->Shared->Prop}
  (vc:A.frames=some (env::outer)) (hf:env.frame=some L) (hkb:base.StaysIn s.heap) (oq:base.get? e=none) (hl:s.heap.FunFrames base (env::outer)) (ht:s.heap.TracedAtW base e cls a0 fl)
  (hQ:∀h',Heap.FlyingW base outer e cls a0 h'->s.heap.UpToSlots h'->Q () {s with heap:=h'}):wpAny M A (leaving env (.ref e)) Q E s:=by
 by_cases Cc:fl=rawInt L
 ·subst Cc;unfold leaving;refine aa (wpAny_noteFrame_againW hf ht (wpAny_landsW (l:=env::outer) ⟨hkb,oq,hl,ht⟩ fun h' fl' up=>?_));obtain⟨k1,k2,⟨_,_,k3⟩,k4⟩:=fl';exact hQ h' ⟨k1,k2,k3,k4⟩ up
 ·obtain⟨oe,vs,T,oT,ts,he,⟨pj,h0⟩,hd,h1,hnT,hTe,hT,vj,h3⟩:=ht;subst pj;have sz:3<ts.size:=(fm.mp h3).1;have ot:∀b,b≠T->(s.heap.update T (Obj.mapFields (·.setIfInBounds 3 Value.none))).get? b=s.heap.get? b:=fun b hb=>fe _ _ hb.symm
  have apart:∀b o,s.heap.get? b=some o->(∀ws,o.data≠ .fields ws)->b≠T:=fun b o hb nf z=>nf ts (by rw[z,hT]at hb;cases hb;exact vj)
  unfold leaving noteFrame;simp only[hf];refine aa (aa (wpAny_field he hd h1 ?_));rw[ah (by simp:(Value.ref T !=Value.none)=true)];refine aa (wpAny_field hT vj h3 ?_);rw[ag (by simpa using Cc)];refine aa (wpAny_setField hT vj sz (wpAny_newEntryW vc ?fr hf ((ot e hTe.symm).trans he) ?st oq hd (fm.mp h1).1 h0 fun h' left=>?fin));case fr=>exact hl.of_keeps fun b o hb nf=>⟨o,(ot b (apart b o hb nf)).trans hb,rfl⟩
  case st=>exact fun b o hb=>(ot b fun z=>by rw[z,hnT]at hb;cases hb).trans (hkb b o hb)
  case fin=>obtain⟨k1,⟨_,_,k2⟩,k3,k4⟩:=left;exact hQ h' ⟨k1,oq,k2,k3⟩ fun b o hb nf=>k4 b o ((ot b (apart b o hb nf)).trans hb) nf
noncomputable abbrev uN(X:Cx)(s:Shared)(H:Hp)(scope:Scope)(jk:Env)(fp:List Addr)(EC:Addr->Prop):Cx:=
 (X.blk s H scope jk fp).rB fun e s'=>∃ae C,e=.ref ae/\Fly X.stack fp H s ae C s'/\EC C/\∃m,s'.heap.Ns jk.locals m
section
variable {P:Program}{w:World}{K:W.Frag}{mg:Str->Option Value}{base:Heap}{N:List Str}{qual:Str}{ji:Scope}{f:Addr}{cd:Value}{A:Around}{outer:List Env}{s0:Shared}{H0:Hp}{E:XK}
theorem HG{X:Cx}{s:Shared}{H:Hp}{scope:Scope}{jk:Env}{fp:List Addr}(hk:HOk X.prog X.w H s.heap){E':Value->Prop}:Passes CXf (uN X s H scope jk fp fun C=>E' (.ref C)) (fun c _ _=>E' c):=by
 intro jh σ H1 s1 e s' I h;obtain⟨ae,C,rfl,⟨⟨a0,fl⟩,slot,os,bare⟩,hE⟩:=h;have zm:Heap.FlyingW (gC s.heap H (frs X.stack++fp)) X.stack ae (.ref C) a0 s'.heap:=
  W.flyingW_base (fun b o q=>by
   obtain⟨z1,z2,z3,_⟩:=stays I hk (ex:=fp) (fun _ z=>z) q;exact gM z1 z2 (by rw[nK];exact z3)) fl
 refine⟨ae,C,rfl,⟨⟨a0,zm⟩,fun b hb o q=>?_,os.trans I.os,bare⟩,hE,?_⟩
 ·obtain⟨sl1,q1⟩:=k9 I (show b∈frs X.stack from hb) (fun z=>I.ok.BZ b z hb) q;obtain⟨qe,q2⟩:=slot b hb _ q1;exact⟨qe,q2⟩
 ·obtain⟨m,⟨oL,es,ep,Bn,hdL,r⟩,_⟩:=I.loc;have hnf:jk.locals∉frs X.stack:=fun z=>by obtain⟨_,o,ho,_⟩:=I.ok.kK.mem (b:=jk.locals) z;exact absurd (bj ho) (not_lt.mpr I.ok.above)
  have hid:jH (H1 jk.locals)=false:=by have z:H1 jk.locals=none:=I.free;rw[z];rfl
  exact⟨m,oL,es,ep,fl.1 _ _ (gM Bn hid (by rw[nK];exact hnf)),hdL,r⟩
theorem HM(kl:HOk P w H0 s0.heap){jh:List (Addr×Obj)}{σ:L2.St}{H3:Hp}{s3:Shared}{fp:List Addr}{scope:Scope}{cl:List (Str×Addr)}{use:Option (Value->Sem Unit)}{Qf:Value->Shared->Prop}{acc e:Value}{s':Shared}
  (I3:Inv (cxF P w K mg base N qual ji f cd A outer s0 H0 E) jh σ H3 s3) (xc:∀b∈fp,mO (cxF P w K mg base N qual ji f cd A outer s0 H0 E) jh H3 b)
  (hx:∃ae C,e=.ref ae/\Fly (cxF P w K mg base N qual ji f cd A outer s0 H0 E).stack fp H3 s3 ae C s'/\E (.ref C) none H0/\∃m,s'.heap.Ns s3.heap.objs.size m):
  notedBy (model P w) (cxF P w K mg base N qual ji f cd A outer s0 H0 E).A (compEnvC scope cl s3.heap.objs.size (cxF P w K mg base N qual ji f cd A outer s0 H0 E).env)
   (fun e s'=>compPost (model P w) (cxF P w K mg base N qual ji f cd A outer s0 H0 E).A (cxF P w K mg base N qual ji f cd A outer s0 H0 E).xe use Qf acc s3.heap.objs.size (.error e) s') e s':=by
 obtain⟨ae,C,rfl,⟨⟨a0,fl⟩,slot,os,bare⟩,hE,m,hn⟩:=hx;have low:∀b o,(gC s0.heap H0 (frs outer++[])).get? b=some o->b<s0.heap.objs.size:=fun b o q=>bj (yX q).1
 have zm:Heap.FlyingW (gC s0.heap H0 (frs outer++[])) (cxF P w K mg base N qual ji f cd A outer s0 H0 E).stack ae (.ref C) a0 s'.heap:=
  W.flyingW_base (fun b o q=>by
   obtain⟨z1,z2,z3,_⟩:=stays I3 kl (ex:=[]) (fun _ z=>z) q;refine gM z1 z2 fun z=>(ay.mp z).elim z3 fun z=>?_
   rcases(xc b z).2.2.2.1 with y|y
   ·exact nomatch y
   ·exact absurd (low b o q) (not_lt.mpr y)) fl
 show wpAny (model P w) _ (noteFrame (.ref ae) (cxF P w K mg base N qual ji f cd A outer s0 H0 E).env) _ _ _
 refine wpAny_looks_onW (L:=s0.heap.objs.size) (outer:=outer) I3.ok.frames rfl zm fun h1 vh up1=>?_
 have goal:∃m,h1.Ns s3.heap.objs.size m/\∀h',Heap.SameBut s3.heap.objs.size h1 h'->∀jk:Env,jk.locals=s3.heap.objs.size ->
   wpAny (model P w) (cxF P w K mg base N qual ji f cd A outer s0 H0 E).A (PySem.passOn "comprehension.variables-let-go" (.ref ae) jk:Sem Value) (fun _ _=>False) (cxF P w K mg base N qual ji f cd A outer s0 H0 E).xe {s' with heap:=h'}:=by
  have hn1:=up1.ns hn;refine⟨m,hn1,fun h2 sb jk _=>?_⟩;obtain⟨oL,es,ep,Bn,hdL,_⟩:=hn1;obtain⟨f1,f2,f3,oe,vs,T,oT,ts,he,hc,hd,h1',hnT,hTe,hT,vj,h3⟩:=vh;have nC:∀b o,h1.get? b=some o->(∃ws,o.data=.fields ws)->b≠s3.heap.objs.size:=fun b o q ⟨ws,z⟩ y=>by rw[y,Bn]at q;cases q;rw[hdL]at z;cases z
  have he2:h2.get? ae=some oe:=(sb.2 ae (nC ae oe he ⟨vs,hd⟩)).trans he;have xh:h2.get? T=some oT:=(sb.2 T (nC T oT hT ⟨ts,vj⟩)).trans hT;have sz:3<ts.size:=(fm.mp h3).1;unfold PySem.passOn setFlight;refine aa (wpAny_field he2 hd h1' ?_);rw[ag (by simp:¬((Value.ref T==Value.none)=true))];refine aa (aa (wpAny_field he2 hd h1' ?_));rw[ah (by simp:(Value.ref T !=Value.none)=true)];refine wpAny_setField xh vj sz (wpAny_throw ?_);have ot:∀b,b≠T->(h2.update T (Obj.mapFields (·.setIfInBounds 3 (jk.frame.elim Value.none fun f=>rawInt f)))).get? b=h2.get? b:=fun b hb=>fe _ _ hb.symm
  have fr:∀b∈frs (cxF P w K mg base N qual ji f cd A outer s0 H0 E).stack,b≠s3.heap.objs.size:=fun b hb=>by obtain⟨_,o,q,_⟩:=I3.stack.mem (b:=b) hb;exact cf (bj q)
  have nT:∀b o,h1.get? b=some o->(∀ws,o.data≠ .fields ws)->b≠T:=fun b o q nf y=>nf ts (by rw[y,hT]at q;cases q;exact vj)
  refine BE (base:=gC s0.heap H0 (frs outer++[])) (L:=s0.heap.objs.size) (outer:=outer) (cls:=.ref C) (a0:=a0) (fl:=jk.frame.elim Value.none fun f=>rawInt f) I3.ok.frames rfl ?st f2 ?fr ?tr fun h4 fl4 up4=>?fin
  case st=>intro b o q;have l1:=low b o q;have l2:b≠s3.heap.objs.size:=cf (bz l1 I3.sz);rw[ot b fun z=>by rw[z,hnT]at q;cases q];exact(sb.2 b l2).trans (f1 b o q)
  case fr=>exact qX f3 fun b hb o q nf=>⟨o,(ot b (nT b o q nf)).trans ((sb.2 b (fr b hb)).trans q),rfl⟩
  case tr=>exact⟨oe,vs,T,_,_,(ot ae hTe.symm).trans he2,hc,hd,h1',hnT,hTe,gu _ xh (Obj.isFreed_of_fields (Obj.data_mapFields vj _)),Obj.data_mapFields vj _,by simp[sz]⟩
  case fin=>
   refine⟨ae,C,rfl,⟨⟨_,fl4⟩,fun b hb o q=>?_,os.trans I3.os,bare⟩,hE⟩;have vp:b∈frs (cxF P w K mg base N qual ji f cd A outer s0 H0 E).stack:=by
    show b∈frs (_::outer)
    unfold frs;rw[fg];exact ar _ hb
   obtain⟨sl1,q1⟩:=k9 I3 hb (by intro z;exact nomatch z) q;obtain⟨qe,q2⟩:=slot b vp _ q1;obtain⟨o3,q3,nf⟩:=(fl.2.2.1.mem (b:=b) vp).2;rw[q2]at q3;cases q3;obtain⟨zt,q4⟩:=up1 b _ q2 nf;have q5:=(ot b (nT b _ q4 nf)).trans ((sb.2 b (fr b vp)).trans q4);obtain⟨sl4,q6⟩:=up4 b _ q5 nf;exact⟨sl4,q6⟩
 cases use<;>exact goal
end
section
variable {P:Program}{w:World}{K:W.Frag}{mg:Str->Option Value}{base:Heap}{N:List Str}{qual:Str}{ji:Scope}{f:Addr}{cd:Value}{A:Around}{outer:List Env}{s0:Shared}{H0:Hp}{E:XK}
theorem z9{X:Cx}(hX:X=cxF P w K mg base N qual ji f cd A outer s0 H0 E)(kl:HOk P w H0 s0.heap){jh:List (Addr×Obj)}{s:Shared}{σ:L2.St}{H:Hp}{Q:VK}{lj tg iter:Expr}{scope:Scope}{own:List (Str×Nat)}{pos kn:Pos}{wi:TI}{g:TG}{te:TE}{use:Option (Value->Sem Unit)}{Qf:Value->Shared->Prop}
  (hN:X.N.Nodup) (I:Inv X jh σ H s) (hi:L2.PI X tg iter wi) (ok:oN X.N X.env.scope scope own)
  (hg:∀(s:Shared)(H:Hp)(C:Addr)(cl:List (Str×Addr))(fp:List Addr),PG (uN X s H scope (compEnvC scope cl C X.env) fp fun C=>E (.ref C) none H0) tg g)
  (he:∀(s:Shared)(H:Hp)(C:Addr)(cl:List (Str×Addr))(fp:List Addr),HOk X.prog X.w H s.heap->PE (uN X s H scope (compEnvC scope cl C X.env) fp fun C=>E (.ref C) none H0) lj te) (hs:∀x,foldedSetIterable iter X.env x=pure x)
  (h:tLc wi g GD te (own.map (·.2)) σ H Q)
  (hRR:∀D C s' m H',Inv X jh σ H' s'->Q (.ref D) H'->s'.heap.Ns C m->mO X jh H' C->compPost (model X.prog X.w) X.A X.xe use Qf (.ref D) C (.ok .next) s'):
  wpAny (model X.prog X.w) X.A (comprehension (.ListComp lj [⟨tg,iter,[],0⟩] scope pos) scope X.env kn (newList []) false (eval iter X.env) use) Qf X.xe s:=by
 have kq:∀y∈scope.names,y.2=.free->∃c,X.env.cells.lookup y.1=some c:=fun y hy e=>by
  rcases ok.free y hy e with k|k
  ·exact I.ok.has _ (.inl k)
  ·exact I.ok.has _ (.inr k)
 refine wpAny_comprehension_free (use:=use) rfl hs (mK kq) ok.kind (fun y hy e=>by rw[ok.uniq y hy,e])
  (thn (hi jh s σ H _ I h) fun xv s1 hx=>thn hx fun itv s2 h2=>?_)
 obtain⟨it,fp,tn,J,H2,e,I2,T,xw,f2,q⟩:=h2;subst e;refine wpAny_newObj_type (qR ?_) (by show 0<=sizeLine;decide);generalize hD:s2.heap.objs.size=D;have hDn:H2 D=none:=I2.hok.fresh (ik hD);obtain⟨W,⟨m0,w0⟩,turn⟩:=q D hDn;generalize hs3:({s2 with heap:=s2.heap.push {cls:=.type "list",data:=.seq ([]:List Value).toArray}}:Shared)=s3;have I3:Inv X jh σ (upd H2 D (.lst [])) s3:=by rw[<- hs3];refine I2.laid (t':=s2.toks) (fun b o e=>aj _ e) (ik hD) ⟨cn _,[],0,.nil,?_⟩;rw[<- hD];exact ax _ rfl
 have h3:s3.heap=s2.heap.push {cls:=.type "list",data:=.seq ([]:List Value).toArray}:=by rw[<- hs3]
 have sz:∀b∈fp,b<s2.heap.objs.size:=fun b hb=>by obtain⟨o,e,_⟩:=T.obj _ _ xw b hb;exact bj e
 have f3:∀b∈fp,mO X jh (upd H2 D (.lst [])) b/\b<s3.heap.objs.size:=fun b hb=>by have jw:=sz b hb;refine⟨⟨?_,(f2 b hb).2⟩,by rw[h3,fi];exact jg jw⟩;rw[aA (by rw[<- hD];exact cf jw)];exact(f2 b hb).1
 have zr:tn 0 s3.heap:=T.keep _ _ _ xw fun b _ o e=>by rw[h3];exact aj _ e
 have I4':=r8 I3 ok hN f3;have pg:=hg s3 (upd H2 D (.lst [])) s3.heap.objs.size (cellsFrom (s3.heap.objs.size+1) scope.names (bE X.env.cells scope.names [])) fp;have pe:=he s3 (upd H2 D (.lst [])) s3.heap.objs.size (cellsFrom (s3.heap.objs.size+1) scope.names (bE X.env.cells scope.names [])) fp I3.hok;show codeAny _ _ (.compStart (.ListComp lj [⟨tg,iter,[],0⟩] scope pos) 0 (.ref it) (.ref D) (compEnvC scope (cellsFrom (s3.heap.objs.size+1) scope.names (bE X.env.cells scope.names [])) s3.heap.objs.size X.env)) (compPost (model X.prog X.w) X.A X.xe use Qf (.ref D) s3.heap.objs.size) {s3 with heap:=pushCells (s3.heap.push {cls:=.type "dict",data:=.dict #[]}) scope.names}
 have Ax:∀b∈fp,(upd H2 D (.lst [])) b=none:=fun b hb=>(f3 b hb).1.1
 generalize mz:cellsFrom (s3.heap.objs.size+1) scope.names (bE X.env.cells scope.names [])=cl at I4' pg pe ⊢;have ow:∀e s',(uN X s3 (upd H2 D (.lst [])) scope (compEnvC scope cl s3.heap.objs.size X.env) fp fun C=>E (.ref C) none H0).xe e s' ->
   notedBy (model X.prog X.w) X.A (compEnvC scope cl s3.heap.objs.size X.env) (fun e s'=>compPost (model X.prog X.w) X.A X.xe use Qf (.ref D) s3.heap.objs.size (.error e) s') e s':=fun e s' hx=>by
  subst hX;exact HM kl I3 (fun b hb=>(f3 b hb).1) hx
 generalize hce:compEnvC scope cl s3.heap.objs.size X.env=ce at I4' pg pe ow ⊢;have cL:ce.locals=s3.heap.objs.size:=by subst hce;rfl
 have I4:Inv (uN X s3 (upd H2 D (.lst [])) scope ce fp fun C=>E (.ref C) none H0) [] (wipe σ (own.map (·.2))) (upd H2 D (.lst [])) {s3 with heap:=pushCells (s3.heap.push {cls:=.type "dict",data:=.dict #[]}) scope.names}:=I4'.rB _;generalize hH3:upd H2 D (.lst [])=H3 at I3 I4 pg pe w0 Ax f3 ow;generalize hs4:({s3 with heap:=pushCells (s3.heap.push {cls:=.type "dict",data:=.dict #[]}) scope.names}:Shared)=s4 at I4 ⊢;have An:tn 0 s4.heap:=T.keep _ _ _ zr fun b _ o e=>by rw[<- hs4];exact pushCells_keeps _ _ _ _ (aj _ e)
 generalize hB:uN X s3 H3 scope ce fp (fun C=>E (.ref C) none H0)=B at I4 pg pe ow;have calm:B.calm=true:=by subst hB hX;rfl
 have mv:∀{σ':L2.St}{H':Hp}{s':Shared},Inv B [] σ' H' s'->(∀b∈fp,H' b=none)->∀b∈fp,mO B [] H' b:=fun{σ' H' s'} I' hn b hb=>by subst hB;exact⟨hn b hb,(I'.ok.exf b hb).1,I'.ok.BZ b hb,.inl hb,fun x c e=>(I'.ok.exf b hb).2 x c e,fun p hp=>absurd (show p∈([]:List (Addr×Obj))++[]from hp) (by simp)⟩
 have eP:B.prog=X.prog:=by subst hB;rfl
 have eW:B.w=X.w:=by subst hB;rfl
 have eK:B.K=X.K:=by subst hB;rfl
 have eA:B.A=X.A:=by subst hB;rfl
 have loop:codeAny (model X.prog X.w) X.A (.compLoop (.ListComp lj [⟨tg,iter,[],0⟩] scope pos) 0 (.ref it) (.ref D) ce) (compPost (model X.prog X.w) X.A X.xe use Qf (.ref D) s3.heap.objs.size) s4:=by
  refine oH (fun n s'=>∃i H',Inv B [] (wipe σ (own.map (·.2))) H' s'/\tn i s'.heap/\(∀b∈fp,H' b=none)/\W i n H') ?_ m0 ⟨0,H3,I4,An,Ax,w0⟩;rintro n s5 ⟨i,H5,I5,ug,n5,w5⟩;rcases turn i n H5 w5 with⟨stop,qq⟩|⟨go,Nx,hNx,step⟩
  ·have td:=T.done B eP eW eK calm i [] s5 _ H5 (fun _ _=>False) I5 (mv I5 n5) ug stop;rw[eA]at td;refine wM td fun r s6 ⟨hr,I6⟩=>?_
   subst hr;have I7:Inv X jh σ H5 s6:=by subst hB;exact I3.DE (ch:=fp) I6.os I6.base I6.hok I6.bare fun b hb=>⟨(f3 b hb).1.2.2.2.1,(f3 b hb).1.2.1,(f3 b hb).1.2.2.2.2.1,(f3 b hb).1.2.2.2.2.2⟩
   have nC:H5 s3.heap.objs.size=none:=by subst hB;have z:H5 ce.locals=none:=I6.free;rw[cL]at z;exact z
   obtain⟨m,hn⟩:∃m,s6.heap.Ns s3.heap.objs.size m:=by subst hB;obtain⟨m,hn,_⟩:=I6.loc;have hn:s6.heap.Ns ce.locals m:=hn;rw[cL]at hn;exact⟨m,hn⟩
   exact hRR D s3.heap.objs.size s6 m H5 I7 qq hn (I3.BV (au _) nC)
  ·have ti:=T.item B eP eW eK calm i [] s5 _ H5 (fun _ _=>False) I5 (mv I5 n5) ug go;rw[eA]at ti;refine wM ti fun r s6 ⟨u,hr,h6⟩=>?_
   subst hr;refine wM h6 fun _ s7 ⟨x,H7,I7,r7,y7,xu,n7⟩=>?_
   have I7':=I7.pinned (mv I7 n7) (T.obj _ _ xu);have pg':=pg _ s7 _ H7 x u _ I7' r7 (step x H7 y7);rw[eP,eW,eA]at pg';have ee:B.env=ce:=by subst hB;rfl
   rw[ee]at pg';refine wpAny_mono pg' (fun _ s8 ⟨σ8,H8,I8,Bb,q8⟩=>?_) ow;have fin:∀{s':Shared}{H':Hp},Inv B ([]++pB fp s7.heap) σ8 H' s'->Nx H'->∃m,m<n/\∃i H',Inv B [] (wipe σ (own.map (·.2))) H' s'/\tn i s'.heap/\(∀b∈fp,H' b=none)/\W i m H':=fun{s' H'} I' nx=>by
    obtain⟨m',hm,w'⟩:=hNx H' nx;have rm:∀b∈fp,∀o,s7.heap.get? b=some o->s'.heap.get? b=some o/\H' b=none:=fun b hb o e=>
     let z:=I'.pin (b,o) (bh _ (bh _ (jE hb e)))
     ⟨z.1,z.2.1⟩
    have hl:(wipe σ (own.map (·.2))).length=σ8.length:=by rw[<- Bb,gZ]
    refine⟨m',hm,i+1,H',(I'.jZ (jh:=[])).weak hl (fun j v e=>?_),T.keep _ _ _ xu fun b hb o e=>(rm b hb o e).1,fun b hb=>?_,w'⟩
    ·rw[<- Bb]at e;exact(lG e).1
    ·obtain⟨o,e,_⟩:=T.obj _ _ xu b hb;exact(rm b hb o e).2
   refine af ?_;have q8:(if true=true then te σ8 H8 fun y H4=>∃acc,H4 D=some (.lst acc)/\acc.length<sizeLine/\Nx (upd H4 D (.lst (acc++[y])))else Nx H8):=q8;simp only[if_true]at q8 ⊢;have pe':=pe _ s8 σ8 H8 _ I8 q8;rw[eP,eW,eA,ee]at pe';refine wpAny_mono pe' (fun z s10 ⟨yv,H10,I10,r10,acc,zl,ym,nx⟩=>?_) ow;have ap:=J1 (E:=notedBy (model X.prog X.w) X.A ce fun e s'=>compPost (model X.prog X.w) X.A X.xe use Qf (.ref D) s3.heap.objs.size (.error e) s') (Q:=fun _ s₅=>∃m,m<n/\∃i H',Inv B [] (wipe σ (own.map (·.2))) H' s₅/\tn i s₅.heap/\(∀b∈fp,H' b=none)/\W i m H') I10 zl ym r10 fun s11 I11=>fin I11 nx
   rw[eP,eW,eA]at ap;exact ap
 exact codeAny_compStart_list loop (T.self X.A 0 _ _ _ An loop)
theorem MA(kl:HOk P w H0 s0.heap){lj tg iter:Expr}{scope:Scope}{own:List (Str×Nat)}{pos:Pos}{wi:TI}{g:TG}{te:TE}(hc:(cxF P w K mg base N qual ji f cd A outer s0 H0 E).calm=true)(hN:N.Nodup)
  (hi:L2.PI (cxF P w K mg base N qual ji f cd A outer s0 H0 E) tg iter wi) (ok:oN N ji scope own)
  (hg:∀(s:Shared)(H:Hp)(C:Addr)(cl:List (Str×Addr))(fp:List Addr),PG (uN (cxF P w K mg base N qual ji f cd A outer s0 H0 E) s H scope (compEnvC scope cl C (cxF P w K mg base N qual ji f cd A outer s0 H0 E).env) fp fun C=>E (.ref C) none H0) tg g)
  (he:∀(s:Shared)(H:Hp)(C:Addr)(cl:List (Str×Addr))(fp:List Addr),HOk P w H s.heap->PE (uN (cxF P w K mg base N qual ji f cd A outer s0 H0 E) s H scope (compEnvC scope cl C (cxF P w K mg base N qual ji f cd A outer s0 H0 E).env) fp fun C=>E (.ref C) none H0) lj te)
  (hs:∀x,foldedSetIterable iter (cxF P w K mg base N qual ji f cd A outer s0 H0 E).env x=pure x:=by intro _;rfl):
  PE (cxF P w K mg base N qual ji f cd A outer s0 H0 E) (.ListComp lj [⟨tg,iter,[],0⟩] scope pos) (tLc wi g GD te (own.map (·.2))):=by
 intro jh s σ H Q I h;rw[eval_ListComp];refine z9 rfl kl hN I hi ok hg he hs h fun D C s' m H' I' q hn f=>⟨m,hn,fun wb sb=>?_⟩
 obtain⟨f0,f1,f2,f3,f4,f5⟩:=f;exact⟨.ref D,H',I'.turned (t':=s'.toks) (fun b o hb e=>(sb.2 b hb).trans e) f0 f1 f3 f4 f5,rfl,q⟩
theorem vC(kl:HOk P w H0 s0.heap){i:Nat}{y:Str}{py:Pos}{lj tg iter:Expr}{scope:Scope}{own:List (Str×Nat)}{pos rl:Pos}{wi:TI}{g:TG}{te:TE}(hc:(cxF P w K mg base N qual ji f cd A outer s0 H0 E).calm=true)(hN:N.Nodup)(hy:N[i]? =some y)(sg:ji.names.lookup y=some .local)
  (hsw:swapsWith (.ListComp lj [⟨tg,iter,[],0⟩] scope pos) (some (.Name y py)) rl.line (cxF P w K mg base N qual ji f cd A outer s0 H0 E).env=pure true)
  (hi:L2.PI (cxF P w K mg base N qual ji f cd A outer s0 H0 E) tg iter wi) (ok:oN N ji scope own)
  (hg:∀(s:Shared)(H:Hp)(C:Addr)(cl:List (Str×Addr))(fp:List Addr),PG (uN (cxF P w K mg base N qual ji f cd A outer s0 H0 E) s H scope (compEnvC scope cl C (cxF P w K mg base N qual ji f cd A outer s0 H0 E).env) fp fun C=>E (.ref C) none H0) tg g)
  (he:∀(s:Shared)(H:Hp)(C:Addr)(cl:List (Str×Addr))(fp:List Addr),HOk P w H s.heap->PE (uN (cxF P w K mg base N qual ji f cd A outer s0 H0 E) s H scope (compEnvC scope cl C (cxF P w K mg base N qual ji f cd A outer s0 H0 E).env) fp fun C=>E (.ref C) none H0) lj te)
  (hs:∀x,foldedSetIterable iter (cxF P w K mg base N qual ji f cd A outer s0 H0 E).env x=pure x:=by intro _;rfl):
  PS (cxF P w K mg base N qual ji f cd A outer s0 H0 E) (.Assign [.Name y py] (.ListComp lj [⟨tg,iter,[],0⟩] scope pos) rl) (AR (tLc wi g GD te (own.map (·.2))) (j2 i)):=by
 generalize hX:cxF P w K mg base N qual ji f cd A outer s0 H0 E=X at*;have Cj:X.N.Nodup:=by subst hX;exact hN
 have qu:X.N[i]? =some y:=by subst hX;exact hy
 have Ba:X.env.scope.names.lookup y=some .local:=by subst hX;exact sg
 have ok':oN X.N X.env.scope scope own:=by subst hX;exact ok
 intro jh s σ H D I h;rw[exec_Assign_Name_used _ _ _ _ hsw];refine aa (wpAny_standAt (aa ?_));show wpAny _ X.A (do let _<- comprehension (.ListComp lj [⟨tg,iter,[],0⟩] scope pos) scope X.env (firstIterPos [⟨tg,iter,[],0⟩] pos) (newList []) false (eval iter X.env) (some (assign (.Name y py) X.env))) _ _ s
 have h:tLc wi g GD te (own.map (·.2)) σ H (fun x H1=>j2 i x σ H1 D.nx):=h;refine aa (thn (z9 (Qf:=fun _ s'=>SP X jh D .next s') hX.symm kl Cj I hi ok' hg (fun s H C cl fp hk=>he s H C cl fp (by subst hX;exact hk)) hs h fun L C s' m H' I' q hn f=>?_) fun _ s' hq=>af (af hq));show wpAny _ _ (assign (.Name y py) X.env (.ref L)) _ _ _
 refine wpAny_assign_Name (oS (v:=V.ref L) I' Cj qu (.inl Ba) rfl (fun s2 I2 ⟨a,sb,ha⟩=>?_) (.inr Ba));obtain⟨f0,f1,f2,f3,f4,f5⟩:=f;have haC:C≠a:=by
  rcases ha with z|z
  ·rw[z];exact f1
  ·exact fun e=>f4 y a z e.symm
 refine⟨m,hn.sameBut sb haC,fun h3 sb3=>?_⟩;exact⟨_,H',I2.turned (t':=s2.toks) (fun b o hb e=>(sb3.2 b hb).trans e) f0 f1 f3 f4 f5,q⟩
end
theorem T2.upd{H:Hp}{v:V}{p:Int×Int}{D:Addr}{xs:List V}{o:HO}(h:T2 H v p)(hD:H D=some (.lst xs)):T2 (L2.upd H D o) v p:=by obtain⟨a,e,q⟩:=h;exact⟨a,e,by rw[aA (eX q hD (by intro z;cases z))];exact q⟩
theorem T3.upd{H:Hp}{v:V}{p:Int×Int×Int}{D:Addr}{xs:List V}{o:HO}(h:T3 H v p)(hD:H D=some (.lst xs)):T3 (L2.upd H D o) v p:=by obtain⟨a,e,q⟩:=h;exact⟨a,e,by rw[aA (eX q hD (by intro z;cases z))];exact q⟩
theorem LT.upd{H:Hp}{b D:Addr}{zs:List PI}{xs:List V}{o:HO}(h:LT H (.ref b) zs)(hD:H D=some (.lst xs))(n:b≠D):LT (L2.upd H D o) (.ref b) zs:=by obtain⟨a,ys,e,q,pr⟩:=h;cases e;exact⟨b,ys,rfl,by rw[aA n];exact q,aH (fun _ _ z=>z.upd hD) pr⟩
theorem LLI.apart{H:Hp}{p:Addr}{xs:List V}(hp:H p=some (.lst xs)){v:V}(hv:v∈xs){row:List Int}(h:LI H v row):∃b,v=.ref b/\b≠p/\H b=some (.lst (row.map V.int)):=by obtain⟨b,rfl,q⟩:=h;refine⟨b,rfl,fun z=>?_,q⟩;rw[z,hp]at q;have q:=HO.lst.inj (Option.some.inj q);rw[q]at hv;obtain⟨n,_,e⟩:=aw.mp hv;cases e
theorem eV{α β:Type}{R:α->β->Prop}:∀{l:List α}{m:List β},Paired R l m->Paired R l.dropLast m.dropLast
 |_,_,.nil=>.nil
 |_,_,.cons _ .nil=>.nil
 |_,_,.cons r (.cons q t)=>.cons r (eV (.cons q t))
theorem lJ{α β:Type}{R:α->β->Prop}:∀{l:List α}{m:List β},Paired R l m->Paired (fun a b=>a∈l/\b∈m/\R a b) l m
 |_,_,.nil=>.nil
 |_,_,.cons r t=>.cons ⟨by simp,by simp,r⟩ (aH (fun _ _ ⟨h1,h2,h3⟩=>⟨ar _ h1,ar _ h2,h3⟩) (lJ t))
theorem nM{α:Type}{a:α}:∀{l:List α},a∈l.dropLast->a∈l
 |[],h=>by cases h
 |[_],h=>by cases h
 |x::y::r,h=>by
  rcases ao.mp h with rfl|h
  ·simp
  ·exact ar _ (nM h)
theorem zT{K:W.Frag}{a:Addr}{xs:List V}{g:TG}{tb:TS}{D:Ends}{σ:L2.St}{H:Hp}(Pv:Nat->L2.St->Hp->Prop)(h0:Pv 0 σ H)(hl:∀i σ H,i<=xs.length->Pv i σ H->SqL K H a xs)
  (hs:∀i x σ H T,xs[i]? =some x->Pv i σ H->H T=none->g (.ref T) σ (upd H T (.tup [.int (i:Nat),x])) fun σ2 H2=>tb {D with nx:=Pv (i+1),ct:=Pv (i+1),bk:=D.nx} σ2 H2) (hd:∀σ H,Pv xs.length σ H->D.nx σ H):
  ∃W:Nat->Nat->L2.St->Hp->Prop,(∃m,W 0 m σ H)/\∀i m σ H,W i m σ H ->
   ((Ite K a).stop i H/\D.nx σ H)\/((Ite K a).go i H/\∃N:L2.St->Hp->Prop,(∀σ' H',N σ' H'->∃m',m'<m/\W (i+1) m' σ' H')/\∀x H',(Ite K a).yld i H x H'->g x σ H' fun σ2 H2=>tb {D with nx:=N,ct:=N,bk:=D.nx} σ2 H2):=by
 refine⟨fun i m σ H=>m=xs.length - i/\i<=xs.length/\Pv i σ H,⟨xs.length,by simp,cn _,h0⟩,?_⟩;rintro i m σ H ⟨rfl,hi,p⟩;have q:=hl i σ H hi p;by_cases jw:i<xs.length
 ·refine .inr ⟨⟨xs,xs[i],q,by simp[jw]⟩,Pv (i+1),fun σ' H' p'=>⟨xs.length - (i+1),by omega,rfl,jw,p'⟩,fun x H' y=>?_⟩;obtain⟨T,z,rfl,hT,rfl,y⟩:=y;exact hs i z σ H T (y xs q) p hT
 ·have e:i=xs.length:=by omega
  subst e;exact .inl ⟨⟨xs,q,au _⟩,hd σ H p⟩
theorem nU{d:Addr}{od:Obj}{kvs:List (List Key×V)}{g:TG}{tb:TS}{D:Ends}{σ:L2.St}{H:Hp}(Pv:Nat->L2.St->Hp->Prop)(h0:Pv 0 σ H)(hl:∀i σ H,Pv i σ H->H d=some (.frz od (.dT kvs)))
  (hs:∀i k v q σ H,kvs[i]? =some (k,v)->H q=some (.tup (k.map kV))->Pv i σ H->g (.ref q) σ H fun σ2 H2=>tb {D with nx:=Pv (i+1),ct:=Pv (i+1),bk:=D.nx} σ2 H2) (hd:∀σ H,Pv kvs.length σ H->D.nx σ H):
  ∃W:Nat->Nat->L2.St->Hp->Prop,(∃m,W 0 m σ H)/\∀i m σ H,W i m σ H ->
   ((AE d od kvs).stop i H/\D.nx σ H)\/((AE d od kvs).go i H/\∃N:L2.St->Hp->Prop,(∀σ' H',N σ' H'->∃m',m'<m/\W (i+1) m' σ' H')/\∀x H',(AE d od kvs).yld i H x H'->g x σ H' fun σ2 H2=>tb {D with nx:=N,ct:=N,bk:=D.nx} σ2 H2):=by
 refine⟨fun i m σ H=>m=kvs.length - i/\i<=kvs.length/\Pv i σ H,⟨kvs.length,by simp,cn _,h0⟩,?_⟩;rintro i m σ H ⟨rfl,hi,p⟩;have q:=hl i σ H p;by_cases jw:i<kvs.length
 ·refine .inr ⟨⟨q,jw⟩,Pv (i+1),fun σ' H' p'=>⟨kvs.length - (i+1),by omega,rfl,jw,p'⟩,fun x H' y=>?_⟩;obtain⟨rfl,k,v,b,hk,rfl,hb⟩:=y;exact hs i k v b σ H' hk hb p
 ·have e:i=kvs.length:=by omega
  subst e;exact .inl ⟨⟨q,au _⟩,hd σ H p⟩
theorem K2{d:Addr}{od:Obj}{kvs:List (List Key×V)}{g:TG}{tt:TT}{te:TE}{vs:List Nat}{σ:L2.St}{H1:Hp}{D:Addr}{Qd:Hp->Prop}(Pv:Nat->Hp->Prop)(h0:Pv 0 (upd H1 D (.lst [])))(hl:∀i H,Pv i H->H d=some (.frz od (.dT kvs)))
  (hs:∀i k v q H,kvs[i]? =some (k,v)->H q=some (.tup (k.map kV))->Pv i H->g (.ref q) (wipe σ vs) H fun σ2 H2=>wipe σ2 vs=wipe σ vs/\tt σ2 H2 fun b H3=>
   if b=true then te σ2 H3 fun y H4=>∃acc,H4 D=some (.lst acc)/\acc.length<sizeLine/\Pv (i+1) (upd H4 D (.lst (acc++[y])))else Pv (i+1) H3) (hd:∀H,Pv kvs.length H->Qd H):
  ∃W:Nat->Nat->Hp->Prop,(∃m,W 0 m (upd H1 D (.lst [])))/\∀i m H,W i m H ->
   ((AE d od kvs).stop i H/\Qd H)\/((AE d od kvs).go i H/\∃Nx:Hp->Prop,(∀H',Nx H'->∃m',m'<m/\W (i+1) m' H')/\∀x H',(AE d od kvs).yld i H x H'->g x (wipe σ vs) H' fun σ2 H2=>wipe σ2 vs=wipe σ vs/\tt σ2 H2 fun b H3=>
    if b=true then te σ2 H3 fun y H4=>∃acc,H4 D=some (.lst acc)/\acc.length<sizeLine/\Nx (upd H4 D (.lst (acc++[y])))else Nx H3):=by
 refine⟨fun i m H=>m=kvs.length - i/\i<=kvs.length/\Pv i H,⟨kvs.length,by simp,cn _,h0⟩,?_⟩;rintro i m H ⟨rfl,hi,p⟩;have q:=hl i H p;by_cases jw:i<kvs.length
 ·refine .inr ⟨⟨q,jw⟩,Pv (i+1),fun H' p'=>⟨kvs.length - (i+1),by omega,rfl,jw,p'⟩,fun x H' y=>?_⟩;obtain⟨rfl,k,v,b,hk,rfl,hb⟩:=y;exact hs i k v b H' hk hb p
 ·have e:i=kvs.length:=by omega
  subst e;exact .inl ⟨⟨q,au _⟩,hd H p⟩
theorem a9.unlock{H H2:Hp}{d:Addr}{od:Obj}{u:HO}(h:H d=some u)(e:a9 (L2.upd H d (.frz od u)) H2):a9 H (L2.upd H2 d u):=fun b o q=>by
 by_cases hb:b=d
 ·subst hb;rw[a7];rw[h]at q;exact q
 ·rw[aA hb];exact e b o (by rw[aA hb];exact q)
theorem T2.rC{H:Hp}{v:V}{p:Int×Int}{D:Addr}{u o:HO}(h:T2 H v p)(hD:H D=some u)(hu:∀xs,u≠ .tup xs):T2 (L2.upd H D o) v p:=by obtain⟨a,e,q⟩:=h;exact⟨a,e,by rw[aA (eX q hD (fun z=>hu _ z.symm))];exact q⟩
theorem T3.rC{H:Hp}{v:V}{p:Int×Int×Int}{D:Addr}{u o:HO}(h:T3 H v p)(hD:H D=some u)(hu:∀xs,u≠ .tup xs):T3 (L2.upd H D o) v p:=by obtain⟨a,e,q⟩:=h;exact⟨a,e,by rw[aA (eX q hD (fun z=>hu _ z.symm))];exact q⟩
theorem IZ{xs:List V}{k:Nat}{v:V}(hk:k<xs.length)(h:xs[if k=0 then xs.length - 1 else k - 1]? =some v):atI xs ((k:Int) - 1)=some v:=by
 by_cases h0:k=0
 ·subst h0;rw[ah rfl]at h;unfold atI ixN;rw[ag (by omega),ah (by omega)];show xs[(((0:Nat):Int) - 1+(xs.length:Int)).toNat]? =some v
  rw[show(((0:Nat):Int) - 1+(xs.length:Int)).toNat=xs.length - 1 by omega];exact h
 ·rw[ag h0]at h;exact bI (by omega) (by rw[show((k:Int) - 1).toNat=k - 1 by omega];exact h)
def CS(C:List (Nat×Nat)):List (PI×V):=C.map fun c=>(RM.iP c,.bl true)
theorem lW(C:List (Nat×Nat)):(CS C).map (·.1)=C.map RM.iP:=by simp[CS]
theorem fZ{a b:Nat×Nat}(h:RM.iP a=RM.iP b):a=b:=by unfold RM.iP at h;have h1:=congrArg Prod.fst h;have h2:=congrArg Prod.snd h;simp at h1 h2;exact Prod.ext (by omega) (by omega)
theorem DJ(C:List (Nat×Nat))(c:Nat×Nat)(h:c∉C):RM.cR (CS C) (RM.iP c) (.bl true)=CS (C++[c]):=by
 rw[RM.fU]
 ·simp[CS]
 ·rw[lW];intro z;obtain⟨d,hd,e⟩:=aw.mp z;exact h (fZ e▸hd)
theorem qF(C:List (Nat×Nat)):(CS C).length=C.length:=by simp[CS]
theorem N9(C:List (Nat×Nat))(q:PI):(RM.aK (CS C) q).isSome=true↔q∈C.map RM.iP:=by rw[RM.aQ,lW]
end L3
namespace L3
open PySem PySem.Spec PySem.Calls PyProof.Rows L2
structure g9(h:Heap)(d:Addr)(o:Obj)(es:Array DictEntry)(ep:Nat):Prop where
 at_:h.get? d=some o
 ex:o.ExactDict
 dat:o.data=.dict es ep
theorem g9.ty{s:Shared}{d:Addr}{o:Obj}{es:Array DictEntry}{ep:Nat}(e:g9 s.heap d o es ep):s.TypeIs (.ref d) "dict" :=⟨o,e.at_,e.ex.1⟩
theorem g9.to{h h':Heap}{d:Addr}{o:Obj}{es:Array DictEntry}{ep:Nat}(e:g9 h d o es ep)(k:∀q,h.get? d=some q->h'.get? d=some q):g9 h' d o es ep:=⟨k _ e.at_,e.ex,e.dat⟩
section
variable {X:Cx}{jh:List (Addr×Obj)}{σ:L2.St}{H:Hp}{s:Shared}{a:Addr}{kvs:List (List Key×V)}
theorem lS(I:Inv X jh σ H s)(e:Rd H a (.dT kvs)):(a==sysModules)=false/\kvs.length<=sizeLine/\∃o es ep,g9 s.heap a o es ep/\es.size=kvs.length/\
  ∀(i:Nat)(en:DictEntry),es[i]? =some en->∃k v q,kvs[i]? =some (k,v)/\en.key=.ref q/\H q=some (.tup (k.map kV))/\RelV v en.val:=by
 obtain⟨z,hs,xs,kt,o,es,ep,ho,hx,ki,hes,_,_⟩:=nY I.hok e;refine⟨hs,z,o,es,ep,⟨ho,hx,ki⟩,?_,fun i en oq=>?_⟩
 ·rw[size_of_entries hes,<- Paired.length kt]
 ·rw[entry_at hes i]at oq;cases hxs:xs[i]? with
  |none=>rw[hxs]at oq;cases oq
  |some x=>rw[hxs]at oq;obtain⟨⟨k,v⟩,hk,e1,e2,e3⟩:=iV kt hxs;cases oq;exact⟨k,v,x.2.1,hk,rfl,e2,e3⟩
end
section
variable {prog:Program}{w:World}{A:Around}{E:Value->Shared->Prop}{s:Shared}{d:Addr}{o:Obj}{es:Array DictEntry}{ep:Nat}
theorem BA(hs:(d==sysModules)=false):MeetsIn prog w (Builtin.«dict.__len__» ⟨[.ref d],[]⟩) fun _ R s=>∃o es ep,g9 s.heap d o es ep/\R (.ok (.ret (.int es.size s.toks))) {s with toks:=s.toks+1}:=
 .of_wp fun A R s q=>by
  obtain⟨o,es,ep,e,hR⟩:=q;show wpAny _ _ (dictSize d>>=fun _=>_) _ _ s
  delta dictSize
  exact aa (aa (wpAny_dictEntries e.at_ e.dat (af (show wpAny _ _ (Builtin.Dict.pendingCount d>>=fun _=>_) _ _ s from aa (wpAny_pendingCount_other hs (wpAny_ret_mkInt (by rw[add_zero];exact hR)))))))
theorem ER{Q:Value->Shared->Prop}(hs:(d==sysModules)=false)(e:g9 s.heap d o es ep)(hf:(es.size:Int)<2^63)(hQ:Q (.int es.size (s.toks+1)) {s with toks:=s.toks+1+1}):
  wpAny (model prog w) A (Builtin.«len» ⟨[.ref d],[]⟩) (fun fin s'=>∃r,fin=.done (.ret r)/\Q r s') E s:=by
 delta Builtin.«len»
 refine aa (m:=oneArg "len" _) (af (aa (m:=callSpecial? (.ref d) (Str.ofString "__len__")) (wpAny_callSpecial?_slot (name:=Str.ofString "__len__") e.ty F.slot_dict_len (call_meetsIn F.slot_dict_len e.ty F.entry_dict_len (F.args_dict_len_1 _) (BA hs) ⟨o,es,ep,e,?_⟩))));show wpAny _ _ _ _ _ {s with toks:=s.toks+1}
 refine aa (wpAny_holding (af (aa (wpAny_letGo ?_))));have n1:¬(((es.size:Nat):Int)<0):=by omega
 have n2:¬(((es.size:Nat):Int)>=2^63):=by omega
 show wpAny _ _ (if((es.size:Nat):Int)<0 then _ else if((es.size:Nat):Int)>=2^63 then _ else _) _ _ _
 rw[ag n1,ag n2];exact aa (wpAny_mkInt (af ⟨_,rfl,hQ⟩))
theorem LL(hh:A.handled=none)(I:Addr)(jl:d≠I)(hx:o.ExactDict)(ki:o.data=.dict es ep):Walks prog w A I [I,d] [I] es.size (fun i v=>∃en,es[i]? =some en/\v=en.key) (fun i h=>h.IsKeyIter I d i es.size ep/\g9 h d o es ep) where
 sub:=fun b hb=>by rw[gk]at hb;rw[hb];exact bb
 frame:=fun _ _ _ st k=>⟨st.1.at fun q e=>k I bb q e,st.2.to fun q e=>k d (ar _ bb) q e⟩
 item:=fun i s Q E hi st hQ=>by
  have he:es[i]? =some es[i]:=cb hi;refine m5 st.1 st.2.at_ ki rfl he fun h' it' sb=>?_
  exact hQ _ h' s.toks ⟨_,he,rfl⟩ ⟨it',st.2.to fun q e=>(sb.2 d jl).trans e⟩ fun b q hb e=>(sb.2 b (fun z=>hb (z▸bb))).trans e
 done:=fun s Q E st hQ=>jD hh st.1 st.2.at_ ki rfl (au _) fun h' eb=>hQ h' s.toks fun b q hb e=>eb b q (fun z=>hb (z▸bb)) e
 self:=fun _ _ _ _ st hQ=>wpAny_pyIter_keyiter st.1 hQ
theorem NR(hs:(d==sysModules)=false)(hx:o.ExactDict)(ki:o.data=.dict es ep):W.KdlSrc prog w "dict" d d es.size (fun i v=>∃en,es[i]? =some en/\v=en.key) (fun h=>g9 h d o es ep) where
 type:=fun _ e=>e.ty
 there:=fun _ e=>⟨bj e.at_,bj e.at_⟩
 keep:=fun _ _ e k=>e.to fun q z=>k d (.inl rfl) q z
 notList:=by decide
 notTuple:=by decide
 hint:=fun _ _ _ _ e hq=>W.kdl_hint_dict e.ty hq
 iter:=fun A s hh e=>⟨_,_,fun _ _ hq=>pO hs e.at_ e.ex e.dat hq,LL hh _ (cf (bj e.at_)) hx ki,⟨⟨_,ax _ rfl,rfl,rfl⟩,e.to fun q z=>aj _ z⟩⟩
end
noncomputable def lD(H:Hp)(qs:List V)(kvs:List (List Key×V)):Prop:=Paired (fun v (kv:List Key×V)=>∃q,v=.ref q/\H q=some (.tup (kv.1.map kV))) qs kvs
theorem CW{H:Hp}{kvs:List (List Key×V)}:∀{us:List Value},us.length=kvs.length->(∀(j:Nat)(u:Value),us[j]? =some u->∃k v q,kvs[j]? =some (k,v)/\u=.ref q/\H q=some (.tup (k.map kV)))->∃qs,Vals qs us/\lD H qs kvs:=by
 induction kvs with
 |nil=>intro us hl _;exact⟨[],by rw[cy hl];exact .nil,.nil⟩
 |cons kv r ih=>
  intro us hl hu;match us,hl with
  |u::us,hl=>
   obtain⟨k,v,q,e1,e2,e3⟩:=hu 0 u rfl;obtain⟨qs,h1,h2⟩:=ih (us:=us) (by simpa using hl) fun j x hx=>by simpa using hu (j+1) x (by simpa using hx)
   have e1:kv=(k,v):=by simpa using e1
   exact⟨.ref q::qs,.cons e2 h1,.cons ⟨q,rfl,by rw[e1];exact e3⟩ h2⟩
section
variable {X:Cx}
theorem lU:jV X (.builtin "len") (fun xs H Q=>∃a kvs,xs=[V.ref a]/\Rd H a (.dT kvs)/\Q (.int kvs.length) H):=by intro jh s σ H xs us Q I r h;obtain⟨a,kvs,rfl,ha,q⟩:=h;obtain⟨u,rfl,ru⟩:=vals1 r;cases ru;obtain⟨hs,hz,o,es,ep,e,sz,_⟩:=lS I ha;have hn:=sY;exact Calls.call_function_entry kind_len plain_len entry_len (args_len1 _) (ER hs e (by rw[sz];omega) ⟨.int kvs.length,H,I.tok _,⟨_,by rw[sz]⟩,q⟩)
theorem C7(hc:X.calm=true):jV X (.type "list") (fun xs H Q=>∃a kvs,xs=[V.ref a]/\Rd H a (.dT kvs)/\∀l qs,H l=none->lD H qs kvs->Q (.ref l) (upd H l (.lst qs))):=by
 intro jh s σ H xs us Q I r h;obtain⟨a,kvs,rfl,ha,q⟩:=h;obtain⟨u,rfl,ru⟩:=vals1 r;cases ru;obtain⟨hs,hz,o,es,ep,e,sz,en⟩:=lS I ha;refine W.kdl_call (NR hs e.ex e.dat) (I.ok.hd hc) e (by rw[sz];exact hz) fun h' tk acc c kp hl it=>?_
 obtain⟨qs,v1,v2⟩:=CW (H:=H) (kvs:=kvs) (us:=acc.toList) (by rw[dm,it.1,sz]) fun j x hx=>by obtain⟨n,hn,e2⟩:=it.2 j x (by rw[<- gf];exact hx);obtain⟨k,v,p,e3,e4,e5,_⟩:=en j n hn;exact⟨k,v,p,e3,e2.trans e4,e5⟩
 have jt:qs.length<=sizeLine:=by rw[pairs_len v2];exact hz
 exact⟨.ref s.heap.objs.size,_,I.laid (a:=s.heap.objs.size) (o:=.lst qs) kp (au _) ⟨jt,acc.toList,c,v1,by rw[toArray_toList];exact hl⟩,rfl,q _ qs (I.hok.fresh (au _)) v2⟩
end
end L3
namespace L3
open PySem PySem.Spec PyProof.Rows L2
theorem AF(C:List (Nat×Nat))(q:PI):(RM.aK (CS C) q).isSome=decide (q∈RM.iW C):=by rw[ck,N9,decide_eq_true_iff];rfl
theorem mW{i:Nat}{x:V}(h:([.int 0,.int 1,.int 2,.int 3]:List V)[i]? =some x):i<4/\x=.int (i:Nat):=by
 have hi:i<4:=(ak.mp h).1;refine⟨hi,?_⟩;have cs:i=0\/i=1\/i=2\/i=3:=by omega
 rcases cs with rfl|rfl|rfl|rfl<;>(cases h;rfl)
theorem not_true{b:Bool}(h:¬b=true):b=false:=by simpa using h
def uF(H:Hp)(p:Addr):Nat:=match H p with|some (.lst xs)=>xs.length|_=>0
def lX(H:Hp)(p:Addr):Nat:=match H p with|some (.dT kvs)=>kvs.length|_=>0
theorem lO{H:Hp}{p:Addr}{xs:List V}(h:H p=some (.lst xs)):uF H p=xs.length:=by unfold uF;rw[h]
theorem CU{H:Hp}{p:Addr}{kvs:List (List Key×V)}(h:H p=some (.dT kvs)):lX H p=kvs.length:=by unfold lX;rw[h]
theorem z8{H:Hp}{p:Addr}{kvs:List (PI×V)}(h:D2 H p kvs):lX H p=kvs.length:=by rw[CU h,eZ]
theorem HU{H:Hp}{p:Addr}{kvs:List (PI3×V)}(h:D3 H p kvs):lX H p=kvs.length:=by rw[CU h,eZ]
theorem FK(xs:List V):FL xs none (some 1)=xs.take 1:=by
 unfold FL;cases xs with
 |nil=>rfl
 |cons x r=>
  have e:HT.sIx (x::r).length (x::r).length (some 1)=1:=by simp[HT.sIx]
  have e0:HT.sIx (x::r).length 0 none=0:=by simp[HT.sIx]
  rw[e,e0];rfl
theorem zB{H:Hp}{qs:List V}{kvs:List (PI×V)}(h:lD H qs (kvF k2 kvs)):Paired (T2 H) qs (kvs.map (·.1)):=by
 unfold lD kvF at h;induction kvs generalizing qs with
 |nil=>cases h;exact .nil
 |cons x r ih=>
  rw[bf]at h;cases h with
  |cons h t=>exact .cons h (ih t)
theorem pM{kvs:List (PI×V)}{i:Nat}{k:List Key}{v:V}(h:(kvF k2 kvs)[i]? =some (k,v)):∃p,kvs[i]? =some (p,v)/\k=k2 p:=by
 unfold kvF at h;rw[ba]at h;cases e:kvs[i]? with
 |none=>rw[e]at h;cases h
 |some x=>rw[e]at h;cases h;exact⟨x.1,rfl,rfl⟩
theorem HV{kvs:List (PI3×V)}{i:Nat}{k:List Key}{v:V}(h:(kvF k3 kvs)[i]? =some (k,v)):∃p,kvs[i]? =some (p,v)/\k=k3 p:=by
 unfold kvF at h;rw[ba]at h;cases e:kvs[i]? with
 |none=>rw[e]at h;cases h
 |some x=>rw[e]at h;cases h;exact⟨x.1,rfl,rfl⟩
def IV{κ:Type}(l:List (κ×Int)):List (κ×V):=l.map fun x=>(x.1,V.int x.2)
theorem xT{κ:Type}(l:List (κ×Int)):(IV l).map (·.1)=l.map (·.1):=by simp[IV]
theorem dY{κ:Type}(l:List (κ×Int)):(IV l).length=l.length:=by simp[IV]
theorem fB{κ:Type}[DecidableEq κ](k:κ):∀l:List (κ×Int),RM.aK (IV l) k=(RM.aK l k).map V.int
 |[]=>rfl
 |x::r=>by
  show RM.aK ((x.1,V.int x.2)::IV r) k=_
  rw[RM.bU,RM.bU,fB k r];by_cases e:x.1=k
  ·rw[ah e,ah e];rfl
  ·rw[ag e,ag e]
theorem lE{κ:Type}[DecidableEq κ](k:κ)(v:Int)(l:List (κ×Int)):RM.cR (IV l) k (.int v)=IV (RM.cR l k v):=by
 unfold RM.cR;have e:((IV l).any fun x=>decide (x.1=k))=l.any fun x=>decide (x.1=k):=by unfold IV;rw[any_map];rfl
 rw[e];split
 ·unfold IV;rw[dq,dq];apply fb;intro x _;simp only[Function.comp];split<;>rfl
 ·simp[IV]
theorem J8{κ:Type}[DecidableEq κ](k:κ)(l:List (κ×Int)):(RM.aK (IV l) k).isSome=(RM.aK l k).isSome:=by rw[fB];cases RM.aK l k<;>rfl
theorem a9.both{H H1:Hp}{c:Addr}{x:HO}(e:a9 H H1):a9 (L2.upd H c x) (L2.upd H1 c x):=fun b o h=>by
 by_cases hb:b=c
 ·subst hb;rw[a7]at h ⊢;exact h
 ·rw[aA hb]at h ⊢;exact e b o h
theorem fF{H:Hp}{c h:Addr}{o:HO}{u:HO}(hc:H c=some u)(hh:H h=none):(L2.upd H c o) h=none:=by rw[aA (aI hc hh).symm];exact hh
def But(a:Addr)(H H':Hp):Prop:=∀b u,b≠a->H b=some u->H' b=some u
theorem But.refl(a:Addr)(H:Hp):But a H H:=fun _ _ _ h=>h
theorem But.trans{a:Addr}{H H1 H2:Hp}(x:But a H H1)(y:But a H1 H2):But a H H2:=fun b u n h=>y b u n (x b u n h)
theorem a9.but{a:Addr}{H H':Hp}(e:a9 H H'):But a H H':=fun b u _ h=>e b u h
theorem But.here{a:Addr}{H H1:Hp}{o:HO}(x:But a H H1):But a H (L2.upd H1 a o):=fun b u n h=>by rw[aA n];exact x b u n h
theorem But.put{a x:Addr}{H H1:Hp}{o:HO}(e:But a H H1)(h:H x=none):But a H (L2.upd H1 x o):=fun b u n q=>by rw[aA (aI q h)];exact e b u n q
theorem T2.but{a:Addr}{H H':Hp}{v:V}{p:PI}{u:HO}(h:T2 H v p)(e:But a H H')(ha:H a=some u)(hu:∀xs,u≠ .tup xs):T2 H' v p:=by obtain⟨b,rfl,q⟩:=h;exact⟨b,rfl,e b _ (eX q ha (fun z=>hu _ z.symm)) q⟩
theorem But.same{a:Addr}{H0 H H':Hp}(e:But a H H')(s:a9 H0 H)(ha:H0 a=none):a9 H0 H':=fun b u q=>e b u (aI q ha) (s b u q)
theorem rL{p:Prop}{i:Decidable p}(h:(!@decide p i)=true):¬p:=fun z=>by rw[decide_eq_true z]at h;cases h
theorem nL{p:Prop}{i:Decidable p}(h:¬(!@decide p i)=true):p:=by
 by_cases z:p
 ·exact z
 ·rw[decide_eq_false z]at h;exact absurd rfl h
def KS{κ:Type}(l:List κ):List (κ×V):=l.map fun p=>(p,V.bl true)
theorem xS{κ:Type}(l:List κ):(KS l).map (·.1)=l:=by simp[KS,Function.comp_def]
theorem CC{κ:Type}(l:List κ):(KS l).length=l.length:=by simp[KS]
theorem J4{κ:Type}[DecidableEq κ](l:List κ)(k:κ):(RM.aK (KS l) k).isSome=decide (k∈l):=by rw[ck,RM.aQ,xS,decide_eq_true_iff]
theorem L7{κ:Type}[DecidableEq κ]{l:List κ}{k:κ}(h:k∉l):RM.cR (KS l) k (.bl true)=KS (l++[k]):=by rw[RM.fU _ (by rw[xS];exact h)];simp[KS]
def ixs(l:List Int):List (Int ⊕ List Nat):=l.map Sum.inl
def leI(a b:List Int):Prop:=lexLt itemOrd (ixs b) (ixs a)=false
abbrev eB:Nat->Bool:=fun _=>false
theorem m4:∀{ks:List Int}{us:List Value}(i:Nat),Vals (ks.map V.int) us->tupItems eB i us=some (ixs ks)
 |[],us,i,r=>by rw[ie]at r;cases r;rfl
 |k::ks,us,i,r=>by
  rw[bf]at r;cases r with
  |cons h t=>
   obtain⟨tk,rfl⟩:=h;show(if eB i=true then none else(tupItems eB (i+1) _).map (Sum.inl k::·))=_
   rw[ag (show¬eB i=true from bg),m4 (i+1) t];rfl
section
variable {X:Cx}{jh:List (Addr×Obj)}{σ:L2.St}{H:Hp}{s:Shared}
theorem MM(I:Inv X jh σ H s){b:Addr}{ks:List Int}(h:H b=some (.tup (ks.map V.int))):G.tupKeyC s.heap eB (.ref b)=some (ixs ks):=by
 obtain⟨its,rv,⟨o,ho,hc,n,hd⟩,_⟩:=I.tuple (SqT.of (K:=X.K) h);have e1:G.isTupObj s.heap (.ref b)=true:=by
  show(match s.heap.get? b with|some o=>(match o.cls with| .type n=>n== "tuple" |_=>false)|none=>false)=true
  rw[ho];show(match o.cls with| .type n=>n== "tuple" |_=>false)=true
  rw[hc];rfl
 have e2:tupKey s.heap eB (.ref b)=some (ixs ks):=by
  show(match s.heap.get? b with|some o=>(match o.data with| .seq xs _=>tupItems eB 0 xs.toList|_=>none)|none=>none)=_
  rw[ho];show(match o.data with| .seq xs _=>tupItems eB 0 xs.toList|_=>none)=_
  rw[hd];exact m4 0 rv
 unfold G.tupKeyC;rw[ah e1,e2]
theorem LM(I:Inv X jh σ H s){b:Addr}{ks:List Int}(h:H b=some (.tup (ks.map V.int)))(jl:ks≠[]):∃f,TupOf s.heap eB (.ref b) f:=by
 obtain⟨its,rv,⟨o,ho,hc,n,hd⟩,_⟩:=I.tuple (SqT.of (K:=X.K) h);cases ks with
 |nil=>exact absurd rfl jl
 |cons k ks=>
  rw[bf]at rv;cases rv with
  |cons r t=>obtain⟨tk,rfl⟩:=r;exact⟨.int k tk,b,o,_,n,rfl,ho,hc,hd,rfl,fun _=>⟨k,tk,rfl⟩,fun z=>nomatch z⟩
theorem CF(I:Inv X jh σ H s){kf:Addr->List Int}:∀{bs as:List Addr},Paired (fun b a=>H b=some (.tup ((kf a).map V.int))) bs as->(∀a∈as,kf a≠[])->∃fs,TupsOf s.heap eB (bs.map Value.ref) fs/\fs.length=bs.length
 |_,_,.nil,_=>⟨[],.nil,rfl⟩
 |_,_,.cons h t,jl=>by
  obtain⟨fs,h1,h2⟩:=CF I t fun a ha=>jl a (ar _ ha)
  obtain⟨f,hf⟩:=LM I h (jl _ bb);exact⟨f::fs,.cons hf h1,by rw[bo,bo,h2]⟩
end
def rr(p:Addr×Addr):Keyed:=(.ref p.1,.ref p.2)
def adr:Value->Addr
 | .ref a=>a
 |_=>0
def un(p:Keyed):Addr×Addr:=(adr p.1,adr p.2)
theorem rN:∀(bs as:List Addr),(bs.map Value.ref).zip (as.map Value.ref)=(bs.zip as).map rr
 |[],as=>rfl
 |b::bs,[]=>rfl
 |b::bs,a::as=>by
  show(Value.ref b,Value.ref a)::(bs.map Value.ref).zip (as.map Value.ref)=rr (b,a)::(bs.zip as).map rr
  rw[rN bs as];rfl
theorem vH{α β:Type}{R:α->β->Prop}:∀{l:List α}{m:List β},Paired R l m->∀p∈l.zip m,R p.1 p.2
 |_,_,.nil,p,h=>by cases h
 |_,_,.cons r t,p,h=>by
  rcases ao.mp h with rfl|h
  ·exact r
  ·exact vH t p h
theorem CD{α β:Type}:∀{l:List α}{m:List β},l.length=m.length->(l.zip m).map (·.2)=m
 |[],[],_=>rfl
 |a::l,b::m,h=>by
  show b::(l.zip m).map (·.2)=b::m
  rw[CD (by simpa using h)]
theorem GN{h:Heap}{kf:Addr->List Int}{bs as:List Addr}{xs:Array Keyed}(hl:bs.length=as.length)(hk:∀p∈bs.zip as,G.tupKeyC h eB (.ref p.1)=some (ixs (kf p.2)))
  (hp:xs.Perm ((bs.map Value.ref).toArray.zip (as.map Value.ref).toArray)) (hs:SortedToK (G.tupKindC h eB) xs xs.size):
  ∃out:List Addr,(xs.map (·.2)).toList=out.map Value.ref/\out.Perm as/\out.Pairwise fun a b=>leI (kf a) (kf b):=by
 have hp2:xs.toList.Perm ((bs.zip as).map rr):=by have:=Array.perm_iff_toList_perm.mp hp;rw[ksk_zip,je,rN]at this;exact this
 have e0:xs.toList=(xs.toList.map un).map rr:=by
  rw[dq]
  conv=>lhs;rw[<- map_id xs.toList]
  apply fb;intro p hpm;obtain⟨q,_,rfl⟩:=aw.mp (hp2.mem_iff.mp hpm);rfl
 have hp3:(xs.toList.map un).Perm (bs.zip as):=by
  have:=hp2.map un;rw[dq]at this;have e:(bs.zip as).map (un∘rr)=bs.zip as:=by
   conv=>rhs;rw[<- map_id (bs.zip as)]
   rfl
  rw[e]at this;exact this
 refine⟨(xs.toList.map un).map (·.2),?_,?_,?_⟩
 ·rw[Array.toList_map]
  conv=>lhs;rw[e0]
  rw[dq,dq,dq,dq];rfl
 ·have:=hp3.map (·.2);rw[CD hl]at this;exact this
 ·rw[iy,List.pairwise_iff_getElem];intro i j hi hj hij;have hi':i<xs.size:=by simpa using hi
  have xb:j<xs.size:=by simpa using hj
  have q:=hs i j (le_of_lt hij) xb;have kk:∀(n:Nat)(hn:n<xs.size)(rg:n<(xs.toList.map un).length),KK (G.tupKindC h eB) xs n=ixs (kf ((xs.toList.map un)[n].2)):=by
   intro n hn rg;have hm:(xs.toList.map un)[n]∈bs.zip as:=hp3.mem_iff.mp (List.getElem_mem rg);have tw:=hk _ hm;have ex:xs[n]=rr ((xs.toList.map un)[n]):=by
    have h1:xs.toList[n]'(by simpa using hn)=rr ((xs.toList.map un)[n]):=by
     have:xs.toList[n]? =((xs.toList.map un).map rr)[n]? :=by rw[<- e0]
     rw[bq (by simpa using hn),ba,bq rg]at this;exact Option.some.inj this
    rw[<- h1];simp
   show(match xs[n]? with|some p=>((G.tupKindC h eB).keyOf p.1).getD (G.tupKindC h eB).dflt|none=>(G.tupKindC h eB).dflt)=_
   rw[cb hn,ex];show(G.tupKeyC h eB (.ref _)).getD []=_
   rw[tw];rfl
  rw[kk i hi' hi,kk j xb hj]at q;exact q
section
variable {X:Cx}{jh:List (Addr×Obj)}{σ:L2.St}{H:Hp}{s:Shared}{k:Nat}{f:Addr}{fd:FuncData}{par:Str}{sp:Sp}
theorem M3{Q:VK}{us:List Value}{vs:List V}(F:bJ X.prog X.w X.K X.mg X.base CX0 k f fd [par] sp)(hr:cO k X.A.in1.in1)(hb:Binds X.K fd [par] [])(I:Inv X jh σ H s)(r:Vals vs us)(h:sp vs H Q E0):
  wpAny (model X.prog X.w) X.A.in1.in1 (call (.ref f) us) (EP X jh σ Q) (fun _ _=>False) s:=by
 have hl:(us++[]).length=[par].length:=by rw[dj,<- r.length];exact F.len _ _ _ _ h
 refine wpAny_call (codeAny_mono (F.run X.A.in1.in1 X.stack s H ⟨us,[]⟩ (us++[]) vs Q E0 hr I.IQ.in1.in1 (hb s us I.kIn hl) (by rw[dj];exact r) h) fun o s' hq=>?_);cases o with
 |error e=>exact hq.elim
 |ok fl=>
  cases fl with
  |ret u=>exact I.after hq
  |next=>exact hq.elim
  |brk=>exact hq.elim
  |cont=>exact hq.elim
theorem GC{L kS:Addr}{od:Obj}{e1:Nat}{ks:List V}{out:List Addr}{st:SortSt}{P:PySem.Fin->Shared->Prop}(I:Inv X jh σ H s)(hL:H L=some (.frz od (.lst [])))(hn:∀o' u',X.H_0 L≠some (.frz o' u'))(ho:od=seqObj "list" #[] e1)
  (hK:H kS=some (.lst ks)) (jl:kS≠L) (eo:((arrOf st).map (·.2)).toList=out.map Value.ref) (hz:out.length<=sizeLine) (hf:failedOf st=none)
  (h:∀s',Inv X jh σ (upd (upd (upd H kS (.lst [])) L (.lst [])) L (.lst (out.map V.ref))) s'->P (.done (.ret .none)) s'):wpAny (model X.prog X.w) X.A.in1.in1 (ksk_tail L false e1 (.ref kS) st) P X.xe s:=by
 obtain⟨zk,itk,nk,rk,lk,ek⟩:=I.EL hK;have I1:=I.EM (t':=s.toks) (its':=[]) (f:=fun _=>#[]) hK ek rfl .nil (cn _);have hL1:(upd H kS (.lst [])) L=some (.frz od (.lst [])):=by rw[aA jl.symm];exact hL
 have eL:(s.heap.update kS (Obj.mapSeq fun _=>#[])).get? L=some (seqObj "list" #[] e1):=by rw[<- ho];exact(I1.hok L _ hL1).1
 have I2:=I1.unlock hL1 hn;have eo2:(arrOf st).map (·.2)=(out.map Value.ref).toArray:=by rw[<- eo,toArray_toList]
 have rv:∀l:List Addr,Vals (l.map V.ref) (l.map Value.ref):=fun l=>by
  induction l with
  |nil=>exact .nil
  |cons a l ih=>exact .cons rfl ih
 have I3:=I2.EM (t':=s.toks) (its:=[]) (its':=out.map Value.ref) (f:=fun _=>if false=true then((arrOf st).map (·.2)).reverse else(arrOf st).map (·.2)) a7 eL (by rw[ag bg];exact eo2) (rv out) (by rw[ai];exact hz);unfold ksk_tail;dsimp only;refine aa (listUpdate_at ek rfl ?_ (by rw[br,<- lk];exact zk) (cn _));refine aa (wpAny_letGo (aa (seqEpoch_at eL rfl ?_)));refine aa (listUpdate_at eL rfl ?_ (cn _) (by rw[ag bg,eo2,br,ai];omega));rw[hf];simp only[bne_self_eq_false,dv,if_false];exact af (h _ I3)
end
section
variable {X:Cx}{jh:List (Addr×Obj)}{σ:L2.St}{H:Hp}{s:Shared}{k:Nat}{f:Addr}{fd:FuncData}{par:Str}{sp:Sp}{kf:Addr->List Int}
theorem uS:∀l:List Addr,Vals (l.map V.ref) (l.map Value.ref)
 |[]=>.nil
 |_::l=>.cons rfl (uS l)
theorem KQ{L kS:Addr}{od:Obj}{e1:Nat}{bs as:List Addr}{P:PySem.Fin->Shared->Prop}(I:Inv X jh σ H s)(hL:H L=some (.frz od (.lst [])))(hn:∀o' u',X.H_0 L≠some (.frz o' u'))(ho:od=seqObj "list" #[] e1)
  (hK:H kS=some (.lst (bs.map V.ref))) (jl:kS≠L) (hp:Paired (fun b a=>H b=some (.tup ((kf a).map V.int))) bs as) (hk:∀a∈as,kf a≠[]) (hz:as.length<=sizeLine)
  (h:∀(out:List Addr)(s':Shared),out.Perm as->(out.Pairwise fun a b=>leI (kf a) (kf b))->Inv X jh σ (upd (upd (upd H kS (.lst [])) L (.lst [])) L (.lst (out.map V.ref))) s'->P (.done (.ret .none)) s'):
  wpAny (model X.prog X.w) X.A.in1.in1 (ksk_end L false (as.map Value.ref).toArray e1 (.ref kS) (bs.map Value.ref).toArray) P X.xe s:=by
 have hl:=pairs_len hp;have nh:∀p∈bs.zip as,G.tupKeyC s.heap eB (.ref p.1)=some (ixs (kf p.2)):=fun p hm=>MM I (vH hp p hm)
 have zs:((bs.map Value.ref).toArray.zip (as.map Value.ref).toArray).size=as.length:=by rw[Array.size_zip,br,br,ai,ai,hl,Nat.min_self]
 have fin:∀st:SortSt,(arrOf st).Perm ((bs.map Value.ref).toArray.zip (as.map Value.ref).toArray)->SortedToK (G.tupKindC s.heap eB) (arrOf st) (arrOf st).size->failedOf st=none->wpAny (model X.prog X.w) X.A.in1.in1 (ksk_tail L false e1 (.ref kS) st) P X.xe s:=by intro st h1 h2 h3;obtain⟨out,e,pm,pw⟩:=GN hl nh h1 h2;exact GC I hL hn ho hK jl e (by rw[pm.length_eq];exact hz) h3 fun s' I'=>h out s' pm pw I'
 unfold ksk_end;dsimp only;simp only[dv,if_false];by_cases h2:(as.map Value.ref).toArray.size<2
 ·rw[ah h2,ah h2];refine aa (af ?_);rw[StateT.run_pure];refine aa (af (fin (SortSt.mk' general' ((bs.map Value.ref).toArray.zip (as.map Value.ref).toArray) #[] 7 none) (Array.Perm.refl _) ?_ rfl));intro i j hij hj;have hj2:j<((bs.map Value.ref).toArray.zip (as.map Value.ref).toArray).size:=hj;rw[zs]at hj2;rw[br,ai]at h2;have e:i=j:=by omega
  rw[e];exact KeyOrd.kle_refl _
 ·rw[ag h2,ag h2];rw[br,ai]at h2;obtain⟨fs,ht,Cc⟩:=CF I hp hk;refine aa (tup_kind (by omega) ht ?_);refine aa (wpAny_mono (G.wpS_sortRunsSt (κ:=G.tupKindC s.heap eB) (kd:=tuples' true) (a₀:=(bs.map Value.ref).toArray.zip (as.map Value.ref).toArray) (st:=SortSt.mk' (tuples' true) ((bs.map Value.ref).toArray.zip (as.map Value.ref).toArray) #[] 7 none)
   (Q:=fun _ st=>(arrOf st).Perm ((bs.map Value.ref).toArray.zip (as.map Value.ref).toArray)/\SortedToK (G.tupKindC s.heap eB) (arrOf st) (arrOf st).size/\failedOf st=none)
   (G.tupC_ltAt true (G.KeepsTups.refl _)) (fun p hm=>?_) ⟨Array.Perm.refl _,rfl,rfl⟩ rfl (Stable.refl _) (by rw[zs];omega) fun st a1 a2 a3 _=>⟨a1,by rw[a1.size_eq];exact a3,a2⟩) ?_ fun _ _ e=>e)
  ·rw[ksk_zip,je,rN]at hm;obtain⟨q,hq,rfl⟩:=aw.mp hm;exact⟨_,nh q hq⟩
  ·rintro⟨⟨⟩,st⟩ s' ⟨rfl,h1,h3,h4⟩;exact fin st h1 h3 h4
theorem GO{L kS:Addr}{od:Obj}{e1:Nat}{as:List Addr}{P:PySem.Fin->Shared->Prop}{H0:Hp}(F:bJ X.prog X.w X.K X.mg X.base CX0 k f fd [par] sp)(hr:cO k X.A.in1.in1)(hb:Binds X.K fd [par] [])(I:Inv X jh σ H s)
  (hL:H0 L=some (.frz od (.lst []))) (hn:∀o' u',X.H_0 L≠some (.frz o' u')) (ho:od=seqObj "list" #[] e1) (hs0:a9 H0 H) (hK0:H0 kS=none) (hK:H kS=some (.lst [])) (hk:∀a∈as,kf a≠[]) (hz:as.length<=sizeLine)
  (turn:∀a∈as,∀H2,a9 H0 H2->sp [.ref a] H2 (fun r H3=>a9 H2 H3/\∃b,r=.ref b/\H3 b=some (.tup ((kf a).map V.int))) E0)
  (h:∀(out:List Addr)(H':Hp)(s':Shared),out.Perm as->(out.Pairwise fun a b=>leI (kf a) (kf b))->(∀b u,b≠L->H0 b=some u->H' b=some u)->H' L=some (.lst (out.map V.ref))->Inv X jh σ H' s'->P (.done (.ret .none)) s'):
  wpAny (model X.prog X.w) X.A.in1.in1 (ksk_rest L (.ref f) false (as.map Value.ref).toArray e1 (.ref kS)) P X.xe s:=by
 have jl:kS≠L:=(aI hL hK0).symm;unfold ksk_rest;refine aa (wpAny_rule ?_);rw[List.forIn_toArray];refine aa (ksk_fold (fun i s'=>∃(H':Hp)(bs:List Addr),Inv X jh σ H' s'/\a9 H0 H'/\H' kS=some (.lst (bs.map V.ref))/\Paired (fun b a=>H' b=some (.tup ((kf a).map V.int))) bs (as.take i)) (as.map Value.ref) 0 s ⟨H,[],I,hs0,hK,.nil⟩ ?_ ?_)
 ·rintro j x s' hx ⟨H',bs,I',s2,h2,pr⟩;rw[zero_add]at pr ⊢;rw[ba]at hx;obtain⟨a,ha,rfl⟩:∃a,as[j]? =some a/\x=.ref a:=by
   cases e:as[j]? with
   |none=>rw[e]at hx;cases hx
   |some a=>rw[e]at hx;exact⟨a,rfl,(Option.some.inj hx).symm⟩
  have hj:j<as.length:=(ak.mp ha).1;refine aa (wpAny_attempt (wpAny_mono (M3 F hr hb I' (vs:=[.ref a]) (.cons rfl .nil) (turn a (az ha) H' s2)) (fun v s3 q=>?_) fun _ _ z=>z.elim));obtain⟨v',H3,I3,rel,s3',b,rfl,hb3⟩:=q;cases rel;have h3:=s3' _ _ h2;obtain⟨zk,itk,nk,rk,lk,ek⟩:=I3.EL h3;have lb:=pairs_len pr;rw[bu]at lb;rw[ai]at lk;have eik:=hJ rk;dsimp only;refine aa (listUpdate_at ek rfl ?_ (by rw[br];omega) (by rw[Array.size_push,br];omega));have I4:=I3.EM (t':=s3.toks) (its:=itk) (its':=itk++[.ref b]) (f:=(·.push (.ref b))) (ys:=(bs++[b]).map V.ref) h3 ek (by simp) (by rw[cg];exact rk.append (.cons rfl .nil)) (by rw[ai,aq];simp;omega);refine af ⟨rfl,_,bs++[b],I4,a9.put (a9.trans s2 s3') hK0,a7,?_⟩;have wt:∀(b':Addr)(xs:List V),H3 b'=some (.tup xs)->(upd H3 kS (.lst ((bs++[b]).map V.ref))) b'=some (.tup xs):=fun b' xs e=>by rw[aA (eX e h3 (by intro z;cases z))];exact e
  rw[RM.take_snoc ha];exact aW (R:=fun b' a'=>(upd H3 kS (.lst ((bs++[b]).map V.ref))) b'=some (.tup ((kf a').map V.int))) (wt _ _ hb3) (aH (fun b' a' e=>wt _ _ (s3' _ _ e)) pr)
 ·rintro s' ⟨H',bs,I',s2,h2,pr⟩;rw[zero_add,ai,bc (au _)]at pr;obtain⟨zk,itk,nk,rk,lk,ek⟩:=I'.EL h2;have eik:=hJ rk;subst eik;refine aa (listItems_at ek rfl ?_);refine KQ I' (s2 _ _ hL) hn ho h2 jl pr hk hz fun out s3 pm pw I3=>h out _ s3 pm pw (fun b u nb e=>?_) a7 I3
  rw[aA nb,aA nb,aA (aI e hK0)];exact s2 _ _ e
theorem GJ{L:Addr}{as:List Addr}{P:PySem.Fin->Shared->Prop}(F:bJ X.prog X.w X.K X.mg X.base CX0 k f fd [par] sp)(hr:cO k X.A.in1.in1)(hb:Binds X.K fd [par] [])(I:Inv X jh σ H s)
  (hL:H L=some (.lst (as.map V.ref))) (hk:∀a∈as,kf a≠[])
  (turn:∀a∈as,∀H2,But L H H2->sp [.ref a] H2 (fun r H3=>a9 H2 H3/\∃b,r=.ref b/\H3 b=some (.tup ((kf a).map V.int))) E0)
  (h:∀(out:List Addr)(H':Hp)(s':Shared),out.Perm as->(out.Pairwise fun a b=>leI (kf a) (kf b))->But L H H'->H' L=some (.lst (out.map V.ref))->Inv X jh σ H' s'->P (.done (.ret .none)) s'):
  wpAny (model X.prog X.w) X.A.in1.in1 (ksk_tree L (.ref f) false) P X.xe s:=by
 obtain⟨z,its,n,r,hl,e⟩:=I.EL hL;have ei:=hJ r;subst ei;rw[ai]at z;have I1:=I.EM (t':=s.toks) (its':=[]) (f:=fun _=>#[]) hL e rfl .nil (cn _);obtain⟨e1,he1⟩:∃e1,(s.heap.update L (Obj.mapSeq fun _=>#[])).get? L=some (seqObj "list" #[] e1):=⟨_,get?_update_seq e fun _=>#[]⟩
 have hn:=I1.vL a7 trivial;obtain⟨od,I2⟩:=I1.lock a7 trivial;have eod:od=seqObj "list" #[] e1:=by have q:=(I2.hok L _ a7).1;rw[he1]at q;exact(Option.some.inj q).symm
 have b2:But L H (upd (upd H L (.lst [])) L (.frz od (.lst []))):=((But.refl L H).here).here;have hL2:(upd (upd H L (.lst [])) L (.frz od (.lst []))) L=some (.frz od (.lst [])):=a7;generalize (upd (upd H L (.lst [])) L (.frz od (.lst [])))=H2 at I2 b2 hL2;unfold ksk_tree;refine aa (listItems_at e rfl ?_);refine aa (listUpdate_at e rfl ?_ (by rw[br,ai];exact z) (cn _));refine aa (seqEpoch_at he1 rfl ?_);refine aa (wpAny_newTuple ?_ (by rw[je,ai];exact z));have I3:Inv X jh σ H2 {s with heap:=(s.heap.update L (Obj.mapSeq fun _=>#[])).push {cls:=.type "tuple",data:=.seq (as.map Value.ref).toArray.toList.toArray}}:=I2.kept (t':=s.toks) fun b u q=>aj _ q
 refine aa (wpAny_newList ?_ (cn _));refine wpAny_holding ?_;have fr:=I3.fresh;have I4:=I3.RV (t':=s.toks) (ys:=[]) (its:=[]) .nil (cn _);refine GO F hr hb I4 hL2 hn eod (a9.upd fr) fr a7 hk z (fun a ha H3 s3=>turn a ha H3 (b2.trans (a9.but s3))) fun out H' s' pm pw bt Cm I'=>h out H' s' pm pw (b2.trans bt) Cm I'
end
section
variable {prog:Program}{w:World}{A:Around}{E:Value->Shared->Prop}{s:Shared}{d:Addr}{o:Obj}{es:Array DictEntry}{ep:Nat}
theorem IX{Q:List Value->Shared->Prop}(hs:(d==sysModules)=false)(hh:A.handled=none)(e:g9 s.heap d o es ep)(hz:es.size<=sizeLine)
  (h:∀(vs:List Value) h' tk,vs.length=es.size->(∀(j:Nat)(v:Value),vs[j]? =some v->∃en,es[j]? =some en/\v=en.key)->(∀b q,s.heap.get? b=some q->h'.get? b=some q)->Q vs {s with heap:=h',toks:=tk}):wpAny (model prog w) A (collect (.ref d)) Q E s:=by
 have hd:d<s.heap.objs.size:=bj e.at_
 delta collect
 refine aa (wpAny_runValue (codeAny_builtin entry_proto_collect' ?_));show wpAny _ _ (newList []>>=fun l=>again (.builtin "list.__iadd__" ⟨[l,.ref d],[]⟩)) _ _ s
 refine aa (wpAny_newList (af ⟨Code.quiet_builtin _ (by decide+kernel),codeAny_builtin entry_list_iadd' ?_⟩) (cn _));have e2:g9 (s.heap.push {cls:=.type "list",data:=.seq #[]}) d o es ep:=e.to fun q z=>aj _ z
 have hS:(s.heap.push {cls:=.type "list",data:=.seq #[]}).get? s.heap.objs.size=some {cls:=.type "list",data:=.seq #[] 0}:=ax _ rfl;rw[Around.under_plainId (show plainId "list.__iadd__" =true by decide+kernel) _];show wpAny _ _ (Builtin.List.listExtendWith (.ref s.heap.objs.size) (.ref d) (.ref s.heap.objs.size)) _ _ {s with heap:=s.heap.push {cls:=.type "list",data:=.seq #[]}}
 refine W.kdl_extend (R:=fun r s'=>match r with| .ok (.ret v)=>wpAny (model prog w) A (match v with| .ref a=>(do let o<- load a;match o.data with| .seq xs _=>pure xs.toList|_=>unsupported "internal:collect")|_=>unsupported "internal:collect") Q E s'| .ok _=>False| .error e=>E e s') (s:={s with heap:=s.heap.push {cls:=.type "list",data:=.seq #[]}}) (NR hs e.ex e.dat) hh e2 s.heap.objs.size (jb hd) (jb hd) (.ref s.heap.objs.size) 0 hS (fun h' tk acc c kp hl it=>?_) hz;show wpAny (model prog w) A (load s.heap.objs.size>>= _) Q E _
 refine aa (wpAny_load hl ?_);refine af (h acc.toList h' tk (by rw[dm];exact it.1) (fun j v z=>it.2 j v (by rw[<- gf];exact z)) fun b q z=>?_);exact kp b q (cf (bj z)) (aj _ z)
end
section
variable {X:Cx}{jh:List (Addr×Obj)}{σ:L2.St}{H:Hp}{s:Shared}{k:Nat}{f:Addr}{fd:FuncData}{par:Str}{sp:Sp}{kf:Addr->List Int}
theorem rY{l:Addr}{as:List Addr}{Q:VK}(F:bJ X.prog X.w X.K X.mg X.base CX0 k f fd [par] sp)(hr:cO k X.A.in1.in1)(hb:Binds X.K fd [par] [])(I:Inv X jh σ H s)(hz:as.length<=sizeLine)
  (col:∀Q':List Value->Shared->Prop,(∀h' tk,(∀b q,s.heap.get? b=some q->h'.get? b=some q)->Q' (as.map Value.ref) {s with heap:=h',toks:=tk})->wpAny (model X.prog X.w) X.A.in1 (collect (.ref l)) Q' X.xe s)
  (hk:∀a∈as,kf a≠[]) (turn:∀a∈as,∀H2,a9 H H2->sp [.ref a] H2 (fun r H3=>a9 H2 H3/\∃b,r=.ref b/\H3 b=some (.tup ((kf a).map V.int))) E0)
  (h:∀(L:Addr)(out:List Addr)(H':Hp),H L=none->out.Perm as->(out.Pairwise fun a b=>leI (kf a) (kf b))->a9 H H'->H' L=some (.lst (out.map V.ref))->Q (.ref L) H'):
  wpAny (model X.prog X.w) X.A (call (.builtin "sorted") [.ref l] [(Str.ofString "key",.ref f)]) (EP X jh σ Q) X.xe s:=by
 refine call_function_entry_kw kind_sorted plain_sorted entry_sorted (ksk_s1 _ _) ?_
 delta Builtin.«sorted»
 refine aa (m:=checkCount "sorted" 1 1 _) (af (aa (col _ fun h1 Al k1=>?_)));refine aa (wpAny_newList ?_ (by rw[ai];exact hz));have I1:Inv X jh σ H {s with heap:=h1,toks:=Al}:=I.kept k1;have fr:=I1.fresh;have I2:=I1.RV (t':=Al) (uS as) (by rw[ai];exact hz);have Bc:({s with heap:=h1.push {cls:=.type "list",data:=.seq (as.map Value.ref).toArray},toks:=Al}:Shared).TypeIs (.ref h1.objs.size) "list" :=⟨_,ax _ rfl,rfl⟩;refine aa (wpAny_holding (wpAny_call_entry_kw slot_list_sort Bc entry_list_sort ?_ (ksk_l1 _ _)));show wpAny (model X.prog X.w) X.A.in1.in1 (Builtin.«list.sort» ⟨[.ref h1.objs.size],[(Str.ofString "key",.ref f)]⟩) _ _ _
 rw[ksk_t1];refine GJ F hr hb I2 a7 hk (fun a ha H2 b2=>turn a ha H2 (But.same b2 (a9.upd fr) fr)) fun out H' s' pm pw bt hL I'=>?_
 exact⟨_,rfl,af ⟨_,rfl,.ref h1.objs.size,H',I',rfl,h _ out H' fr pm pw (But.same bt (a9.upd fr) fr) hL⟩⟩
end
noncomputable def NH(K:W.Frag)(sp:Sp)(t:TA):TE:=fun σ H Q=>t σ H fun vs H1=>∃(l:Addr)(as:List Addr)(kf:Addr->List Int),vs=[.ref l]/\SqL K H1 l (as.map V.ref)/\(∀a∈as,kf a≠[])/\
 (∀a∈as,∀H2,a9 H1 H2->sp [.ref a] H2 (fun r H3=>a9 H2 H3/\∃b,r=.ref b/\H3 b=some (.tup ((kf a).map V.int))) E0)/\
 ∀(L:Addr)(out:List Addr)(H':Hp),H1 L=none->out.Perm as->(out.Pairwise fun a b=>leI (kf a) (kf b))->a9 H1 H'->H' L=some (.lst (out.map V.ref))->Q (.ref L) H'
noncomputable def LP(sp:Sp)(t:TA):TE:=fun σ H Q=>t σ H fun vs H1=>∃(d:Addr)(kvs:List (List Key×V)),vs=[.ref d]/\Rd H1 d (.dT kvs)/\∀as:List Addr,lD H1 (as.map V.ref) kvs->∃kf:Addr->List Int,(∀a∈as,kf a≠[])/\
 (∀a∈as,∀H2,a9 H1 H2->sp [.ref a] H2 (fun r H3=>a9 H2 H3/\∃b,r=.ref b/\H3 b=some (.tup ((kf a).map V.int))) E0)/\
 ∀(L:Addr)(out:List Addr)(H':Hp),H1 L=none->out.Perm as->(out.Pairwise fun a b=>leI (kf a) (kf b))->a9 H1 H'->H' L=some (.lst (out.map V.ref))->Q (.ref L) H'
theorem vP{H:Hp}:∀{qs:List V}{kvs:List (List Key×V)},lD H qs kvs->∃as:List Addr,qs=as.map V.ref
 |_,_,.nil=>⟨[],rfl⟩
 |_,_,.cons ⟨q,e,_⟩ t=>by obtain⟨as,rfl⟩:=vP t;exact⟨q::as,by rw[e];rfl⟩
section
variable {X:Cx}{k:Nat}{y par:Str}{sp:Sp}{e:Expr}{ta:TA}{p p2 p3 pos:Pos}
theorem vE{Qs:VK->List V->Hp->Prop}(hg:Gl X "sorted")(hm:X.mg "sorted" =none)(hy:Gl X y){f:Addr}(Bu:X.mg y=some (.ref f))(ha:PA X [e] ta)(Cf:(y==("__debug__" : Str))=false)
  (run:∀(jh:List (Addr×Obj))(s:Shared)(σ:L2.St)(H:Hp)(vs:List V)(us:List Value)(Q:VK),Inv X jh σ H s->Vals vs us->Qs Q vs H->wpAny (model X.prog X.w) X.A (call (.builtin "sorted") us [(Str.ofString "key",.ref f)]) (EP X jh σ Q) X.xe s)
  (h1:backTo pos (starEach [e] X.env)=(false,eval e X.env)::backTo pos (starEach [] X.env)) (h2:(backTo pos (starEach [e] X.env)).any (·.1)=false):
  PE X (.Call (.Name "sorted" p) [e] [⟨some "key",.Name y p2,p3⟩] pos) (fun σ H Q=>ta σ H (Qs Q)):=by
 intro jh s σ H Q I h;refine wpAny_Call_Name_kw (kH I hg hm (show bootBuiltins "sorted" =some (.builtin "sorted") by rfl) ?_);refine callWith_kw (thn (ha pos jh s σ H (Qs Q) I h) fun us s1 ⟨vs,H1,I1,r,q⟩=>?_) h1 h2;refine kws_cons (jF I1 hy Bu (kws_nil ?_) Cf);exact run jh _ σ H1 vs us Q I1 r q
theorem GY(D:aO X.prog X.w X.K X.mg X.base CX0 k y [par] sp)(hr:cO (k+2) X.A)(hg:Gl X "sorted")(hm:X.mg "sorted" =none)(hy:Gl X y)(ha:PA X [e] ta)(Cf:(y==("__debug__" : Str))=false:=by decide)
  (h1:backTo pos (starEach [e] X.env)=(false,eval e X.env)::backTo pos (starEach [] X.env):=by rfl) (h2:(backTo pos (starEach [e] X.env)).any (·.1)=false:=by rfl):
  PE X (.Call (.Name "sorted" p) [e] [⟨some "key",.Name y p2,p3⟩] pos) (NH X.K sp ta):=by
 obtain⟨f,fd,F,Bu,hkf,hb⟩:=D.ex;refine vE (Qs:=fun Q vs H1=>∃(l:Addr)(as:List Addr)(kf:Addr->List Int),vs=[.ref l]/\SqL X.K H1 l (as.map V.ref)/\(∀a∈as,kf a≠[])/\(∀a∈as,∀H2,a9 H1 H2->sp [.ref a] H2 (fun r H3=>a9 H2 H3/\∃b,r=.ref b/\H3 b=some (.tup ((kf a).map V.int))) E0)/\
  ∀(L:Addr)(out:List Addr)(H':Hp),H1 L=none->out.Perm as->(out.Pairwise fun a b=>leI (kf a) (kf b))->a9 H1 H'->H' L=some (.lst (out.map V.ref))->Q (.ref L) H') hg hm hy Bu ha Cf (fun jh s σ H vs us Q I r q=>?_) h1 h2
 obtain⟨l,as,kf,rfl,hs,hk,turn,fin⟩:=q;obtain⟨u,rfl,ru⟩:=vals1 r;cases ru;obtain⟨its,rv,pl,hz⟩:=I.list hs;have ei:=hJ rv;subst ei;rw[ai]at hz;refine rY F (hr.in1.in1) hb I hz (fun Q' q=>collect_list pl.isList (q _ s.toks fun b o z=>?_) (by rw[ai];exact hz)) hk turn fin;rw[Heap.get?_update_ne _ _ _ _ (cf (bj z))];exact aj _ z
theorem GZ(hc:X.calm=true)(D:aO X.prog X.w X.K X.mg X.base CX0 k y [par] sp)(hr:cO (k+2) X.A)(hg:Gl X "sorted")(hm:X.mg "sorted" =none)(hy:Gl X y)(ha:PA X [e] ta)(Cf:(y==("__debug__" : Str))=false:=by decide)
  (h1:backTo pos (starEach [e] X.env)=(false,eval e X.env)::backTo pos (starEach [] X.env):=by rfl) (h2:(backTo pos (starEach [e] X.env)).any (·.1)=false:=by rfl):
  PE X (.Call (.Name "sorted" p) [e] [⟨some "key",.Name y p2,p3⟩] pos) (LP sp ta):=by
 obtain⟨f,fd,F,Bu,hkf,hb⟩:=D.ex;refine vE (Qs:=fun Q vs H1=>∃(d:Addr)(kvs:List (List Key×V)),vs=[.ref d]/\Rd H1 d (.dT kvs)/\∀as:List Addr,lD H1 (as.map V.ref) kvs->∃kf:Addr->List Int,(∀a∈as,kf a≠[])/\(∀a∈as,∀H2,a9 H1 H2->sp [.ref a] H2 (fun r H3=>a9 H2 H3/\∃b,r=.ref b/\H3 b=some (.tup ((kf a).map V.int))) E0)/\
  ∀(L:Addr)(out:List Addr)(H':Hp),H1 L=none->out.Perm as->(out.Pairwise fun a b=>leI (kf a) (kf b))->a9 H1 H'->H' L=some (.lst (out.map V.ref))->Q (.ref L) H') hg hm hy Bu ha Cf (fun jh s σ H vs us Q I r q=>?_) h1 h2
 obtain⟨d,kvs,rfl,hd,q⟩:=q;obtain⟨u,rfl,ru⟩:=vals1 r;cases ru;obtain⟨hs,hz,o,es,ep,en,sz,oq⟩:=lS I hd;obtain⟨qs,rb⟩:∃qs:List V,Vals qs (es.toList.map (·.key))/\lD H qs kvs:=CW (by rw[ai,dm,sz]) fun j u hu=>by
  rw[ba,gf]at hu;cases e:es[j]? with
  |none=>rw[e]at hu;cases hu
  |some n=>rw[e]at hu;obtain⟨k,v,q,a1,a2,a3,_⟩:=oq j n e;exact⟨k,v,q,a1,by rw[<- a2];exact(Option.some.inj hu).symm,a3⟩
 obtain⟨as,rfl⟩:=vP rb.2;obtain⟨kf,hk,turn,fin⟩:=q as rb.2;have ei:=hJ rb.1;have xa:as.length=es.size:=by have:=congrArg List.length ei;rw[ai,ai,dm]at this;exact this.symm
 refine rY F (hr.in1.in1) hb I (by rw[xa,sz];exact hz) (fun Q' q=>IX hs (I.ok.hd hc) en (by rw[sz];exact hz) fun vs h' tk hl hv kp=>?_) hk turn fin;have ev:vs=as.map Value.ref:=by
  rw[<- ei];apply List.ext_getElem?;intro j;cases e:vs[j]? with
  |none=>have:=jd.mp e;rw[jd.mpr (by rw[ai,dm,<- hl];exact this)]
  |some v=>obtain⟨n,hn,rfl⟩:=hv j v e;rw[ba,gf,hn];rfl
 rw[ev];exact q h' tk kp
end
noncomputable def pairOf(H:Hp)(a:Addr):PI:=match H a with|some (.tup [.int x,.int y])=>(x,y)|_=>(0,0)
def iD(H:Hp)(a:Addr):List Int:=[(pairOf H a).2,(pairOf H a).1]
theorem vI{H:Hp}{a:Addr}{p:PI}(h:H a=some (.tup [.int p.1,.int p.2])):pairOf H a=p:=by unfold pairOf;rw[h]
theorem K1{H:Hp}{a b:Addr}(h:leI (iD H a) (iD H b)):RM.gB (pairOf H a) (pairOf H b):=by unfold leI iD ixs at h;generalize pairOf H a=p at h ⊢;generalize pairOf H b=q at h ⊢;unfold RM.gB;simp[PyProof.Rows.lexLt,itemLt]at h;omega
theorem sR{H:Hp}:∀{as:List Addr}{ps:List PI},Paired (T2 H) (as.map V.ref) ps->ps=as.map (pairOf H)
 |[],ps,h=>by cases h;rfl
 |a::as,ps,h=>by
  rw[bf]at h;cases h with
  |cons t r=>obtain⟨b,e,hb⟩:=t;cases e;rw[bf,vI hb,<- sR r]
theorem sH{H:Hp}:∀{as:List Addr},(∀a∈as,T2 H (.ref a) (pairOf H a))->Paired (T2 H) (as.map V.ref) (as.map (pairOf H))
 |[],_=>.nil
 |a::as,h=>.cons (h a bb) (sH fun b hb=>h b (ar _ hb))
theorem yS{H:Hp}{as:List Addr}{ps:List PI}(h:Paired (T2 H) (as.map V.ref) ps):∀a∈as,T2 H (.ref a) (pairOf H a):=by
 induction as generalizing ps with
 |nil=>intro a ha;cases ha
 |cons b as ih=>
  rw[bf]at h;cases h with
  |cons t r=>
   intro a ha;rcases ao.mp ha with rfl|ha
   ·obtain⟨c,e,hc⟩:=t;cases e;exact⟨a,rfl,by rw[vI hc];exact hc⟩
   ·exact ih r a ha
theorem qJ{H:Hp}{as out:List Addr}{ps:List PI}(h:Paired (T2 H) (as.map V.ref) ps)(hp:out.Perm as)(hs:out.Pairwise fun a b=>leI (iD H a) (iD H b)):
  ∃ys,Paired (T2 H) (out.map V.ref) ys/\ys.Perm ps/\ys.Pairwise RM.gB:=by
 have ht:=yS h;refine⟨out.map (pairOf H),sH fun a ha=>ht a (hp.mem_iff.mp ha),?_,?_⟩
 ·rw[sR h];exact hp.map _
 ·rw[iy];exact hs.imp fun z=>K1 z
def dP(p:PI):PyData:=.tuple [.int p.1,.int p.2]
def dW(w:List PI):PyData:=.list (w.map dP)
def dWs(ws:List (List PI)):PyData:=.list (ws.map dW)
theorem X4{K:W.Frag}{H:Hp}{v:V}{p:PI}(h:T2 H v p):Dp K H v (dP p):=by obtain⟨a,rfl,ha⟩:=h;exact .tup (SqT.of ha) (.cons (.int _) (.cons (.int _) .nil))
theorem C1{K:W.Frag}{H:Hp}{α:Type}{R:V->α->Prop}{f:α->PyData}(hf:∀v a,R v a->Dp K H v (f a)):∀{xs:List V}{ys:List α},Paired R xs ys->tX K H xs (ys.map f)
 |_,_,.nil=>.nil
 |_,_,.cons r t=>.cons (hf _ _ r) (C1 hf t)
theorem X3{K:W.Frag}{H:Hp}{v:V}{w:List PI}(h:LT H v w):Dp K H v (dW w):=by obtain⟨a,xs,rfl,ha,pr⟩:=h;exact .lst (SqL.of ha) (C1 (fun _ _ t=>X4 t) pr)
theorem LH{K:W.Frag}{H:Hp}{v:V}{ws:List (List PI)}(h:LLT H v ws):Dp K H v (dWs ws):=by obtain⟨a,xs,rfl,ha,pr⟩:=h;exact .lst (SqL.of ha) (C1 (fun _ _ t=>X3 t) pr)
theorem mI{α:Type}[DecidableEq α]{f:α->PyData}(hf:∀a b,PyData.eqv (f a) (f b)=decide (a=b)):∀xs ys:List α,PyData.eqvAll (xs.map f) (ys.map f)=decide (xs=ys)
 |[],[]=>by simp[PyData.eqvAll]
 |[],_::_=>by simp[PyData.eqvAll]
 |_::_,[]=>by simp[PyData.eqvAll]
 |x::xs,y::ys=>by rw[bf,bf,PyData.eqvAll,hf,mI hf xs ys];rw[ck];simp
theorem S8(a b:PI):PyData.eqv (dP a) (dP b)=decide (a=b):=by unfold dP;simp only[PyData.eqv,PyData.eqvAll,Bool.and_true];rw[ck];simp[Prod.ext_iff]
theorem S7(a b:List PI):PyData.eqv (dW a) (dW b)=decide (a=b):=by unfold dW;rw[PyData.eqv];exact mI S8 a b
theorem MT(a b:List (List PI)):PyData.eqv (dWs a) (dWs b)=decide (a=b):=by unfold dWs;rw[PyData.eqv];exact mI S7 a b
theorem xC{α:Type}{f:α->PyData}(hf:∀a,PyData.canLay0 (f a)=true):∀xs:List α,PyData.canLayAll0 (xs.map f)=true
 |[]=>by simp[PyData.canLayAll0]
 |x::xs=>by rw[bf,PyData.canLayAll0,hf,xC hf xs];rfl
theorem pX{α:Type}{f:α->PyData}{n:Nat}(hf:∀a,PyData.depth (f a)<=n):∀xs:List α,PyData.depthAll (xs.map f)<=n
 |[]=>by simp[PyData.depthAll]
 |x::xs=>by rw[bf,PyData.depthAll];have h1:=hf x;have h2:=pX hf xs;omega
theorem uV(ws:List (List PI)):SeqAt.shaped (dWs ws)=true:=by
 have l1:∀p,PyData.canLay0 (dP p)=true:=fun p=>by simp[dP,PyData.canLay0,PyData.canLayAll0]
 have l2:∀w,PyData.canLay0 (dW w)=true:=fun w=>by unfold dW;rw[PyData.canLay0];exact xC l1 w
 have d1:∀p,PyData.depth (dP p)<=1:=fun p=>by simp[dP,PyData.depth,PyData.depthAll]
 have d2:∀w,PyData.depth (dW w)<=2:=fun w=>by unfold dW;rw[PyData.depth];have:=pX d1 w;omega
 unfold SeqAt.shaped dWs;rw[PyData.canLay0,xC l2 ws,PyData.depth];have:=pX d2 ws;simp;omega
end L3
namespace L3
open PySem PySem.Spec PySem.Calls PyProof.Rows L2
section
variable {prog:Program}{w:World}{A:Around}{E:Value->Shared->Prop}{s:Shared}{d:Addr}{o:Obj}{es:Array DictEntry}{ep:Nat}
theorem wZ(hs:(d==sysModules)=false):MeetsIn prog w (Builtin.«dict.items» ⟨[.ref d],[]⟩) (fun _ R s=>(∃o es ep,g9 s.heap d o es ep)/\R (.ok (.ret (.ref s.heap.objs.size))) {s with heap:=s.heap.push {cls:=.type "dict_items",data:=.fields #[.ref d]}}):=
 .of_wp fun A R s q=>by
  obtain⟨⟨o,es,ep,e⟩,hR⟩:=q
  delta Builtin.«dict.items»
  refine aa (show wpAny _ _ (Builtin.Dict.noArgs _ _) _ _ s from ?_)
  delta Builtin.Dict.noArgs
  refine aa (wpAny_notOrdered_dict e.ty (show wpAny _ _ (pure d) _ _ s from af (show wpAny _ _ (Builtin.Dict.showsAll d>>=fun _=>_) _ _ s from ?_)))
  delta Builtin.Dict.showsAll
  rw[ag (show¬(d==sysModules)=true by rw[hs];exact bg)];exact aa (af (aa (wpAny_newObj_type (af ⟨_,rfl,hR⟩))))
theorem zD{v:Addr}{Q:Value->Shared->Prop}(hv:s.heap.IsItemsView v d)(e:g9 s.heap d o es ep)
  (hQ:Q (.ref s.heap.objs.size) {s with heap:=s.heap.push {cls:=.type "dict_itemiterator",data:=.fields #[.none,.bool false,.ref d,.int 0 0,.int es.size 0,.int ep 0,.none,.none]}}):wpAny (model prog w) A (pyIter (.ref v)) Q E s:=by
 obtain⟨vo,v1,v2,v3⟩:=id hv;refine wpAny_pyIter_slot hv.typeIs F.slot_dict_items_iter (wpAny_call_entry F.slot_dict_items_iter hv.typeIs F.entry_dict_items_iter (show wpAny _ _ (Builtin.«dict_items.__iter__» _) _ _ _ from ?_) (F.args_dict_items_iter_1 _))
 delta Builtin.«dict_items.__iter__»
 refine aa (af (aa (show wpAny _ _ (Builtin.Dict_items.dictOf _) _ _ _ from ?_)))
 delta Builtin.Dict_items.dictOf
 refine aa (wpAny_field v1 v3 (x:=.ref d) rfl (af (aa (show wpAny _ _ (Builtin.Dict_items.newIterator _ _) _ _ _ from ?_))))
 delta Builtin.Dict_items.newIterator
 refine aa (wpAny_dictEntries e.at_ e.dat (aa (wpAny_dictEpoch e.at_ e.dat ?_)));have own:Builtin.Dict_items.ownsTuple "dict_itemiterator" =true:=by rfl
 simp only[own,if_true];refine wpAny_newObj_type (af ⟨_,rfl,"dict_itemiterator",_,⟨_,ax _ rfl,rfl⟩,F.slot_dict_itemiterator_next.lookup,(by simpa[rawInt,Builtin.Dict_items.ownedTupleFields]using hQ)⟩) ?_;simp only[sizeOk,Builtin.Dict_items.ownedTupleFields,br,aq,bo,dt,sizeLine_eq]<;>omega
theorem B7{it:Addr}{i:Nat}{en:DictEntry}{k0 v0:Value}{Q:Option Value->Shared->Prop}(ju:IsItemIter s.heap it d i es.size ep k0 v0)(e:g9 s.heap d o es ep)(hx:es[i]? =some en)
  (hQ:∀h',IsItemIterOut h' it d (i+1) es.size ep en.key en.val s.heap.objs.size->h'.get? s.heap.objs.size=some {cls:=.type "tuple",data:=.seq #[en.key,en.val]}->h'.objs.size=s.heap.objs.size+1->(∀b q,b≠it->s.heap.get? b=some q->h'.get? b=some q)->Q (some (.ref s.heap.objs.size)) {s with heap:=h'}):
  wpAny (model prog w) A (pyNext (.ref it)) Q E s:=by
 obtain⟨g0,gn,dr,tk,os⟩:=s;have ty:Shared.TypeIs ⟨g0,gn,dr,tk,os⟩ (.ref it) "dict_itemiterator" :=⟨_,ju,rfl⟩
 delta pyNext
 refine aa (wpAny_attempt (wpAny_callSpecial?_slot (name:=Str.ofString "__next__") ty F.slot_dict_itemiterator_next (wpAny_call_entry F.slot_dict_itemiterator_next ty F.entry_dict_itemiterator_next ?_ (F.args_dict_itemiterator_next_1 _))));refine aa (af (aa (aa ?_)));first|refine aa (wpAny_typeNameOfWhole_itemiter ty (af (aa (wpAny_fieldsOf ju rfl ?_))))|refine aa (wpAny_typeNameOf_itemiter ty (af (aa (wpAny_fieldsOf ju rfl ?_))))
 have own:Builtin.Dict_items.ownsTuple "dict_itemiterator" =true:=by rfl
 simp only[own,if_true];show wpAny _ _ (if(Value.ref d==Value.none)=true then _ else _) _ _ ⟨g0,gn,dr,tk,os⟩
 have nn:¬((Value.ref d==Value.none)=true):=bg;rw[ag nn];refine aa (af (aa (wpAny_dictEntries e.at_ e.dat ?_)));rw[ag (show¬ _ by simp)];refine aa (af (aa (wpAny_dictEpoch e.at_ e.dat ?_)));rw[ag (show¬ _ by simp)];obtain⟨lt,oq⟩:=fm.mp hx;have i0:¬((i:Int)<0):=by omega
 refine af ?_;simp only[i0,if_false,gi,cb lt,oq];refine aa ?_;first|refine aa (wpAny_typeNameOfWhole_itemiter ty (af (aa (wpAny_isOneOf_itemiter ty ?_))))|refine aa (wpAny_typeNameOf_itemiter ty (af (aa (wpAny_isOneOf_itemiter ty ?_))))
 show wpAny _ _ (setField (.ref it) 3 (rawInt ((i:Int)+1))>>=fun _=>_) _ _ ⟨g0,gn,dr,tk,os⟩
 refine aa (wpAny_setField_rec ju (by simp) fun g1 a1 b1=>?_);replace b1:Heap.SameBut it g0 g1:=b1;replace a1:IsItemIter g1 it d (i+1) es.size ep k0 v0:=by
  have ei:((i+1:Nat):Int)=(i:Int)+1:=by omega
  show _=_
  rw[ei];simpa[rawInt]using a1
 have ty1:Shared.TypeIs ⟨g1,gn,dr,tk,os⟩ (.ref it) "dict_itemiterator" :=⟨_,a1,rfl⟩;refine aa (wpAny_holding (aa (wpAny_isOneOf_itemiter ty1 (aa (wpAny_isOneOf_itemiter ty1 ?_)))));show wpAny _ _ (Builtin.Dict_items.pairFromOwner (.ref it) 6 en.key en.val) _ _ ⟨g1,gn,dr,tk,os⟩
 delta Builtin.Dict_items.pairFromOwner
 refine aa (wpAny_newTuple ?_);have a2:IsItemIter (g1.push {cls:=.type "tuple",data:=.seq #[en.key,en.val]}) it d (i+1) es.size ep k0 v0:=aj _ a1;have z1:g1.objs.size=g0.objs.size:=b1.1;have il:it<g0.objs.size:=bj ju;have t2:(g1.push {cls:=.type "tuple",data:=.seq #[en.key,en.val]}).get? g0.objs.size=some {cls:=.type "tuple",data:=.seq #[en.key,en.val]}:=by rw[<- z1];exact ax _ rfl
 have z2:(g1.push {cls:=.type "tuple",data:=.seq #[en.key,en.val]}).objs.size=g0.objs.size+1:=by rw[fi,z1]
 have k2:∀b q,b≠it->g0.get? b=some q->(g1.push {cls:=.type "tuple",data:=.seq #[en.key,en.val]}).get? b=some q:=fun b q hb z=>aj _ (b1.extBut b q hb z)
 show wpAny _ _ (Builtin.Dict_items.ownedTupleIsFree (.ref it)>>=fun _=>_) _ _ ⟨g1.push {cls:=.type "tuple",data:=.seq #[en.key,en.val]},gn,dr,tk,os⟩
 rw[z1];generalize (g1.push {cls:=.type "tuple",data:=.seq #[en.key,en.val]})=g2 at a2 t2 z2 k2 ⊢;refine aa (show wpAny _ _ (Builtin.Dict_items.ownedTupleIsFree _) _ _ _ from ?_)
 delta Builtin.Dict_items.ownedTupleIsFree
 refine aa (wpAny_field a2 rfl (x:=.none) rfl (af ?_));simp only[if_true];refine aa (wpAny_field a2 rfl (x:=k0) rfl (aa (wpAny_field a2 rfl (x:=v0) rfl ?_)));refine aa (wpAny_setField_rec a2 (by simp) fun g3 a3 b3=>?_);replace b3:Heap.SameBut it g2 g3:=b3;replace a3:IsItemIter g3 it d (i+1) es.size ep en.key v0:=a3;refine aa (wpAny_setField_rec a3 (by simp) fun g4 a4 b4=>?_);replace b4:Heap.SameBut it g3 g4:=b4;replace a4:IsItemIter g4 it d (i+1) es.size ep en.key en.val:=a4;refine aa (wpAny_setField_rec a4 (by simp) fun g5 a5 b5=>?_);replace b5:Heap.SameBut it g4 g5:=b5;replace a5:IsItemIterOut g5 it d (i+1) es.size ep en.key en.val g0.objs.size:=a5;refine aa (wpAny_setField_rec a5 (by simp) fun g6 a6 b6=>?_);replace b6:Heap.SameBut it g5 g6:=b6;replace a6:IsItemIterOut g6 it d (i+1) es.size ep en.key en.val g0.objs.size:=a6;have kp:∀b q,b≠it->g2.get? b=some q->g6.get? b=some q:=fun b q hb z=>b6.extBut b q hb (b5.extBut b q hb (b4.extBut b q hb (b3.extBut b q hb z)))
 refine aa (wpAny_letGo (af (af ⟨_,rfl,af (hQ g6 a6 (kp _ _ (jb il) t2) ?_ fun b q hb z=>kp b q hb (k2 b q hb z))⟩)));show g6.objs.size=g0.objs.size+1
 rw[b6.1,b5.1,b4.1,b3.1,z2]
end
section
variable {prog:Program}{w:World}{A:Around}{E:Value->Shared->Prop}{s:Shared}{d:Addr}{o:Obj}{es:Array DictEntry}{ep:Nat}
theorem BH{it:Addr}{i:Nat}{k0 v0:Value}{Q:Option Value->Shared->Prop}(hh:A.handled=none)(ju:IsItemIter s.heap it d i es.size ep k0 v0)(e:g9 s.heap d o es ep)(vb:es.size<=i)
  (hQ:∀h',Heap.ExtBut it s.heap h'->Q none {s with heap:=h'}):wpAny (model prog w) A (pyNext (.ref it)) Q E s:=by
 have ty:s.TypeIs (.ref it) "dict_itemiterator" :=⟨_,ju,rfl⟩
 delta pyNext
 refine aa (wpAny_attempt (wpAny_callSpecial?_slot (name:=Str.ofString "__next__") ty F.slot_dict_itemiterator_next (wpAny_call_entry F.slot_dict_itemiterator_next ty F.entry_dict_itemiterator_next ?_ (F.args_dict_itemiterator_next_1 _))));refine aa (af (aa (aa ?_)));first|refine aa (wpAny_typeNameOfWhole_itemiter ty (af (aa (wpAny_fieldsOf ju rfl ?_))))|refine aa (wpAny_typeNameOf_itemiter ty (af (aa (wpAny_fieldsOf ju rfl ?_))))
 have own:Builtin.Dict_items.ownsTuple "dict_itemiterator" =true:=by rfl
 simp only[own,if_true];show wpAny _ _ (if(Value.ref d==Value.none)=true then _ else _) _ _ s
 have nn:¬((Value.ref d==Value.none)=true):=bg;rw[ag nn];refine aa (af (aa (wpAny_dictEntries e.at_ e.dat ?_)));rw[ag (show¬ _ by simp)];refine aa (af (aa (wpAny_dictEpoch e.at_ e.dat ?_)));rw[ag (show¬ _ by simp)];have i0:¬((i:Int)<0):=by omega
 refine af ?_;simp only[i0,if_false,gi,gj vb];refine aa ?_;first|refine aa (wpAny_typeNameOfWhole_itemiter ty (af (show wpAny _ _ (setField (.ref it) 2 .none>>=fun _=>_) _ _ s from aa (wpAny_setField ju rfl (by simp) ?_))))|refine aa (wpAny_typeNameOf_itemiter ty (af (show wpAny _ _ (setField (.ref it) 2 .none>>=fun _=>_) _ _ s from aa (wpAny_setField ju rfl (by simp) ?_))))
 show wpAny _ _ (newExc (.type "StopIteration") []>>= _) _ _ _
 refine aa ?_;simp only[newExc,newTuple];refine aa (wpAny_newObj_type ?_ (by size_fits));refine aa (m:=firstArgMember _ _) (wpAny_of_eq (a:=Value.none) (by first|rfl|(simp only[firstArgMember];rfl)) ?_);refine wpAny_newObj_type ?_ (by size_fits);simp only[raiseNew];refine aa (wpAny_handled ?_);rw[show A.in1.handled=none from hh];refine aa (af (wpAny_throw ?_));refine aa (wpAny_isInstance (T:= "StopIteration") (b:=true) ⟨_,ax _ rfl,rfl⟩ isSubtype_stop ?_);exact af (hQ _ (((Heap.SameBut.update ..).extBut.push _).push _))
end
noncomputable def J7(d:Addr)(o:Obj)(kvs:List (List Key×V)):It:=
 ⟨fun i H=>H d=some (.frz o (.dT kvs))/\i<kvs.length,fun i H x H'=>∃T k v q,kvs[i]? =some (k,v)/\H q=some (.tup (k.map kV))/\x=.ref T/\H T=none/\H'=upd H T (.tup [.ref q,v]),fun i H=>H d=some (.frz o (.dT kvs))/\kvs.length<=i⟩
section
variable {P:Program}{w:World}{K:W.Frag}{d:Addr}{o:Obj}{es:Array DictEntry}{ep:Nat}
theorem zZ{X:Cx}{jh:List (Addr×Obj)}{σ:L2.St}{H:Hp}{s:Shared}{kvs:List (List Key×V)}(I:Inv X jh σ H s)(h:H d=some (.frz o (.dT kvs)))(qc:o.data=.dict es ep):g9 s.heap d o es ep/\es.size=kvs.length/\∀(i:Nat)(en:DictEntry),es[i]? =some en->∃k v q,kvs[i]? =some (k,v)/\en.key=.ref q/\H q=some (.tup (k.map kV))/\RelV v en.val:=by
 obtain⟨_,_,o',sv,sx,e,sz,en⟩:=lS I (.inr ⟨o,h⟩);have e0:=(I.hok d _ h).1;have eo:o'=o:=by have:=e.at_;rw[e0]at this;exact(Option.some.inj this).symm
 subst eo;obtain⟨rfl,rfl⟩:=nZ qc e.dat;exact⟨e,sz,en⟩
theorem y8{kvs:List (List Key×V)}{mh:List Expr}{kk:Nat}{ng:Pos}(it:Addr)(qc:o.data=.dict es ep):Turn P w K (.Tuple mh kk ng) (J7 d o kvs) [it] it (fun i h=>∃k0 v0,IsItemIter h it d i kvs.length ep k0 v0) where
 mem:=by simp
 obj:=fun i h st b hb=>by
  have e:b=it:=by simpa using hb
  subst e;obtain⟨_,_,e⟩:=st;exact⟨_,e,fun v z=>nomatch z⟩
 keep:=fun i h h' st k=>let⟨k0,v0,e⟩:=st;⟨k0,v0,k it (by simp) _ e⟩
 item:=by
  intro X hP hw hK hc i jh s σ H E I hf st hg;subst hP hw hK;obtain⟨hd,hi⟩:=hg;obtain⟨e,sz,xk⟩:=zZ I hd qc;obtain⟨k0,v0,he⟩:=st;rw[<- sz]at he hi;obtain⟨k,v,q,zd,nh,hq,rv⟩:=xk i es[i] (cb hi);have jw:it<s.heap.objs.size:=bj he;refine B7 he e (cb hi) fun h' ho hT hz hk=>?_
  refine⟨_,rfl,wpAny_letOwnedTupleGo_items (s:={s with heap:=h'}) ho fun wb he' sb=>?_⟩;have xh:wb.get? s.heap.objs.size=some {cls:=.type "tuple",data:=.seq #[es[i].key,es[i].val]}:=(sb.2 _ (jb jw)).trans hT;have new:d3 X.prog X.w (upd H s.heap.objs.size (.tup [.ref q,v])) wb s.heap.objs.size (.tup [.ref q,v]):=⟨by show 2<=sizeLine;decide,[es[i].key,es[i].val],.cons nh (.cons rv .nil),⟨_,xh,rfl,_,rfl⟩⟩;have I1:Inv X jh σ (upd H s.heap.objs.size (.tup [.ref q,v])) {s with heap:=wb}:=I.uT (t':=s.toks) (ch:=[it]) (fun b ob hb z=>(sb.2 b (by simpa using hb)).trans (hk b ob (by simpa using hb) z)) hf (au _) new;refine⟨.ref s.heap.objs.size,_,I1,rfl,⟨_,k,v,q,zd,hq,rfl,I.hok.fresh (au _),rfl⟩,⟨_,_,by rw[<- sz];exact he'⟩,fun b hb=>?_⟩;have eb:b=it:=by simpa using hb
  rw[eb,aA (cf jw)];exact(hf it (by simp)).1
 done:=by intro X hP hw hK hc i jh s σ H E I hf st hg;subst hP hw hK;obtain⟨hd,hi⟩:=hg;obtain⟨f0,f1,f2,f3,f4,f5⟩:=hf it (by simp);obtain⟨e,sz,xk⟩:=zZ I hd qc;obtain⟨k0,v0,he⟩:=st;rw[<- sz]at he hi;exact BH (I.ok.hd hc) he e hi fun h' eb=>⟨rfl,I.turned (t':=s.toks) (fun b ob hb z=>eb b ob hb z) f0 f1 f3 f4 f5⟩
 self:=fun A i s Q E st h=>let⟨_,_,e⟩:=st;W.kcp_self e h
end
noncomputable def KA(td:TE):TI:=fun σ H R=>td σ H fun x H1=>∃d o kvs,x=.ref d/\H1 d=some (.frz o (.dT kvs))/\R (J7 d o kvs) H1
section
variable {X:Cx}{e:Expr}{td:TE}{kc jn:Pos}
theorem pC{mh:List Expr}{kk:Nat}{ng:Pos}(he:PE X e td)(ll:attributeBase e "items" X.env (eval e X.env)=eval e X.env:=by rfl)(my:(kc.endLine==jn.line)=true:=by rfl):L2.PI X (.Tuple mh kk ng) (.Call (.Attribute e "items" kc) [] [] jn) (KA td):=by
 intro jh s σ H R I h;refine wpAny_Call_method (T:= "dict") (id:= "dict.items") ll rfl my F.plainAttrs_dict F.slot_dict_items F.type_dict_items (thn (he jh s σ H _ I h) fun u s1 ⟨x,H1,I1,rx,d,o,kvs,ex,hd,q⟩=>?_);subst ex;obtain rfl:u=Value.ref d:=rx;obtain⟨hs,_,o',es,ep,en,sz,_⟩:=lS I1 (.inr ⟨o,hd⟩);have eo:o'=o:=by have:=en.at_;rw[(I1.hok d _ hd).1]at this;exact(Option.some.inj this).symm
 subst eo;refine⟨en.ty,fun b z=>by cases z;exact⟨o',en.at_,en.ex.2.1⟩,?_⟩;have I2:Inv X jh σ H1 {s1 with heap:=s1.heap.push {cls:=.type "dict_items",data:=.fields #[.ref d]}}:=I1.kept (t':=s1.toks) fun b ob q=>aj _ q
 have en2:g9 (s1.heap.push {cls:=.type "dict_items",data:=.fields #[.ref d]}) d o' es ep:=en.to fun q z=>aj _ z
 have fin:wpAny (model X.prog X.w) X.A (pyIter (.ref s1.heap.objs.size)) (PIE X jh σ (.Tuple mh kk ng) R) X.xe {s1 with heap:=s1.heap.push {cls:=.type "dict_items",data:=.fields #[.ref d]}}:=by refine zD ⟨_,ax _ rfl,rfl,rfl⟩ en2 (wW (tk:=s1.toks) I2 _ (y8 _ en.dat) ⟨.none,.none,?_⟩ q);rw[<- sz];exact ax _ rfl
 show wpAny _ _ (callWith jn (.builtin "dict.items") [.ref d] [] []) _ X.xe s1
 exact method_meetsIn F.slot_dict_items F.entry_dict_items rfl (PySem.evalArgs_none ⟨rfl,en.ty,F.args_dict_items_1 _,_,wZ hs,⟨o',es,ep,en⟩,fin⟩)
end
theorem pW{d:Addr}{od:Obj}{kvs:List (List Key×V)}{g:TG}{tb:TS}{D:Ends}{σ:L2.St}{H:Hp}(Pv:Nat->L2.St->Hp->Prop)(h0:Pv 0 σ H)(hl:∀i σ H,Pv i σ H->H d=some (.frz od (.dT kvs)))
  (hs:∀i k v q T σ H,kvs[i]? =some (k,v)->H q=some (.tup (k.map kV))->H T=none->Pv i σ H->g (.ref T) σ (upd H T (.tup [.ref q,v])) fun σ2 H2=>tb {D with nx:=Pv (i+1),ct:=Pv (i+1),bk:=D.nx} σ2 H2) (hd:∀σ H,Pv kvs.length σ H->D.nx σ H):
  ∃W:Nat->Nat->L2.St->Hp->Prop,(∃m,W 0 m σ H)/\∀i m σ H,W i m σ H ->
   ((J7 d od kvs).stop i H/\D.nx σ H)\/((J7 d od kvs).go i H/\∃N:L2.St->Hp->Prop,(∀σ' H',N σ' H'->∃m',m'<m/\W (i+1) m' σ' H')/\∀x H',(J7 d od kvs).yld i H x H'->g x σ H' fun σ2 H2=>tb {D with nx:=N,ct:=N,bk:=D.nx} σ2 H2):=by
 refine⟨fun i m σ H=>m=kvs.length - i/\i<=kvs.length/\Pv i σ H,⟨kvs.length,by simp,cn _,h0⟩,?_⟩;rintro i m σ H ⟨rfl,hi,p⟩;have q:=hl i σ H p;by_cases jw:i<kvs.length
 ·refine .inr ⟨⟨q,jw⟩,Pv (i+1),fun σ' H' p'=>⟨kvs.length - (i+1),by omega,rfl,jw,p'⟩,fun x H' y=>?_⟩;obtain⟨T,k,v,b,hk,hb,rfl,hT,rfl⟩:=y;exact hs i k v b T σ H hk hb hT p
 ·have e:i=kvs.length:=by omega
  subst e;exact .inl ⟨⟨q,au _⟩,hd σ H p⟩
section
variable {prog:Program}{w:World}{A:Around}{E:Value->Shared->Prop}
abbrev TK(prog:Program)(w:World):HeapKind prog w (List Key):=tupleKind (bY prog w)
theorem xE{h0 h:Heap}{ks:List Key}{a:Addr}(k:∀b q,h0.get? b=some q->h.get? b=some q)(x:(TK prog w).is h0 ks a):(TK prog w).is h ks a:=by obtain⟨o,its,n,ho,r⟩:=x;exact⟨o,its,n,k _ _ ho,r⟩
theorem tQ{h h':Heap}{S:Addr}{acc:List (List Key×Addr×Value)}(m:h.DictOfH (TK prog w) S acc)(hS:∀q,h.get? S=some q->h'.get? S=some q)(hk:∀x∈acc,(TK prog w).is h' x.1 x.2.1):h'.DictOfH (TK prog w) S acc:=by obtain⟨o,es,ep,a1,a2,a3,a4,_,a6⟩:=m;exact⟨o,es,ep,hS _ a1,a2,a3,a4,hk,a6⟩
noncomputable def CK(acc rest:List (List Key×Addr×Value)):List (List Key×Addr×Value):=rest.foldl (fun a q=>storedH a q.1 q.2.1 q.2.2) acc
theorem AS(acc:List (List Key×Addr×Value))(k:List Key)(a:Addr)(v:Value):(storedH acc k a v).length<=acc.length+1:=by unfold storedH;split<;>simp
theorem LF{R:Result->Shared->Prop}{S I l:Addr}{items:Array Value}{res:Value}{h0:Heap}(hh:A.handled=none)(hu:A.in1.units<cLine)(hIS:S≠I)(qx:h0.IsList l items)(hS0:∀b q,h0.get? b=some q->b≠S)(hI0:∀b q,h0.get? b=some q->b≠I):
  ∀(rest:List (List Key×Addr×Value))(i:Nat)(acc:List (List Key×Addr×Value))(ix:Int)(t:Tok)(s:Shared),items.size=i+rest.length->acc.length+rest.length<=sizeLine->(∀x∈acc,(TK prog w).is h0 x.1 x.2.1) ->
   (∀(j:Nat)(q:List Key×Addr×Value),rest[j]? =some q->∃b:Addr,items[i+j]? =some (.ref b)/\IsTup h0 b #[.ref q.2.1,q.2.2]/\(TK prog w).is h0 q.1 q.2.1) ->
   (∀b q,h0.get? b=some q->s.heap.get? b=some q)->s.heap.IsListIter I l i->s.heap.DictOfH (TK prog w) S acc ->
   (∀h' tk,h'.DictOfH (TK prog w) S (CK acc rest)->(∀b q,h0.get? b=some q->h'.get? b=some q)->R (.ok (.ret res)) {s with heap:=h',toks:=tk}) ->
   codeAny (model prog w) A (.builtin "dict.update.loop" ⟨[.ref S,.ref I,.int ix t,res],[]⟩) R s
 |[],i,acc,ix,t,s,hsz,hln,hacc,ht,k0,ju,hm,hR=>by
  have hl:s.heap.IsList l items:=qx.at fun q z=>k0 _ _ z
  refine codeAny_builtin xX ?_;rw[Around.under_plainId k6 _];show wpAny _ A.in1 (pyNext (.ref I)>>= _) _ _ s
  refine aa (wpAny_pyNext_list_end (A:=A.in1) hh ju hl (by first|exact gj (ik hsz)|(simp at hsz;simp;omega)) fun h' he=>?_);show wpAny _ A.in1 (Builtin.Dict.addKeywords S []>>= _) _ _ _
  have k1:∀b q,h0.get? b=some q->h'.get? b=some q:=fun b q z=>he b q (hI0 b q z) (k0 b q z)
  exact aa (af (af (hR h' s.toks (tQ hm (fun q z=>he S q hIS z) fun x hx=>xE k1 (hacc x hx)) k1)))
 |q::rest,i,acc,ix,t,s,hsz,hln,hacc,ht,k0,ju,hm,hR=>by
  obtain⟨b,hb,htup,hk⟩:=ht 0 q rfl;have hl:s.heap.IsList l items:=qx.at fun q z=>k0 _ _ z
  rw[bo]at hsz hln;refine codeAny_builtin xX ?_;rw[Around.under_plainId k6 _];show wpAny _ A.in1 (pyNext (.ref I)>>= _) _ _ s
  refine aa (wpAny_pyNext_list_item (x:=.ref b) ju hl (by simpa using hb) fun h1 hit1 hs1=>?_);have k1:∀b q,h0.get? b=some q->h1.get? b=some q:=fun b q z=>(hs1.2 b (hI0 b q z)).trans (k0 b q z)
  have hm1:h1.DictOfH (TK prog w) S acc:=tQ hm (fun q z=>(hs1.2 S hIS).trans z) fun x hx=>xE k1 (hacc x hx)
  obtain⟨o,ho,hc,n,hd⟩:=id htup;have ho1:=k1 _ _ ho;show wpAny _ A.in1 (holding [Value.ref b] _>>= _) _ _ _
  refine aa (wpAny_holding (aa (wpAny_tryCatch ?_)));unfold Builtin.Dict.pairItems;refine aa (wpAny_typeOf (T:= "tuple") ⟨o,ho1,hc⟩ ?_);rw[ah (by first|decide|rfl|simp)];refine aa (wpAny_seqItems ho1 hd (af ?_));show wpAny _ A.in1 (holding [Value.ref q.2.1,q.2.2] (dictSet S (.ref q.2.1) q.2.2)) _ _ _
  refine wpAny_holding (wpAny_dictSet_heap (knd:=TK prog w) (k:=q.1) hu (xE k1 hk) hm1 (fun h2 hm2 si=>?_) (by omega));have k2:∀b q,h0.get? b=some q->h2.get? b=some q:=fun b q z=>(si.2 b (hS0 b q z)).trans (k1 b q z)
  refine af ⟨plainId_quiet k6 _,LF (items:=items) hh hu hIS qx hS0 hI0 rest (i+1) (storedH acc q.1 q.2.1 q.2.2) (ix+1) 0 _ (show items.size=i+1+rest.length by omega) ?_ (fun x hx=>?_) (fun j q' e=>?_) k2 ?_ hm2 fun h' tk vm k=>hR h' tk vm k⟩
  ·have z:=AS acc q.1 q.2.1 q.2.2;omega
  ·unfold storedH at hx;split at hx
   ·obtain⟨y,hy,rfl⟩:=aw.mp hx;unfold putAt;split
    ·exact hacc y hy
    ·exact hacc y hy
   ·rcases ay.mp hx with hx|hx
    ·exact hacc x hx
    ·rw[gk.mp hx];exact hk
  ·obtain⟨b',a1,a2,a3⟩:=ht (j+1) q' (by simpa using e);exact⟨b',by rw[show i+1+j=i+(j+1) by omega];exact a1,a2,a3⟩
  ·exact hit1.at fun o' e=>(si.2 I (Ne.symm hIS)).trans e
theorem A2{s:Shared}{l:Addr}{ol:Obj}{items:Array Value}{n:Nat}{prs:List (List Key×Addr×Value)}{Q:Value->Shared->Prop}(hh:A.handled=none)(hu:A.in1.in1.units<cLine)(hl:s.heap.get? l=some ol)(hc:ol.cls=.type "list")(hd:ol.dict=none)
  (ki:ol.data=.seq items n) (hsz:items.size=prs.length) (hln:prs.length<=sizeLine)
  (ht:∀(j:Nat)(q:List Key×Addr×Value),prs[j]? =some q->∃b:Addr,items[j]? =some (.ref b)/\IsTup s.heap b #[.ref q.2.1,q.2.2]/\(TK prog w).is s.heap q.1 q.2.1)
  (h:∀h' tk,h'.DictOfH (TK prog w) s.heap.objs.size (CK [] prs)->(∀b o,s.heap.get? b=some o->h'.get? b=some o)->Q (.ref s.heap.objs.size) {s with heap:=h',toks:=tk}):
  wpAny (model prog w) A (call (.type "dict") [.ref l]) Q E s:=by
 refine callType_codes (Q₁:=fun obj s₁=>obj=.ref s.heap.objs.size/\s₁={s with heap:=s.heap.push {cls:=.type "dict",data:=.dict #[]}}) PySem.F.kt_called_dict (PySem.F.kt_typeCall_dict_1 _) PySem.F.entry_dict_init (kt_code_dict_new _ ⟨rfl,rfl⟩) ?_;rintro obj s₁ ⟨rfl,rfl⟩;have sk:(s.heap.push {cls:=.type "dict",data:=.dict #[]}).DictOfH (TK prog w) s.heap.objs.size []:=Heap.DictOfH.new s.heap;have k0:∀b o,s.heap.get? b=some o->(s.heap.push {cls:=.type "dict",data:=.dict #[]}).get? b=some o:=fun b o e=>aj _ e
 refine⟨sk.typeIs,PySem.F.args_dict_init_2 _ _,?_⟩;unfold Builtin.«dict.__init__»;refine aa ?_;unfold Builtin.Dict.selfAndRest;refine aa (wpAny_notOrdered_dict sk.typeIs ?_);show wpAny _ _ (pure (s.heap.objs.size,[Value.ref l])) _ _ _
 refine af ?_;show wpAny _ _ (Builtin.Dict.updateFrom "dict.__init__" s.heap.objs.size (.ref l) [] .none) _ _ _
 unfold Builtin.Dict.updateFrom;refine aa (wpAny_typeOf (T:= "list") ⟨ol,k0 _ _ hl,hc⟩ ?_);rw[ah (by first|decide|rfl|simp)];refine aa (EG (k0 _ _ hl) hc ki hd hh fun h1 Al hk1=>?_);rw[ah (show(none:Option Value).isNone=true from rfl)];refine aa (wpAny_rule ?_);have hl1:h1.IsList l items:=⟨ol,hk1 _ _ (k0 _ _ hl),hc,n,ki⟩;have hS1:s.heap.objs.size<h1.objs.size:=by have e:(s.heap.push {cls:=.type "dict",data:=.dict #[]}).get? s.heap.objs.size=some {cls:=.type "dict",data:=.dict #[]}:=ax _ rfl;exact bj (hk1 _ _ e)
 refine aa (wpAny_pyIter_list hl1 ?_);have k2:∀b o,h1.get? b=some o->(h1.push {cls:=.type "list_iterator",data:=.fields #[.ref l,.int 0 0]}).get? b=some o:=fun b o e=>aj _ e
 have kk:∀b o,s.heap.get? b=some o->(h1.push {cls:=.type "list_iterator",data:=.fields #[.ref l,.int 0 0]}).get? b=some o:=fun b o e=>k2 _ _ (hk1 _ _ (k0 _ _ e))
 have key:=LF (prog:=prog) (w:=w) (A:=A.in1) (R:=wants (fun r s₂=>r=.none/\Q (.ref s.heap.objs.size) s₂) E) (S:=s.heap.objs.size) (I:=h1.objs.size) (l:=l) (items:=items) (res:=Value.none) (h0:=s.heap) hh hu (cf hS1)
  ⟨ol,hl,hc,n,ki⟩ (fun b q z=>cf (bj z)) (fun b q z=>cf (lt_trans (bj z) hS1)) prs 0 [] 0 0
  {s with heap:=h1.push {cls:=.type "list_iterator",data:=.fields #[.ref l,.int 0 0]},toks:=Al} (by rw[hsz,zero_add]) (by rw[dt,zero_add];exact hln) (fun x hx=>nomatch hx)
  (fun j q e=>by rw[zero_add];exact ht j q e) kk ⟨_,ax _ rfl,rfl,rfl⟩ (tQ sk (fun q z=>k2 _ _ (hk1 _ _ z)) fun x hx=>nomatch hx)
  (fun h' tk vm k=>⟨rfl,h h' tk vm k⟩)
 first
  |exact af ⟨plainId_quiet k6 _,key⟩
  |exact aa (af (af ⟨plainId_quiet k6 _,key⟩))
end
noncomputable def kA(kvs more:List (List Key×V)):List (List Key×V):=more.foldl (fun acc kv=>putK acc kv.1 kv.2) kvs
theorem DI{H:Hp}:∀{more:List (List Key×V)}{prs:List (List Key×Addr×Value)}{kvs:List (List Key×V)}{acc:List (List Key×Addr×Value)},KT H more prs->KT H kvs acc->KT H (kA kvs more) (CK acc prs)
 |_,_,_,_,.nil,r=>r
 |kv::_,q::_,kvs,acc,.cons ⟨e1,e2,e3⟩ t,r=>by
  show KT H (kA (putK kvs kv.1 kv.2) _) (CK (storedH acc q.1 q.2.1 q.2.2) _)
  refine DI t ?_;have:=r.put kv.1 e2 e3;rw[e1]at this ⊢;exact this
theorem vB:∀(more kvs:List (List Key×V)),(kA kvs more).length<=kvs.length+more.length
 |[],kvs=>by simp[kA]
 |kv::r,kvs=>by
  have h1:=vB r (putK kvs kv.1 kv.2);have h2:=kG kvs kv.1 kv.2;show(kA (putK kvs kv.1 kv.2) r).length<=_
  rw[bo];omega
section
variable {X:Cx}
theorem C8(sq:X.calm=true)(hu:X.A.units+2<cLine):jV X (.type "dict") (fun xs H Q=>∃(a:Addr)(ps:List Addr)(kvs:List (List Key×V)),xs=[.ref a]/\SqL X.K H a (ps.map V.ref)/\Paired (fun p (kv:List Key×V)=>∃q,H p=some (.tup [.ref q,kv.2])/\H q=some (.tup (kv.1.map kV))) ps kvs/\
  ∀p,H p=none->Q (.ref p) (upd H p (.dT (kA [] kvs)))):=by
 intro jh s σ H xs us Q I r h;obtain⟨a,ps,kvs,ex,hq,hp,h⟩:=h;subst ex;obtain⟨u,eu,rx⟩:=vals1 r;subst eu;cases rx;obtain⟨its,rv,pl,hz⟩:=I.list hq;have ei:=hJ rv;subst ei;rw[ai]at hz;have hpr:∀{ps:List Addr}{kvs:List (List Key×V)},Paired (fun p (kv:List Key×V)=>∃q,H p=some (.tup [.ref q,kv.2])/\H q=some (.tup (kv.1.map kV))) ps kvs ->
   ∃prs:List (List Key×Addr×Value),KT H kvs prs/\prs.length=ps.length/\∀(j:Nat)(q:List Key×Addr×Value),prs[j]? =some q->∃b,ps[j]? =some b/\IsTup s.heap b #[.ref q.2.1,q.2.2]/\(TK X.prog X.w).is s.heap q.1 q.2.1:=by
  intro ps kvs hp;induction hp with
  |nil=>exact⟨[],.nil,rfl,fun j q e=>by simp at e⟩
  | @cons p kv ps kvs hq t ih=>
   obtain⟨prs,r1,r2,r3⟩:=ih;obtain⟨b,hb1,Ae⟩:=hq;obtain⟨its,rv,ht,_⟩:=I.tuple (SqT.of (K:=X.K) hb1);obtain⟨u,y,ei,ru,ry⟩:=vals2 rv;subst ei;cases (show u=Value.ref b from ru);refine⟨(kv.1,b,y)::prs,.cons ⟨rfl,Ae,ry⟩ r1,by rw[bo,bo,r2],fun j q e=>?_⟩;cases j with
   |zero=>have e':(kv.1,b,y)=q:=Option.some.inj e;subst e';exact⟨p,rfl,ht,kJ I.hok Ae⟩
   |succ j=>obtain⟨c,e1,e2,e3⟩:=r3 j q (by simpa using e);exact⟨c,by simpa using e1,e2,e3⟩
 obtain⟨prs,rel,hl,hpr⟩:=hpr hp;obtain⟨o,n,ho,hc,hd,ki⟩:=pl;refine A2 (prs:=prs) (I.ok.hd sq) hu ho hc hd ki (by simp[hl]) (by rw[hl];exact hz) (fun j q' e=>?_) fun h' tk vm k=>?_
 ·obtain⟨b,e1,e2,e3⟩:=hpr j q' e;exact⟨b,by simp[e1],e2,e3⟩
 ·have hm:(s.heap.objs.size==sysModules)=false:=beq_eq_false_iff_ne.mpr (jb I.big);have jt:(kA [] kvs).length<=sizeLine:=by have h1:=vB kvs [];have h2:=pairs_len hp;rw[dt]at h1;omega
  have kt:=DI rel (.nil:KT H [] []);obtain⟨q,es,ep,om,h2,h3,h4,_,h5⟩:=vm;refine⟨.ref s.heap.objs.size,_,I.laid (a:=s.heap.objs.size) (o:=.dT (kA [] kvs)) k (au _) ⟨jt,hm,_,kt.keeps fun c ys ec=>?_,q,es,ep,om,h2,h3,h4,h5⟩,rfl,h _ (I.hok.fresh (au _))⟩;rw[aA (aI ec (I.hok.fresh (au _)))];exact ec
end
end L3
namespace L3
open PySem PySem.Spec PyProof.Rows L2
theorem MN{A:Around}{k:Nat}(hr:cO k A):A.units+2<cLine:=gx (Nat.add_le_add_left (by decide:2<=64) _) hr.units
theorem CH{H:Hp}:∀{xs:List V}{ps:List PI},Paired (T2 H) xs ps->∃as:List Addr,xs=as.map V.ref
 |_,_,.nil=>⟨[],rfl⟩
 |_,_,.cons ⟨a,e,_⟩ t=>by obtain⟨as,rfl⟩:=CH t;exact⟨a::as,by rw[e];rfl⟩
theorem pT{α:Type}{l:List α}{i:Nat}{x:α}(h:l[i]? =some x):i<l.length:=(ak.mp h).1
theorem yL{κ:Type}[DecidableEq κ]{kf:κ->List Key}(hk:∀p q,kf p=kf q->p=q):∀(more kvs:List (κ×V)),kA (kvF kf kvs) (kvF kf more)=kvF kf (RM.cJ kvs more)
 |[],kvs=>rfl
 |x::r,kvs=>by
  show kA (putK (kvF kf kvs) (kf x.1) x.2) (kvF kf r)=kvF kf (RM.cJ (RM.cR kvs x.1 x.2) r)
  rw[AW hk,yL hk r]
theorem E9{L:List PI}(h:L.Nodup):kA [] (kvF k2 (KS L))=kvF k2 (KS L):=by have e:=yL (kf:=k2) (fun _ _=>BF) (KS L) [];rw[RM.qB (KS L) [] (by rw[xS];exact h) (by intro k _ z;cases z),nil_append]at e;exact e
def cnt(σ:L2.St)(i:Nat):Nat:=match σ[i]? with|some (some (.int k))=>k.toNat|_=>0
theorem T2.SD{a:Addr}{H H':Hp}{v:V}{p:PI}{kvs:List (PI×V)}(h:T2 H v p)(e:But a H H')(ha:D2 H a kvs):T2 H' v p:=h.but e ha (by intro _ z;cases z)
theorem K3{α:Type}{ws:List α}{q:α}{n:Nat}(hn:ws.length=n)(hq:ws[n - 1]? =some q):ws=ws.dropLast++[q]:=by
 subst hn;have jl:ws≠[]:=by intro z;rw[z]at hq;cases hq
 have e:=(ir jl).symm;rw[List.getLast_eq_getElem]at e;have e2:=(ak.mp hq).2;rw[e2]at e;exact e
noncomputable def LS(H:Hp)(a:Addr)(ts:List PI3):Prop:=∃xs,H a=some (.lst xs)/\Paired (T3 H) xs ts
noncomputable def LLS(H:Hp)(a:Addr)(Fs:List (List PI3)):Prop:=∃bs:List Addr,H a=some (.lst (bs.map V.ref))/\Paired (LS H) bs Fs
theorem LS.mono{H H':Hp}{a:Addr}{ts:List PI3}(e:a9 H H')(h:LS H a ts):LS H' a ts:=let⟨xs,h1,h2⟩:=h;⟨xs,e _ _ h1,aH (fun _ _ q=>q.mono e) h2⟩
theorem LS.upd{H:Hp}{b D:Addr}{ts:List PI3}{xs:List V}{o:HO}(h:LS H b ts)(hD:H D=some (.lst xs))(n:b≠D):LS (L2.upd H D o) b ts:=by obtain⟨ys,q,pr⟩:=h;exact⟨ys,by rw[aA n];exact q,aH (fun _ _ z=>z.upd hD) pr⟩
theorem qO{α β:Type}{R:α->β->Prop}:∀{l:List α}{m:List β}{b:β},Paired R l (m++[b])->∃l' a,l=l'++[a]/\Paired R l' m/\R a b
 |_,[],_,.cons r .nil=>⟨[],_,rfl,.nil,r⟩
 |_,_::m,_,.cons r t=>by obtain⟨l',a,e,h1,h2⟩:=qO (m:=m) t;exact⟨_::l',a,by rw[e];rfl,.cons r h1,h2⟩
end L3
namespace L3
open PySem PySem.Spec PySem.Calls PyProof.Rows L2
section
variable {M:Model}{A:Around}{E:Value->Shared->Prop}
variable {nm q nm' q':Str}{C N C' N':Addr}{bs bm bs' bm':List Value}{hdct xg:Bool}{sn sn':List Str}{sub Am:List Value}{ab ab':Bool}{col Cz:Option Bool}{dd zo:Option Addr}{k0 k1 k2 k3 k5 l0 l1 l2 l3 l5:Option Value}{lh ro:String}
theorem uD{h:Heap}{g:Array GenState}{d:Drawn}{t:Nat}{os:OsState}{e:Addr}{oe:Obj}{Q:Bool->Shared->Prop}
  (hC:h.get? C=some (excClassObj nm q C N bs bm hdct sn sub ab col dd k0 k1 k2 k3 k5 lh)) (hD:h.get? C'=some (excClassObj nm' q' C' N' bs' bm' xg sn' Am ab' Cz zo l0 l1 l2 l3 l5 ro))
  (he:h.get? e=some oe) (pj:oe.cls=.ref C) (ll:bm'.contains (.type "BaseException")=true) (hno:(Value.ref C::bm).contains (.ref C')=false) (hq:Q false ⟨h,g,d,t,os⟩):wpAny M A (excMatches (.ref e) (.ref C')) Q E ⟨h,g,d,t,os⟩:=by
 have hcB:(Value.ref C'::bm').contains (.type "BaseException")=true:=by rw[List.contains_cons,ll,Bool.or_true]
 have f:=tc_notTuple;unfold excMatches
 repeat (first|(with_reducible refine wpAny_loadPart_at he ?_;rw[pj])|with_reducible refine wpAny_loadPart_at hD ?_|(with_reducible refine wpAny_isSubtype_exc hD ?_;rw[hcB])|(with_reducible refine wpAny_isSubtype_exc hC ?_;rw[hno])|wp_step)
 exact hq
end
noncomputable def cxL(P:Program)(w:World)(K:W.Frag)(mg:Str->Option Value)(base:Heap)(N:List Str)(qual:Str)(scope:Scope)(f:Addr)(cd:Value)(cl:List (Str×Addr))(A:Around)(outer:List Env)(s:Shared)(H:Hp)(E:XK):Cx where
 prog:=P
 w:=w
 K:=K
 mg:=mg
 base:=base
 A:=A.deeper (W.envX qual scope s.heap.objs.size f cd cl)
 N:=N
 s_0:=s
 H_0:=H
 env:=W.envX qual scope s.heap.objs.size f cd cl
 outer:=outer
 stack:=W.envX qual scope s.heap.objs.size f cd cl::outer
 ex:=[]
 calm:=true
 fn:=fun _=>false
 pn:=[]
 xe:=fun e s'=>wpAny (model P w) (A.deeper (W.envX qual scope s.heap.objs.size f cd cl)) (leaving (W.envX qual scope s.heap.objs.size f cd cl) e) (fun _ xy=>CXf outer H s E e xy) (fun e' xy=>CXf outer H s E e' xy) s'
section
variable {P:Program}{w:World}{K:W.Frag}{mg:Str->Option Value}{base:Heap}{N:List Str}{qual:Str}{scope:Scope}{f:Addr}{cd:Value}{cl:List (Str×Addr)}{A:Around}{outer:List Env}{s:Shared}{H:Hp}{E:XK}
theorem NX(kl:HOk P w H s.heap):Passes CXf (cxL P w K mg base N qual scope f cd cl A outer s H E) (fun c _ _=>E c none H):=by
 intro jh σ H1 s1 e s' I h;obtain⟨ae,C,rfl,⟨⟨a0,fl⟩,sl,os,bare⟩,hE⟩:=h;have zm:Heap.FlyingW (gC s.heap H (frs outer++[])) (cxL P w K mg base N qual scope f cd cl A outer s H E).stack ae (.ref C) a0 s'.heap:=
  W.flyingW_base (fun b o q=>by
   obtain⟨z1,z2,z3,_⟩:=stays I kl (ex:=[]) (fun _ z=>z) q;exact gM z1 z2 (by rw[nK];exact z3)) fl
 refine wpAny_leaves_onW (L:=s.heap.objs.size) (outer:=outer) I.ok.frames rfl zm fun h2 fl3 up=>?_
 refine⟨ae,C,rfl,⟨⟨_,fl3⟩,fun b hb o q=>?_,os.trans I.os,bare⟩,hE⟩;have vp:b∈frs (cxL P w K mg base N qual scope f cd cl A outer s H E).stack:=by
  show b∈frs (_::outer)
  unfold frs;rw[fg];exact ar _ hb
 obtain⟨sl1,q1⟩:=k9 I hb (by intro z;exact nomatch z) q;obtain⟨qe,q2⟩:=sl b vp _ q1;obtain⟨o3,q3,nf⟩:=(fl.2.2.1.mem (b:=b) vp).2;rw[q2]at q3;cases q3;obtain⟨zt,q4⟩:=up b _ q2 nf;exact⟨zt,q4⟩
theorem K4{k:Nat}{name:Str}{params:Arguments}{body:Expr}{pm Ai:Value}{c':Addr}{Q:VK}{te:TE}{vs:List V}(hr:cO (k+1) A)(e0:oM P w K mg base A outer s H)
  (ho:s.heap.get? f=some (W.kla_obj name qual params body scope cl pm c' Ai)) (nj:s.heap.CodeRec (.ref c') qual) (px:bindArgs (W.kla_fn name qual params body scope cl pm (.ref c') Ai) ⟨[],[]⟩=pure [])
  (hk:scope.kind=.function) (hco:scope.isCoroutine=false) (hgen:scope.isGenerator=false) (hnc:∀x∈scope.names,x.2≠ .cell) (hnl:∀x,scope.names.lookup x≠some .local) (hN:vs.length=N.length)
  (inj:∀x y c,cl.lookup x=some c->cl.lookup y=some c->x=y) (has:∀x,scope.names.lookup x=some .free->∃c,cl.lookup x=some c)
  (mz:∀x c,cl.lookup x=some c->H c=none/\∃v,s.heap.IsCell c v) (hv:∀(i:Nat)(x:Str)(v:V),N[i]? =some x->vs[i]? =some v->scope.names.lookup x=some .free->∃c u,cl.lookup x=some c/\RelV v u/\s.heap.IsCell c (some u))
  (Bk:cO k (A.deeper (W.envX qual scope s.heap.objs.size f (.ref c') cl))->HOk P w H s.heap->PE (cxL P w K mg base N qual scope f (.ref c') cl A outer s H E) body te) (hq:te (vs.map some) H Q):
  codeAny (model P w) A (.call (.ref f) ⟨[],[]⟩) (CR CXf outer P w H s Q E) s:=by
 have yi:s.heap.NoLimit:=e0.mod.nolimit.keeps fun b o e=>(e0.bs b o e).1
 refine W.kla_callFunE hr.depth ho rfl hco hgen rfl nj ?_;rw[px];refine af (wpAny_newFunctionEnv hnc (fun x hx=>nomatch hx) (fun h1 hns hsb=>?_) hk);have kp:∀b o,s.heap.get? b=some o->h1.get? b=some o:=fun b o e=>(hsb.2 b (cf (bj e))).trans (aj _ e)
 refine⟨yi.keeps kp,?_⟩;show codeAny _ _ (.expr body (W.envX qual scope s.heap.objs.size f (.ref c') cl)) _ _
 have cat:∀{c:Addr}{v:Option Value},s.heap.IsCell c v->h1.IsCell c v:=fun⟨o,e,d⟩=>⟨o,kp _ _ e,d⟩
 have I:Inv (cxL P w K mg base N qual scope f (.ref c') cl A outer s H E) [] (vs.map some) H {s with heap:=h1,toks:=s.toks+([]:List (Str×Value)).length}:=by
  refine⟨⟨e0.mod,hk,rfl,rfl,au _,inj,fun x hx=>?_,fun x c hx=>(nomatch hx),fun _=>hr.hd,Around.frames_deeper e0.frames,.inr ⟨rfl,rfl⟩,fun b z=>(nomatch z),e0.bs,e0.bsz,fun b _ _ z=>(nomatch z),fun b z=>(nomatch z),e0.kK,e0.frf⟩,
   rfl,e0.bare,Un.kept kp,⟨_,hns,fun i x v h1 h2 h3=>?_⟩,fun x c e=>?_,e0.hok.fresh (au _),fun x c e=>(mz x c e).1,fun p hp=>(nomatch hp),e0.hok.kept kp,by rw[ai];exact hN⟩
  ·rcases hx with hx|hx
   ·exact absurd rfl (hnc _ (PySem.mem_of_lookup (show scope.names.lookup x=some .cell from hx)))
   ·exact has x hx
  ·have e2:vs[i]? =some v:=by
    rw[ba]at h2;cases e:vs[i]? with
    |none=>rw[e]at h2;cases h2
    |some z=>rw[e]at h2;cases h2;rfl
   rcases h3 with h3|h3|h3
   ·exact absurd h3 (hnl x)
   ·exact absurd rfl (hnc _ (PySem.mem_of_lookup (show scope.names.lookup x=some .cell from h3)))
   ·obtain⟨c,u,a1,a2,a3⟩:=hv i x v h1 e2 h3;exact⟨u,a2,.inr ⟨.inr h3,c,a1,cat a3⟩⟩
  ·obtain⟨v,hcv⟩:=(mz x c e).2;exact⟨v,cat hcv⟩
 refine W.kla_codeExpr (wpAny_mono (Bk (hr.deeper _) e0.hok [] _ (vs.map some) H Q I hq) (fun u s' h=>?_) fun e s' h=>h);obtain⟨v,H',J,rv,q⟩:=h;exact⟨v,H',J.os,J.bare,J.base,J.hok,rv,q⟩
end
def Flat(H:Hp):Prop:=∀b,H b=none\/∃o u,H b=some (.frz o u)
def cxE(X:Cx)(xe:Value->Shared->Prop):Cx:={X with xe:=xe}
noncomputable def cxM(X:Cx)(e:Value)(xe:Value->Shared->Prop):Cx:={X with A:=X.A.mark (some e),calm:=false,xe:=xe}
section
variable {X:Cx}{jh:List (Addr×Obj)}{σ:L2.St}{H:Hp}{s:Shared}{e:Value}{xe:Value->Shared->Prop}
theorem K7(I:Inv X jh σ H s):Inv (cxE X xe) jh σ H s:=by obtain⟨⟨o1,o2,o3,o4,o5,o6,o7,o8,o9,Aq,o11,o12,o13,o14,o15,o16,o17,o18⟩,i1,i2,i3,i4,i5,i6,i7,i8,i9,yl⟩:=I;exact⟨⟨o1,o2,o3,o4,o5,o6,o7,o8,o9,Aq,o11,o12,o13,o14,o15,o16,o17,o18⟩,i1,i2,i3,i4,i5,i6,i7,i8,i9,yl⟩
theorem BK(I:Inv (cxE X xe) jh σ H s):Inv X jh σ H s:=by obtain⟨⟨o1,o2,o3,o4,o5,o6,o7,o8,o9,Aq,o11,o12,o13,o14,o15,o16,o17,o18⟩,i1,i2,i3,i4,i5,i6,i7,i8,i9,yl⟩:=I;exact⟨⟨o1,o2,o3,o4,o5,o6,o7,o8,o9,Aq,o11,o12,o13,o14,o15,o16,o17,o18⟩,i1,i2,i3,i4,i5,i6,i7,i8,i9,yl⟩
theorem D0(I:Inv X jh σ H s):Inv (cxM X e xe) jh σ H s:=by obtain⟨⟨o1,o2,o3,o4,o5,o6,o7,o8,o9,Aq,o11,o12,o13,o14,o15,o16,o17,o18⟩,i1,i2,i3,i4,i5,i6,i7,i8,i9,yl⟩:=I;exact⟨⟨o1,o2,o3,o4,o5,o6,o7,o8,fun z=>(nomatch z),Aq,o11,o12,o13,o14,o15,o16,o17,o18⟩,i1,i2,i3,i4,i5,i6,i7,i8,i9,yl⟩
theorem BJ(ok:X.Ok)(I:Inv (cxM X e xe) jh σ H s):Inv X jh σ H s:=by obtain⟨_,i1,i2,i3,i4,i5,i6,i7,i8,i9,yl⟩:=I;exact⟨ok,i1,i2,i3,i4,i5,i6,i7,i8,i9,yl⟩
theorem zF(I:Inv X jh σ H s)(fl:Flat H){C ae:Addr}{a0:Value}{s2:Shared}(hf:Heap.FlyingW (gC s.heap H (frs X.stack++[])) X.stack ae (.ref C) a0 s2.heap)
  (sl:∀b∈frs X.stack,∀o,s.heap.get? b=some o->∃sl,s2.heap.get? b=some {o with slots:=sl}) (os:s2.os=s.os) (bare:AllBare s2.gens):Inv X jh σ H s2:=by
 have st:∀b o,s.heap.get? b=some o->b∉frs X.stack->s2.heap.get? b=some o:=fun b o e hb=>hf.1 b o (gM e (by rcases fl b with q|⟨o,u,q⟩<;>rw[q]<;>rfl) (by rw[nK];exact hb))
 have un:Un (frs X.stack) [] H H s.heap s2.heap:=
  ⟨fun b o e _ hb _=>st b o e hb,fun b o e _ hb _=>sl b hb o e,fun _ _ _ n _=>n,fun b o e _=>by
   by_cases hb:b∈frs X.stack
   ·obtain⟨sl,q⟩:=sl b hb o e;exact⟨_,q⟩
   ·exact⟨_,st b o e hb⟩,fun _ _ q=>q,fun _ _ _ q=>q,fun _ ps q=>⟨#[],by rw[q];simp⟩⟩
 refine I.DE os un (fun a o e=>?_) bare (fun b z=>(nomatch z));have na:a∉frs X.stack:=fun z=>by have:=I.wN a z;rw[this]at e;cases e
 refine(I.hok a o e).mV (fun b u hb q=>?_) (fun b z=>z) (fun b xs z=>z);rcases hb with rfl|hb
 ·exact st b u q na
 ·rcases fl b with z|⟨_,_,z⟩<;>rw[z]at hb<;>cases hb
theorem rZ{h:Heap}{l:List Env}{base h1 h2:Heap}(fr:h1.FunFrames base l)(sl:∀b∈frs l,∀o,h.get? b=some o->∃sl,h1.get? b=some {o with slots:=sl})(up:h1.UpToSlots h2):
  ∀b∈frs l,∀o,h.get? b=some o->∃sl,h2.get? b=some {o with slots:=sl}:=fun b hb o q=>by
 obtain⟨qe,q2⟩:=sl b hb o q;obtain⟨o3,q3,nf⟩:=(fr.mem (b:=b) hb).2;rw[q2]at q3;cases q3;obtain⟨zt,q4⟩:=up b _ q2 nf;exact⟨zt,q4⟩
end
structure HD where
 x:Str
 C:Addr
 k:Int
 np:Pos
 p1:Pos
 p2:Pos
 p3:Pos
 p4:Pos
 pos:Pos
noncomputable def HD.st(d:HD):Stmt:=.Return (some (.List [.UnaryOp .USub (.Constant (.int d.k) 0 d.p1) d.p2] d.p3)) d.p4
def HD.h(d:HD):ExceptHandler:=.ExceptHandler (some (.Name d.x d.np)) none [d.st] d.pos
noncomputable def gY(base:Heap)(C:Addr):Prop:=∃(nm q:Str)(N:Addr)(bs bm:List Value)(hdct:Bool)(sn:List Str)(sub:List Value)(ab:Bool)(col:Option Bool)(dd:Option Addr)(k0 k1 k2 k3 k5:Option Value)(lh:String),
 base.get? C=some (excClassObj nm q C N bs bm hdct sn sub ab col dd k0 k1 k2 k3 k5 lh)/\bm.contains (.type "BaseException")=true/\∀D,bm.contains (.ref D)=false
structure X8(X:Cx)(d:HD):Prop where
 bound:X.mg d.x=some (.ref d.C)
 gl:Gl X d.x
 cl:gY X.base d.C
 nd:(d.x==("__debug__" : Str))=false
section
variable {X:Cx}{jh:List (Addr×Obj)}{σ:L2.St}{H:Hp}{s:Shared}{e C:Addr}{Q:Flow->Shared->Prop}{E:Value->Shared->Prop}
theorem qW(I:Inv X jh σ H s)(hx:gY X.base C)(he:∃oe,s.heap.get? e=some oe/\oe.cls=.ref C):
  ∀(l:List HD),(∀d∈l,X8 X d)->(∃d∈l,d.C=C) ->
   (∀d∈l,d.C=C->∀E',wpAny (model X.prog X.w) (X.A.mark (some (.ref e))) (setFlight (.ref e) none) (fun _ s1=>wpAny (model X.prog X.w) (X.A.mark (some (.ref e))) (execs [d.st] X.env) Q E' s1) E' s) ->
   wpAny (model X.prog X.w) X.A (handleBy (.ref e) X.env (l.map HD.h)) Q E s
 |[],_,uc,_=>by obtain⟨d,hd,_⟩:=uc;exact(nomatch hd)
 |d::r,hok,uc,ju=>by
  have ih:=qW I hx he r (fun d hd=>hok d (ar _ hd));obtain⟨oe,ve,pj⟩:=he;have D:=hok d bb;obtain⟨nm,q,N,bs,bm,hdct,sn,sub,ab,col,dd,k0,k1,k2,k3,k5,lh,hC,hb,hn⟩:=hx;obtain⟨nm',q',N',bs',bm',xg,sn',Am,ab',Cz,zo,l0,l1,l2,l3,l5,ro,hC',qi,pd⟩:=D.cl;refine wpAny_handleBy_cons (codeAny_handlers_test (jF (D0 (e:=.ref e) (xe:=fun _ _=>False) I) D.gl D.bound ?_ D.nd)) (by intro q;cases q);by_cases hdc:d.C=C
  ·have hC2:=I.bk _ _ hC';have su:oe.cls=.ref d.C:=by rw[pj,hdc]
   exact wpAny_excMatches_sub_self (h:=s.heap) (g:=s.gens) hC2 ve su qi (codeAny_handlers_suite (ju d bb hdc _))
  ·refine uD (h:=s.heap) (g:=s.gens) (I.bk _ _ hC) (I.bk _ _ hC') ve pj qi ?_ ?_
   ·rw[List.contains_cons,hn];simp[hdc]
   ·refine ih ?_ fun d hd=>ju d (ar _ hd)
    obtain⟨d2,h2,h3⟩:=uc;rcases ao.mp h2 with rfl|h2
    ·exact absurd h3 hdc
    ·exact⟨d2,h2,h3⟩
end
section
variable {P:Program}{w:World}{K:W.Frag}{mg:Str->Option Value}{base:Heap}
theorem L5{k:Nat}{f fl:Addr}{name qual:Str}{params:Arguments}{body:List Stmt}{scope:Scope}{dV kV lg pm js ct oc:Value}{an od:Option Addr}{mi:Array (Option Value)}{A:Around}{outer:List Env}{s:Shared}{H:Hp}{Q:VK}{E:XK}{l:List HD}{d0:HD}{r0:List HD}{p1 p2 p3 p4:Pos}
  (lk:K.lookup f=some ⟨oc,od,.func (W.fnOf name qual params body scope dV kV lg pm an js ct),mi⟩) (nj:W.codeIn K js qual=true) (S:aJ ["tell"] ["tell"] scope) (zb:scope.names.lookup ("tell" : Str)=some NameKind.local)
  (kr:body=[.Try [.Return (some (.Call (.Name "tell" p1) [] [] p2)) p3] (l.map HD.h) [] [] p4]) (hl:l=d0::r0)
  (hr:cO (k+1) A) (e0:oM P w K mg base A outer s H) (hb:BindsTo s (W.fnOf name qual params body scope dV kV lg pm an js ct) ⟨[.ref fl],[]⟩ ([("tell" : Str)].zip [.ref fl])) (Ct:Flat H)
  (hd:∀d∈l,mg d.x=some (.ref d.C)/\scope.names.lookup d.x=some .globalImplicit/\gY base d.C/\(d.x==("__debug__" : Str))=false)
  (Cc:W.FnAt fl s.heap) (hH:H fl=none) (hno:fl∉frs outer)
  (Ci:∀(A1:Around)(qg:List Env)(s1:Shared),cO k A1->oM P w K mg base A1 qg s1 H->(∀b o,s.heap.get? b=some o->H b=none->b∉frs outer->s1.heap.get? b=some o) ->
   codeAny (model P w) A1 (.call (.ref fl) ⟨[],[]⟩) (CR CXf qg P w H s1 Q (fun c _ _=>∃C,c=.ref C/\(∃d∈l,d.C=C)/\∀d∈l,d.C=C->∀p,H p=none->Q (.ref p) (upd H p (.lst [.int (-d.k)])))) s1):
  codeAny (model P w) A (.call (.ref f) ⟨[.ref fl],[]⟩) (CR CXf outer P w H s Q E) s:=by
 have KX:K.In s.heap:=e0.mod.kin.keeps fun b o e=>(e0.bs b o e).1
 have yi:s.heap.NoLimit:=e0.mod.nolimit.keeps fun b o e=>(e0.bs b o e).1
 have pf:∀y∈[("tell" : Str)].zip [Value.ref fl],scope.names.lookup y.1=some .local\/(scope.names.lookup y.1=some .cell/\((cellsFrom (s.heap.objs.size+1) scope.names []).lookup y.1).isSome=true):=fun⟨n,v⟩ hy=>by
  rcases S.par n (of_mem_zip hy).1 with q|q
  ·exact .inl q
  ·exact .inr ⟨q,W.cellsFrom_some _ _ _ (.inl q)⟩
 refine codeAny_call_function hr.depth (KX _ _ lk) rfl S.co S.gen rfl (W.codeRec_of KX nj) (hb _ _ _ _ ?_);refine wpAny_newFunctionEnv_cells S.kind pf fun env he s1 x=>?_
 subst he;refine⟨yi.keeps x.toInCall.keep,codeAny_func ?_⟩;have I:Inv (cxF P w K mg base ["tell"] qual scope f js A outer s H E) [] (start ["tell"] [.ref fl]) H s1:=pP S hr.hd e0 rfl (.cons rfl .nil) x;have yu:=hr.deeper (envOfC qual scope s.heap.objs.size f js);let X:=cxF P w K mg base ["tell"] qual scope f js A outer s H E
 have main:wpAny (model P w) X.A (execs body X.env) (SP X [] {nx:=fun _ _=>False,rt:=Q}) X.xe s1:=by
  rw[kr,hl];have after:∀(f:Flow)(s1:Shared),SP X [] {nx:=fun _ _=>False,rt:=Q} f s1->(match f with| .next=>wpAny (model P w) X.A (execs [] X.env) (SP X [] {nx:=fun _ _=>False,rt:=Q}) X.xe s1|f=>SP X [] {nx:=fun _ _=>False,rt:=Q} f s1):=fun f s1 q=>by
   cases f with
   |next=>exact wpAny_execs_nil q
   |ret v=>exact q
   |brk=>exact q
   |cont=>exact q
  refine wpAny_execs_cons (wpAny_mono (wpAny_Try_except (Q:=SP X [] {nx:=fun _ _=>False,rt:=Q}) ?_) after fun _ _ q=>q);have hv:∀E',wpAny (model P w) X.A (eval (.Name "tell" p1) X.env) (EP (cxE X E') [] (start ["tell"] [.ref fl]) (fun v H'=>v=V.ref fl/\H'=H)) E' s1:=fun E'=>
   GX (X:=cxE X E') (i:=0) rfl (.inl zb) (by decide) (by decide) [] s1 _ H (fun v H'=>v=V.ref fl/\H'=H) (K7 I) ⟨.ref fl,rfl,rfl,rfl⟩
  refine wpAny_execs_cons (wpAny_Return_some (wpAny_Call_Name_kw (thn (hv _) fun u s2 hu=>?_)));obtain⟨v,H',J,rv,rfl,rfl⟩:=hu;obtain rfl:u=.ref fl:=rv;have J:=BK J;have kp:∀b o,s.heap.get? b=some o->H' b=none->b∉frs outer->s2.heap.get? b=some o:=fun b o e1 e2 e3=>J.base.keep b o e1 e2 e3 (by intro z;exact(nomatch z))
  have fn2:W.FnAt fl s2.heap:=by obtain⟨a1,a2,a3,a4,a5⟩:=Cc;exact⟨a1,a2,a3,a4,kp _ _ a5 hH hno⟩
  refine W.callWith_F0 fn2 (wpAny_call (codeAny_mono (Ci _ _ s2 yu J.IQ kp) fun r s' hq=>?_));cases r with
  |ok f1=>
   cases f1 with
   |ret u=>obtain⟨v,H3,J3,rv3,q3⟩:=J.after hq;exact⟨v,_,H3,J3,rv3,q3⟩
   |next=>exact False.elim hq
   |brk=>exact False.elim hq
   |cont=>exact False.elim hq
  |error e=>
   obtain⟨ae,C,rfl,⟨⟨a0,fly⟩,sl,os,bare⟩,C2,su,uc,hE⟩:=hq;cases su;refine wpAny_looks_onW J.ok.frames rfl fly fun h4 vh up4=>?_
   refine wpAny_landsW vh fun h5 wc up5=>?_
   have sl4:=rZ fly.2.2.1 sl up4;have sl5:=rZ vh.2.2.1 sl4 up5;have J5:Inv (cxF P w K mg base ["tell"] qual scope f js A outer s H' E) [] _ H' {s' with heap:=h5}:=zF J Ct wc sl5 os bare;have hx:gY base C:=by obtain⟨d,h1,rfl⟩:=uc;exact(hd d h1).2.2.1
   have Ce:∃oe,h5.get? ae=some oe/\oe.cls=.ref C:=by obtain⟨oe,ws,a1,a2,_⟩:=wc.first;exact⟨oe,a1,a2⟩
   rw[<- bf (f:=HD.h),<- hl];refine qW (X:=cxF P w K mg base ["tell"] qual scope f js A outer s H' E) J5 hx Ce l (fun d h1=>⟨(hd d h1).1,(hd d h1).2.1,(hd d h1).2.2.1,(hd d h1).2.2.2⟩) uc fun d h1 h2 E'=>?_
   refine lands_againW wc fun h6 fly6 up6=>?_
   have sl6:=rZ wc.2.2.1 sl5 up6;have J6:Inv (cxF P w K mg base ["tell"] qual scope f js A outer s H' E) [] _ H' {s' with heap:=h6}:=zF J Ct fly6 sl6 os bare;have hrun:=aD (X:=cxM (cxF P w K mg base ["tell"] qual scope f js A outer s H' E) (.ref ae) fun _ _=>False) (aP (pos:=d.p4) (eU (pos:=d.p3) (a8 (LB (pos:=d.p2) G9 (aL (i:=d.k) (j:=0) (pos:=d.p1))) aC)))
    [] _ _ H' {nx:=fun _ _=>False,rt:=Q} (D0 J6) ⟨d.k,rfl,(by show 1<=sizeLine;decide),fun p hp=>hE d h1 h2 p hp⟩
   refine wpAny_mono hrun (fun f s3 q=>?_) fun _ _ q=>q.elim
   cases f with
   |next=>obtain⟨_,_,_,q⟩:=q;exact q.elim
   |brk=>obtain⟨_,_,_,q⟩:=q;exact q.elim
   |cont=>obtain⟨_,_,_,q⟩:=q;exact q.elim
   |ret u=>obtain⟨v,σ',H3,J3,rv3,q3⟩:=q;exact⟨v,σ',H3,BJ J6.ok J3,rv3,q3⟩
 refine wpAny_mono main (fun fl s' hs=>?_) fun e s' hs=>hs
 cases fl with
 |ret u=>obtain⟨v,σ',H',J,rv,q⟩:=hs;exact⟨v,H',J.os,J.bare,J.base,J.hok,rv,q⟩
 |next=>obtain⟨_,_,_,q⟩:=hs;exact False.elim q
 |brk=>obtain⟨_,_,_,q⟩:=hs;exact False.elim q
 |cont=>obtain⟨_,_,_,q⟩:=hs;exact False.elim q
end
noncomputable def NB(mg:Str->Option Value)(h:Heap):Prop:=∃bm ob,mg "__builtins__" =some (.ref bm)/\bm≠builtinsNs/\bm≠mainGlobals/\h.get? bm=some ob/\ob.cls=.type "module" /\ob.dict=some builtinsNs/\ob.data=.plain
noncomputable def XA(l:List HD)(H:Hp)(Q:VK):XK:=fun c _ _=>∃C,c=.ref C/\(∃d∈l,d.C=C)/\∀d∈l,d.C=C->∀p,H p=none->Q (.ref p) (upd H p (.lst [.int (-d.k)]))
def hT(H:Hp)(T:Addr)(ps:Array Value):Hp:=upd H T (.frz (W.tabObj ps) (.tbl ps))
noncomputable def SX(T:Addr)(l:List HD)(pos:Pos)(teL:XK->Hp->TE):TE:=fun σ H Q=>∃(vs:List V)(ps:Array Value),σ=vs.map some/\H T=some (.tbl ps)/\TriplesOk ps.toList/\codeAmong pos ps.toList=none/\
 (∀b,b≠T->H b=none\/∃o u,H b=some (.frz o u))/\∀more,teL (XA l (hT H T (ps++more)) (fun v H3=>H3 T=some (.frz (W.tabObj (ps++more)) (.tbl (ps++more)))->Q v (upd H3 T (.tbl (ps++more))))) (hT H T (ps++more)) (vs.map some) (hT H T (ps++more))
  (fun v H3=>H3 T=some (.frz (W.tabObj (ps++more)) (.tbl (ps++more)))->Q v (upd H3 T (.tbl (ps++more))))
section
variable {X:Cx}
theorem N6{cells:List (Str×Addr)}{names:List (Str×NameKind)}(hf:∀y∈names,y.2=.free->∃c,cells.lookup y.1=some c){x:Str}{c:Addr}(h:(bE cells names []).lookup x=some c):(x,NameKind.free)∈names/\cells.lookup x=some c:=by
 rcases fT (PySem.mem_of_lookup h)with h|⟨h1,h2⟩
 ·exact(nomatch h)
 ·obtain⟨c2,h3⟩:=hf _ h1 rfl;have h3:cells.lookup x=some c2:=h3;rw[h3]at h2;exact⟨h1,by rw[h3,h2];rfl⟩
theorem DD{cells:List (Str×Addr)}{names:List (Str×NameKind)}{x:Str}(h:names.lookup x=some .free):∃c,(bE cells names []).lookup x=some c:=mem_lookup (iB (PySem.mem_of_lookup h))
theorem MB{k:Nat}{x:Str}{f:Addr}{name qual:Str}{params:Arguments}{body:List Stmt}{scope:Scope}{dV kV lg pm js ct oc:Value}{an od:Option Addr}{mi:Array (Option Value)}{l:List HD}{d0:HD}{r0:List HD}{p1 p2 p3 p4 p Ao pos:Pos}
  {jz:Arguments}{lu:Expr}{jo:Scope}{c T:Addr}{teL:XK->Hp->TE}
  (hm:X.mg x=some (.ref f)) (lk:X.K.lookup f=some ⟨oc,od,.func (W.fnOf name qual params body scope dV kV lg pm an js ct),mi⟩) (nj:W.codeIn X.K js qual=true) (hkp:W.keepIn X.K (.ref f)=true)
  (hb:Binds X.K (W.fnOf name qual params body scope dV kV lg pm an js ct) ["tell"] []) (S:aJ ["tell"] ["tell"] scope) (zb:scope.names.lookup ("tell" : Str)=some NameKind.local)
  (kr:body=[.Try [.Return (some (.Call (.Name "tell" p1) [] [] p2)) p3] (l.map HD.h) [] [] p4]) (hl:l=d0::r0)
  (hd:∀d∈l,X.mg d.x=some (.ref d.C)/\scope.names.lookup d.x=some .globalImplicit/\gY X.base d.C/\(d.x==("__debug__" : Str))=false)
  (hg:Gl X x) (so:(x==("__debug__" : Str))=false) (hr:cO (k+2) X.A) (Ca:∀y,X.fn y=true)
  (Cg:X.env.code=.ref c) (hC:W.CodeHd X.base c T) (hbm:NB X.mg X.base)
  (hdef:defaultsOf jz X.env=([],[])) (px:∀(cl:List (Str×Addr))(pm cd ct:Value),bindArgs (W.kla_fn "<lambda>" (X.env.qual++ "<lambda>") jz lu jo cl pm cd ct) ⟨[],[]⟩=pure [])
  (hkL:jo.kind=.function) (hcoL:jo.isCoroutine=false) (Bz:jo.isGenerator=false) (hncL:∀y∈jo.names,y.2≠ .cell) (hnlL:∀y,jo.names.lookup y≠some .local)
  (vc:∀y∈jo.names,y.2=.free->X.env.kindOf y.1=some .cell)
  (Bk:∀(fl c':Addr)(cl:List (Str×Addr))(A:Around)(outer:List Env)(s:Shared)(H:Hp)(E:XK),cO k (A.deeper (W.envX (X.env.qual++ "<lambda>") jo s.heap.objs.size fl (.ref c') cl))->HOk X.prog X.w H s.heap ->
   PE (cxL X.prog X.w X.K X.mg X.base X.N (X.env.qual++ "<lambda>") jo fl (.ref c') cl A outer s H E) lu (teL E H))
  (qb:starEach [.Lambda jz lu jo pos] X.env=(false,eval (.Lambda jz lu jo pos) X.env)::starEach [] X.env:=by rfl):
  PE X (.Call (.Name x p) [.Lambda jz lu jo pos] [] Ao) (SX T l pos teL):=by
 intro jh s σ H Q I h;obtain⟨vs,ps,rfl,vt,htri,hnf,Cb,hL⟩:=h;have kq:∀y∈jo.names,y.2=.free->∃c,X.env.cells.lookup y.1=some c:=fun y hy e=>I.ok.has _ (.inl (vc y hy e))
 have xp:X.base.get? T=none:=by
  cases q:X.base.get? T with
  |none=>rfl
  |some o=>have:=(I.bs T o q).2;rw[vt]at this;cases this
 have hPt:s.heap.get? T=some (W.tabObj ps):=I.hok T _ vt;have hgs:=I.ok.mod.glob;have hgP:mainGlobals≠T:=fun q=>by obtain⟨o,es,ep,e,_⟩:=hgs;rw[q,xp]at e;cases e
 have hbmT:s.heap.BuiltinsAt X.mg T:=by obtain⟨bm,ob,b1,b2,b3,b4,b5,b6,b7⟩:=hbm;exact⟨bm,ob,b1,b2,b3,(fun q=>by rw[q,xp]at b4;cases b4),I.bk _ _ b4,b5,b6,b7⟩
 refine wpAny_Call_Name_kw (jF I hg hm ?_ so);refine W.callWith_K (h₀:=X.base) I.ok.mod.kin hkp ?_ qb rfl;rw[qb];show wpAny _ _ (spliced ((false,eval (.Lambda jz lu jo pos) X.env)::backTo Ao (starEach [] X.env))) _ _ s
 refine Calls.spliced_cons (W.kla_eval hdef (W.kla_makeFunction (mK kq) I.ok.glob (hgs.keeps I.bk) Cg (hC.keeps I.bk) hPt htri hnf hgP hbmT fun c' Ai h' tk hx vb jw yt mx=>Calls.spliced_nil ?_));generalize mz:bE X.env.cells jo.names []=cl;generalize hps:ps++#[rawInt pos.line,rawInt pos.col,Value.ref c']=ps' at mx;generalize si:({s with heap:=h'.push (W.kla_obj "<lambda>" (X.env.qual++ "<lambda>") jz lu jo cl ((X.mg "__name__").getD .none) c' Ai),toks:=tk}:Shared)=s2;have e2:s2.heap=h'.push (W.kla_obj "<lambda>" (X.env.qual++ "<lambda>") jz lu jo cl ((X.mg "__name__").getD .none) c' Ai):=by rw[<- si]
 have kp:∀b o,b≠T->s.heap.get? b=some o->s2.heap.get? b=some o:=fun b o n e=>by rw[e2];exact aj _ (hx b o n e)
 have jm:s2.heap.get? T=some (W.tabObj ps'):=by rw[e2];exact aj _ mx
 have szT:T<s.heap.objs.size:=bj hPt;have nT:∀b u,H b=some u->(∀q,u≠ .tbl q)->b≠T:=fun b u e n z=>by rw[z,vt]at e;cases e;exact n _ rfl
 have un1:Un X.fs [] H (upd H T (.tbl ps')) s.heap s2.heap:=
  ⟨fun b o e n _ _=>kp b o (fun z=>by rw[z,vt]at n;cases n) e,fun b o e n _ _=>⟨o.slots,kp b o (fun z=>by rw[z,vt]at n;cases n) e⟩,
   fun b o e n _=>by rw[aA (fun z=>by rw[z,vt]at n;cases n)];exact n,
   fun b o e _=>by
    by_cases z:b=T
    ·exact⟨_,z▸jm⟩
    ·exact⟨_,kp b o z e⟩,
   fun b xs e=>by rw[aA (nT b _ e fun q z=>nomatch z)];exact e,fun b o u e=>by rw[aA (nT b _ e fun q z=>nomatch z)];exact e,
   fun b q e=>by
    by_cases z:b=T
    ·rw[z,vt]at e;cases e;exact⟨_,by rw[z,a7,<- hps]⟩
    ·exact⟨#[],by rw[aA z,e];simp⟩⟩
 have wx:∀(H':Hp),(∀b,b≠T->H' b=H b)->∀a o,a≠T->H' a=some o->d3 X.prog X.w H' s2.heap a o:=fun H' he a o na e=>by
  rw[he a na]at e;refine(I.hok a o e).mV (fun b u hb q=>?_) (fun b z=>?_) (fun b xs z=>?_)
  ·refine kp b u ?_ q;rcases hb with rfl|hb
   ·exact na
   ·exact nT b _ hb fun q z=>nomatch z
  ·rw[he b (nT b _ z fun q z=>nomatch z)];exact z
  ·rw[he b (nT b _ z fun q z=>nomatch z)];exact z
 have hok1:HOk X.prog X.w (upd H T (.tbl ps')) s2.heap:=fun a o e=>by
  by_cases z:a=T
  ·rw[z,a7]at e;cases e;subst z;exact jm
  ·exact wx _ (fun b n=>aA n) a o z e
 have I2:Inv X jh (vs.map some) (upd H T (.tbl ps')) s2:=by have:=I.un (t':=tk) (h':=s2.heap) un1 hok1;rw[<- si]at this ⊢;exact this
 have hok2:HOk X.prog X.w (hT H T ps') s2.heap:=fun a o e=>by
  by_cases z:a=T
  ·unfold hT at e;rw[z,a7]at e;cases e;subst z;exact⟨jm,jm⟩
  ·exact wx _ (fun b n=>aA n) a o z e
 have hT_ne:∀b,b≠T->hT H T ps' b=upd H T (.tbl ps') b:=fun b n=>by unfold hT;rw[aA n,aA n]
 have none_ne:∀b,upd H T (.tbl ps') b=none->b≠T:=fun b e z=>by rw[z,a7]at e;cases e
 have E0:oM X.prog X.w X.K X.mg X.base X.A X.stack s2 (hT H T ps'):=by have e:=I2.IQ;exact⟨e.frames,e.mod,fun b o q=>⟨(e.bs b o q).1,by rw[hT_ne b (none_ne b (e.bs b o q).2)];exact(e.bs b o q).2⟩,e.bsz,e.kK,fun b hb=>by rw[hT_ne b (none_ne b (e.frf b hb))];exact e.frf b hb,hok2,e.bare⟩
 refine⟨I2.kIn,?_⟩;have Cs:Flat (hT H T ps'):=fun b=>by
  by_cases z:b=T
  ·exact .inr ⟨_,_,by unfold hT;rw[z,a7]⟩
  ·rw[hT_ne b z,aA z];exact Cb b z
 have oh:∀b,s.heap.objs.size<=b->hT H T ps' b=none:=fun b hb=>by
  have n:b≠T:=fun z=>absurd szT (by rw[<- z];exact not_lt.mpr hb)
  rw[hT_ne b n,aA n];exact I.hok.fresh hb
 have rn:∀b,s.heap.objs.size<=b->b∉frs X.stack:=fun b hb z=>by obtain⟨_,o,ho,_⟩:=I.stack.mem z;exact absurd (bj ho) (not_lt.mpr hb)
 have vd:s.heap.objs.size<=h'.objs.size:=le_of_lt (gx vb jw);have flo:s2.heap.get? h'.objs.size=some (W.kla_obj "<lambda>" (X.env.qual++ "<lambda>") jz lu jo cl ((X.mg "__name__").getD .none) c' Ai):=by rw[e2];exact ax _ rfl
 have zp:∀y c,X.env.cells.lookup y=some c->c∉frs X.stack:=fun y c hy z=>by
  rcases ao.mp (I2.rX c z)with q|q
  ·exact I2.cne y c hy q
  ·obtain⟨_,o,ho,_⟩:=I2.ok.kK.mem q;exact absurd (bj ho) (not_lt.mpr (I2.ok.cab y c (Ca y) hy))
 have pz:∀y c,X.env.cells.lookup y=some c->hT H T ps' c=none:=fun y c hy=>by have q:=I2.gU y c hy;rw[hT_ne c (none_ne c q)];exact q
 have run:=L5 (fl:=h'.objs.size) (E:=fun _ _ _=>False) (k:=k+1) lk nj S zb kr hl hr E0 (hb s2 [.ref h'.objs.size] I2.kIn rfl) Cs hd ⟨_,_,_,_,flo⟩ (oh _ vd) (rn _ vd)
  (Q:=fun v H3=>H3 T=some (.frz (W.tabObj ps') (.tbl ps'))->Q v (upd H3 T (.tbl ps'))) fun A1 qg s1 Bh e1 kp1=>?_
 ·refine wpAny_call (codeAny_mono run fun r s3 hq=>?_);cases r with
  |error e=>obtain⟨_,_,_,_,z⟩:=hq;exact z.elim
  |ok fl=>
   cases fl with
   |next=>exact False.elim hq
   |brk=>exact False.elim hq
   |cont=>exact False.elim hq
   |ret u=>
    obtain⟨v,H3,os,bare,un,Bm,rv,q⟩:=hq;have h3T:H3 T=some (.frz (W.tabObj ps') (.tbl ps')):=un.mH T _ _ (by unfold hT;rw[a7]);have n3:∀b u,H3 b=some u->(∀o q,u≠ .frz o q)->b≠T:=fun b u e n z=>by rw[z,h3T]at e;cases e;exact n _ _ rfl
    have fr2:∀b,upd H T (.tbl ps') b=none->hT H T ps' b=none:=fun b e=>by rw[hT_ne b (none_ne b e)];exact e
    have un4:Un (frs X.stack) [] (upd H T (.tbl ps')) (upd H3 T (.tbl ps')) s2.heap s3.heap:=
     ⟨fun b o e n hb hx=>un.keep b o e (fr2 b n) hb hx,fun b o e n hb hx=>un.slot b o e (fr2 b n) hb hx,fun b o e n hx=>by rw[aA (none_ne b n)];exact un.free b o e (fr2 b n) hx,un.there,
      fun b xs e=>by
       have n:b≠T:=fun z=>by rw[z,a7]at e;cases e
       rw[aA n];exact un.u6 b xs (by rw[hT_ne b n];exact e),
      fun b o u e=>by
       have n:b≠T:=fun z=>by rw[z,a7]at e;cases e
       rw[aA n];exact un.mH b o u (by rw[hT_ne b n];exact e),
      fun b q e=>by
       by_cases z:b=T
       ·rw[z,a7]at e;cases e;exact⟨#[],by rw[z,a7];simp⟩
       ·rw[aA z];exact un.rD b q (by rw[hT_ne b z];exact e)⟩
    have hok4:HOk X.prog X.w (upd H3 T (.tbl ps')) s3.heap:=fun a o e=>by
     by_cases z:a=T
     ·rw[z,a7]at e;cases e;subst z;exact(Bm a _ h3T).1
     ·rw[aA z]at e;refine(Bm a o e).mV (fun b u _ q=>q) (fun b z=>?_) (fun b xs z=>?_)
      ·rw[aA (n3 b _ z fun _ _ z=>nomatch z)];exact z
      ·rw[aA (n3 b _ z fun _ _ z=>nomatch z)];exact z
    exact⟨v,upd H3 T (.tbl ps'),I2.DE os un4 hok4 bare (fun b z=>(nomatch z)),rv,q h3T⟩
 ·have c1:∀y c,cl.lookup y=some c->X.env.cells.lookup y=some c:=fun y c e=>by rw[<- mz]at e;exact(N6 kq e).2
  have cat:∀y c v,X.env.cells.lookup y=some c->s2.heap.IsCell c v->s1.heap.IsCell c v:=fun y c v hy ⟨o,e,q⟩=>⟨o,kp1 _ _ e (pz y c hy) (zp y c hy),q⟩
  have jt:vs.length=X.N.length:=by have:=I.len;rw[ai]at this;exact this
  refine K4 (k:=k) (te:=teL (XA l (hT H T ps') fun v H3=>H3 T=some (.frz (W.tabObj ps') (.tbl ps'))->Q v (upd H3 T (.tbl ps'))) (hT H T ps')) (vs:=vs) (N:=X.N) Bh e1 (kp1 _ _ flo (oh _ vd) (rn _ vd)) ?_ (px _ _ _ _) hkL hcoL Bz hncL hnlL jt ?_ ?_ ?_ ?_ (fun a b=>Bk _ _ _ _ _ _ _ _ a b) (by rw[<- hps];exact hL _)
  ·obtain⟨c3,oc3,vs3,t3,h1,h2,h3,h4⟩:=yt;cases h1;exact⟨c',oc3,vs3,t3,rfl,kp1 _ _ (by rw[e2];exact aj _ h2) (oh _ vb) (rn _ vb),h3,h4⟩
  ·intro y z c h1 h2;exact I.ok.inj y z c (c1 y c h1) (c1 z c h2)
  ·intro y hy;rw[<- mz];exact DD hy
  ·intro y c h1;have h2:=c1 y c h1;obtain⟨v,h3⟩:=I2.cell y c h2;exact⟨pz y c h2,v,cat y c v h2 h3⟩
  ·intro i y v h1 h2 h3;have hk:=vc _ (PySem.mem_of_lookup h3) rfl;obtain⟨m,_,hlk⟩:=I2.loc;obtain⟨u,ru,lku⟩:=hlk i y v h1 (by rw[ba,h2];rfl) (.inr (.inl hk));obtain⟨c,hc⟩:=DD (cells:=X.env.cells) h3;rw[mz]at hc;refine⟨c,u,hc,ru,?_⟩;rcases lku with⟨tw,_⟩|⟨_,c2,su,ny⟩
   ·rw[show X.env.kindOf y=some .cell from hk]at tw;cases tw
   ·have:=c1 y c hc;rw[this]at su;cases su;exact cat y c _ this ny
end
theorem oO{P:Params}{h:Heap}:∀{vs:List Value}{ns:List Int},W.WellAll P h vs (ns.map W.WData.int)->IntsAre vs ns
 |vs,[],h=>by cases h;exact .nil
 |vs,n::ns,h=>by
  cases h with
  |cons h r=>cases h with
   |int i t=>exact .cons n t (oO r)
theorem vR:∀{vs:List Value}{ns ms:List Int},IntsAre vs ns->IntsAre vs ms->ns=ms
 |_,_,_,.nil,h=>by cases h;rfl
 |_,_,_,.cons n t h,g=>by
  cases g with
  |cons m u g=>rw[vR h g]
theorem sI{R:W.WRecords}{cl:Str->Option Addr}{h:Heap}:∀{ns:List Int}{its:List Value},Vals (ns.map V.int) its->W.ReadsAllW R cl h its (ns.map W.WData.int) []
 |[],_,.nil=>.nil
 |n::ns,_,.cons ⟨t,e⟩ r=>by subst e;exact .cons (as:=[]) (.int n t) (sI r)
noncomputable def xU(tb:Addr)(H:Hp):Prop:=H tb=some (.tbl #[])/\∀b,b≠tb->H b=none\/∃o xs,H b=some (.frz o (.lst xs))
abbrev EK(vs:List Value):Obj:={cls:=.type "list",data:=.seq vs.toArray}
noncomputable def xP(K:W.Frag)(tb:Addr)(LA:List (Addr×List Value×List Int)):Hp:=fun b=>if b=tb then some (.tbl #[])else
 match K.lookup b with
 |some _=>none
 |none=>(LA.lookup b).map fun p=>.frz (EK p.1) (.lst (p.2.map V.int))
theorem EV{P:Program}{w:World}{K:W.Frag}{mg mb:Str->Option Value}{k:Nat}{fa tb:Addr}{fd:FuncData}{ps:List Str}{sp:Sp}{s1:Shared}{mq:List Value}{vs:List V}{LA:List (Addr×List Value×List Int)}{R:List Int->Prop}
  (KX:K.In s1.heap) (hns:s1.heap.Ns mainGlobals mg) (hb:s1.heap.Ns builtinsNs mb) (hbb:∀x:Str,x≠ "__name__" ->mb x=bootBuiltins x) (hlim:s1.heap.NoLimit) (hg:s1.gens=#[])
  (Ck:∀p∈LA,s1.heap.get? p.1=some (EK p.2.1)/\IntsAre p.2.1 p.2.2/\p.2.2.length<=sizeLine)
  (mx:s1.heap.get? tb=some (W.tabObj #[])) (hct:isCodeTable s1.heap tb) (Cn:K.lookup tb=none) (hr:cO k callerA) (rv:Vals vs mq)
  (F:∀base:Heap,Mod K mg base->(∀b o,s1.heap.get? b=some o->o.cls≠ .type "list" ->b≠tb->base.get? b=some o)->bJ P w K mg base CXf k fa fd ps sp)
  (px:BindsTo s1 fd ⟨mq,[]⟩ (ps.zip mq))
  (sh:∀H:Hp,xU tb H->(∀p∈LA,SqL K H p.1 (p.2.2.map V.int))->sp vs H (fun v H'=>∃p ns,v=.ref p/\H' p=some (.lst (ns.map V.int))/\R ns) fun _ _ _=>False):
  codeAny (model P w) callerA (.call (.ref fa) ⟨mq,[]⟩) (fun r s'=>(∃p its n ns,r=.ok (.ret (.ref p))/\s'.heap.get? p=some {cls:=.type "list",data:=.seq (List.toArray its) n}/\Vals (ns.map V.int) its/\R ns)/\OldK s1.heap s'.heap/\s'.os=s1.os/\AllBare s'.gens) s1:=by
 have find:∀{b:Addr}{x:List Value×List Int},LA.lookup b=some x->(b,x)∈LA:=fun{b x} e=>by
  have:∀l:List (Addr×List Value×List Int),l.lookup b=some x->(b,x)∈l:=by
   intro l;induction l with
   |nil=>intro e;cases e
   |cons y r ih=>
    intro e;rw[fw]at e;cases q:b==y.1 with
    |true=>rw[q]at e;cases e;rw[eq_of_beq q];exact bb
    |false=>rw[q]at e;exact ar _ (ih e)
  exact this LA e
 generalize hH:xP K tb LA=H;have Htb:H tb=some (.tbl #[]):=by rw[<- hH];unfold xP;rw[ah rfl]
 have cases_H:∀b,b≠tb->H b=none\/∃x,K.lookup b=none/\(b,x)∈LA/\H b=some (.frz (EK x.1) (.lst (x.2.map V.int))):=fun b n=>by
  rw[<- hH];unfold xP;rw[ag n];cases e:K.lookup b with
  |some o=>exact .inl rfl
  |none=>
   cases q:LA.lookup b with
   |none=>exact .inl rfl
   |some x=>exact .inr ⟨x,rfl,find q,rfl⟩
 have hAt:xU tb H:=⟨Htb,fun b n=>by
  rcases cases_H b n with q|⟨x,_,_,q⟩
  ·exact .inl q
  ·exact .inr ⟨_,_,q⟩⟩
 have hS:∀p∈LA,SqL K H p.1 (p.2.2.map V.int):=fun p hp=>by
  obtain⟨h1,h2,h3⟩:=Ck p hp;have n:p.1≠tb:=fun z=>by rw[z,mx]at h1;cases h1
  cases e:K.lookup p.1 with
  |some o=>have q:=KX _ _ e;rw[h1]at q;cases q;exact .inr ⟨_,p.2.1.toArray,_,e,rfl,rfl,rfl,by rw[br,h2.length];exact h3,by simpa using oQ h2⟩
  |none=>
   have q:∃x,LA.lookup p.1=some x:=by
    have:∀l:List (Addr×List Value×List Int),p∈l->∃x,l.lookup p.1=some x:=by
     intro l;induction l with
     |nil=>intro e;cases e
     |cons y r ih=>
      intro e;rw[fw];cases q:p.1==y.1 with
      |true=>exact⟨_,rfl⟩
      |false=>
       rcases ao.mp e with e|e
       ·rw[e]at q;simp at q
       ·exact ih e
    exact this LA hp
   obtain⟨x,q⟩:=q;obtain⟨g1,g2,g3⟩:=Ck _ (find q);have e1:p.2.1=x.1:=by
    rw[h1]at g1;have:=Option.some.inj g1;injection this with _ _ z _
    injection z with z _
    simpa using congrArg Array.toList z
   have e2:p.2.2=x.2:=vR h2 (e1▸g2);refine .inl (.inr ⟨EK x.1,?_⟩);rw[<- hH];unfold xP;rw[ag n,e,q,e2];rfl
 have hok:HOk P w H s1.heap:=fun b o e=>by
  by_cases z:b=tb
  ·rw[z,Htb]at e;cases e;rw[z];exact mx
  ·rcases cases_H b z with q|⟨x,_,hm,q⟩
   ·rw[q]at e;cases e
   ·rw[q]at e;cases e;obtain⟨g1,g2,g3⟩:=Ck _ hm;exact⟨g1,by rw[ai];exact g3,x.1,_,oQ g2,g1⟩
 have base_of:∀{b:Addr}{o:Obj},s1.heap.get? b=some o->H b=none->(xF s1.heap H).get? b=some o:=fun e n=>IE e n
 have notl:∀b o,s1.heap.get? b=some o->o.cls≠ .type "list" ->b≠tb->H b=none:=fun b o e hc n=>by
  rcases cases_H b n with q|⟨x,_,hm,q⟩
  ·exact q
  ·have:=(Ck _ hm).1;rw[e]at this;cases this;exact absurd rfl hc
 have nsK:∀{b:Addr}{m:Str->Option Value},s1.heap.Ns b m->(xF s1.heap H).Ns b m:=fun{b m} ⟨o,es,ep,e,d,r⟩=>⟨o,es,ep,base_of e (by
  by_cases z:b=tb
  ·rw[z,mx]at e;cases e;cases d
  ·rcases cases_H b z with q|⟨x,_,hm,q⟩
   ·exact q
   ·have:=(Ck _ hm).1;rw[e]at this;cases this;cases d),d,r⟩
 have hKb:K.In (xF s1.heap H):=fun b o e=>base_of (KX b o e) (by
  by_cases z:b=tb
  ·rw[z,Cn]at e;cases e
  ·rcases cases_H b z with q|⟨x,hk,hm,q⟩
   ·exact q
   ·rw[hk]at e;cases e)
 have hM:Mod K mg (xF s1.heap H):=⟨hKb,nsK hns,⟨mb,nsK hb,hbb⟩,let⟨mc,h1,h2⟩:=hlim;⟨mc,nsK h1,h2⟩⟩;have e0:oM P w K mg (xF s1.heap H) callerA [] s1 H:=⟨rfl,hM,fun b o e=>JY e,ik (F0 _ _),trivial,fun b hb=>absurd (show b∈([]:List Addr)from hb) (by simp),hok,.of_eq hg⟩;refine codeAny_mono ((F _ hM (fun b o e hc n=>base_of e (notl b o e hc n))).run callerA [] s1 H ⟨mq,[]⟩ mq vs _ _ hr e0 px rv (sh H hAt hS)) fun r s' h=>?_
 cases r with
 |error e=>obtain⟨_,_,_,_,z⟩:=h;exact z.elim
 |ok fl=>
  cases fl with
  |next=>exact False.elim h
  |brk=>exact False.elim h
  |cont=>exact False.elim h
  |ret u=>
   obtain⟨v,H',os,bare,un,yz,r',p,ns,hv,hp,hR⟩:=h;subst hv;obtain rfl:u=Value.ref p:=r';obtain⟨_,its,n,pr,zf⟩:=yz p _ hp;refine⟨⟨p,its,n,ns,rfl,zf,pr,hR⟩,?_,os,bare⟩;have kept:∀b o,b≠tb->s1.heap.get? b=some o->s'.heap.get? b=some o:=fun b o n e=>by
    rcases cases_H b n with q|⟨x,_,hm,q⟩
    ·exact un.keep b o e q (by intro z;exact absurd (show b∈([]:List Addr)from z) (by simp)) (by simp)
    ·obtain⟨e1,_⟩:=hok b _ q;obtain⟨e2,_⟩:=yz b _ (un.mH b _ _ q);rw[e]at e1;cases e1;exact e2
   obtain⟨more,Bs⟩:=un.rD tb _ Htb;have t2:s'.heap.get? tb=some (W.tabObj (#[]++more)):=yz tb _ Bs;refine⟨fun b o e=>?_,fun b o e=>?_⟩
   ·by_cases z:b=tb
    ·subst z;rw[mx]at e;cases e;exact .inr (.inl ⟨hct,rfl,#[],more,rfl,t2⟩)
    ·exact .inl (kept b o z e)
   ·by_cases z:b=tb
    ·exact⟨_,z▸t2⟩
    ·exact⟨_,kept b o z e⟩
structure aF(K:W.Frag)(x:Str)(st:Stmt):Prop where
 ex:∃f fd,W.nsIn K mainGlobals x=some (some (.ref f))/\Fun K x x st f fd
theorem MW{K:W.Frag}{x:Str}{st:Stmt}{f:Addr}{oc:Value}{od an:Option Addr}{mi:Array (Option Value)}{kV lg pm js ct:Value}(a:W.nsIn K mainGlobals x=some (some (.ref f)))
  (l:K.lookup f=some ⟨oc,od,.func (W.fnOf x x (hZ st) (f6 st) (aG st) .none kV lg pm an js ct),mi⟩) (c:W.codeIn K js x=true) (k:W.keepIn K (.ref f)=true):aF K x st:=⟨f,_,a,BR l c k⟩
theorem aF.ok{P:Program}{w:World}{K:W.Frag}{mg:Str->Option Value}{base:Heap}{CX:CXT}{k:Nat}{x:Str}{st:Stmt}{ps:List Str}{sp:Sp}(D:aF K x st)(M:Mod K mg base)
  (h:∀f fd,Fun K x x st f fd->bJ P w K mg base CX k f fd ps sp)
  (hb:∀(kV lg pm:Value)(an:Option Addr)(js ct:Value)(us:List Value),us.length=ps.length->bindArgs (W.fnOf x x (hZ st) (f6 st) (aG st) .none kV lg pm an js ct) ⟨us,[]⟩=pure (ps.zip us)):aO P w K mg base CX k x ps sp:=by
 obtain⟨f,fd,a,F⟩:=D.ex;exact⟨⟨f,fd,h f fd F,W.mg_of M.kin M.glob a,F.kp,F.binds hb⟩⟩
noncomputable def B2(K:W.Frag)(v:Value)(p:Int×Int):Bool:=match v with
 | .ref b=>(match K.lookup b with
  |some ⟨.type "tuple",_,.seq its _,_⟩=>(match its.toList with
   |[.int x _,.int y _]=>x==p.1&& y==p.2
   |_=>false)
  |_=>false)
 |_=>false
noncomputable def rJ(K:W.Frag):List Value->List (Int×Int)->Bool
 |[],[]=>true
 |v::vs,p::ps=>B2 K v p&& rJ K vs ps
 |_,_=>false
noncomputable def tS(K:W.Frag)(a:Addr)(ps:List (Int×Int)):Bool:=match K.lookup a with
 |some ⟨.type "tuple",_,.seq its _,_⟩=>rJ K its.toList ps&& decide (its.size<=1000)
 |_=>false
theorem JV{K:W.Frag}{v:Value}{p:Int×Int}(h:B2 K v p=true):∃b,v=.ref b/\∀H,C2 K H (.ref b) p:=by
 unfold B2 at h;split at h
 ·rename_i b;split at h
  ·rename_i its n sl hk;split at h
   ·rename_i x t y u hi;rw[dh,beq_iff_eq,beq_iff_eq]at h;refine⟨b,rfl,fun H=>⟨b,rfl,.inr ⟨_,its,n,hk,rfl,rfl,?_,?_⟩⟩⟩
    ·rw[<- dm,hi];show 2<=sizeLine
     decide
    ·rw[hi];exact .cons ⟨t,by rw[h.1]⟩ (.cons ⟨u,by rw[h.2]⟩ .nil)
   ·cases h
  ·cases h
 ·cases h
theorem yT{K:W.Frag}:∀{vs:List Value}{ps:List (Int×Int)},rJ K vs ps=true->∃xs:List V,Vals xs vs/\Paired (fun v p=>∀H,C2 K H v p) xs ps
 |[],[],_=>⟨[],.nil,.nil⟩
 |v::vs,p::ps,h=>by unfold rJ at h;rw[dh]at h;obtain⟨b,rfl,hb⟩:=JV h.1;obtain⟨xs,h1,h2⟩:=yT h.2;exact⟨.ref b::xs,.cons rfl h1,.cons hb h2⟩
 |[],_::_,h=>by cases h
 |_::_,[],h=>by cases h
theorem tR{K:W.Frag}{a:Addr}{ps:List (Int×Int)}(h:tS K a ps=true):CT2 K a ps:=by
 unfold tS at h;split at h
 ·rename_i its n sl hk;rw[dh]at h;obtain⟨xs,h1,h2⟩:=yT h.1;exact⟨xs,fun H=>.inr ⟨_,its,n,hk,rfl,rfl,df (bp h.2) (by decide),h1⟩,h2⟩
 ·cases h
noncomputable def wU(K:W.Frag)(a:Addr):Bool:=match K.lookup a with
 |some ⟨.type "tuple",_,.seq its _,_⟩=>(match its.toList with
  |[.int 0 _,.int 1 _,.int 2 _,.int 3 _]=>true
  |_=>false)
 |_=>false
theorem GK{K:W.Frag}{a:Addr}(h:wU K a=true)(H:Hp):SqT K H a [.int 0,.int 1,.int 2,.int 3]:=by
 unfold wU at h;split at h
 ·rename_i its n sl hk;split at h
  ·rename_i t0 t1 t2 t3 hi;refine .inr ⟨_,its,n,hk,rfl,rfl,?_,?_⟩
   ·rw[<- dm,hi];show 4<=sizeLine
    decide
   ·rw[hi];exact .cons ⟨t0,rfl⟩ (.cons ⟨t1,rfl⟩ (.cons ⟨t2,rfl⟩ (.cons ⟨t3,rfl⟩ .nil)))
  ·cases h
 ·cases h
theorem nX{K:W.Frag}{h:Heap}{C:Addr}{nm q:Str}{N:Addr}{bs:List Value}{hdct:Bool}{sn:List Str}{sub:List Value}{ab:Bool}{col:Option Bool}{dd:Option Addr}{k0 k1 k2 k3 k5:Option Value}{lh:String}
  (X:K.In h) (l:K.lookup C=some (excClassObj nm q C N bs [.type "Exception",.type "BaseException",.type "object"] hdct sn sub ab col dd k0 k1 k2 k3 k5 lh)):gY h C:=
 ⟨nm,q,N,bs,_,hdct,sn,sub,ab,col,dd,k0,k1,k2,k3,k5,lh,X _ _ l,by decide,fun D=>by rfl⟩
theorem LO{K:W.Frag}{x:Str}{f c tb:Addr}{oc oc2:Value}{od od2:Option Addr}{fd:FuncData}{mi qe:Array (Option Value)}{vs:Array Value}(a:W.nsIn K mainGlobals x=some (some (.ref f)))
  (l:K.lookup f=some ⟨oc,od,.func fd,mi⟩) (hc:fd.code=.ref c) (l2:K.lookup c=some ⟨oc2,od2,.fields vs,qe⟩) (hv:vs[11]? =some (.ref tb)):W.tabIn K x=some (c,tb):=by
 unfold W.tabIn;rw[a];dsimp only;rw[l];dsimp only;rw[hc];dsimp only;rw[l2];dsimp only;rw[hv]
theorem A5{h base:Heap}{c tb:Addr}(C:W.CodeHd h c tb)(k:∀b o,h.get? b=some o->o.cls≠ .type "list" ->b≠tb->base.get? b=some o):W.CodeHd base c tb:=by obtain⟨o,vs,Cu,tf,xj,tg,inF,text,tt,e,mz,r⟩:=C;have jl:c≠tb:=r.2.2.2.2.2.2.2;exact⟨o,vs,Cu,tf,xj,tg,inF,text,tt,k c o e (by rw[mz];intro z;injection z with z;exact absurd z (by decide)) jl,mz,r⟩
theorem FO{h:Heap}{c tb:Addr}(C:W.CodeHd h c tb):isCodeTable h tb:=by obtain⟨o,vs,Cu,tf,xj,tg,inF,text,tt,e,mz,hd,hv,_⟩:=C;exact⟨c,o,vs,e,mz,hd,hv⟩
theorem KZ{p:Program}{loose:List Str}{yh:ExcName->Option Value}{mg mb:Str->Option Value}{h base:Heap}{tb:Addr}(T:Top p loose yh mg mb h)(ht:h.get? tb=some (W.tabObj #[]))
  (k:∀b o,h.get? b=some o->o.cls≠ .type "list" ->b≠tb->base.get? b=some o):NB mg base:=by
 obtain⟨bm,ob,b1,b2,b3,b4,b5,b6⟩:=T.bmain;refine⟨bm,ob,b1,b2,fun q=>?_,k bm ob b3 (by rw[b4];intro z;injection z with z;exact absurd z (by decide)) (fun q=>?_),b4,b5,b6⟩
 ·obtain⟨o,es,ep,e,hd,_⟩:=T.g;rw[q,e]at b3;cases b3;rw[hd]at b6;cases b6
 ·rw[q,ht]at b3;cases b3;cases b4
section
variable {prog:Program}{w:World}{A:Around}{E:Value->Shared->Prop}{s:Shared}{d:Addr}{o:Obj}{es:Array DictEntry}{ep:Nat}
theorem z5(hs:(d==sysModules)=false):MeetsIn prog w (Builtin.«dict.values» ⟨[.ref d],[]⟩) (fun _ R s=>(∃o es ep,g9 s.heap d o es ep)/\R (.ok (.ret (.ref s.heap.objs.size))) {s with heap:=s.heap.push {cls:=.type "dict_values",data:=.fields #[.ref d]}}):=
 .of_wp fun A R s q=>by
  obtain⟨⟨o,es,ep,e⟩,hR⟩:=q
  delta Builtin.«dict.values»
  refine aa (show wpAny _ _ (Builtin.Dict.noArgs _ _) _ _ s from ?_)
  delta Builtin.Dict.noArgs
  refine aa (wpAny_notOrdered_dict e.ty (show wpAny _ _ (pure d) _ _ s from af (show wpAny _ _ (Builtin.Dict.showsAll d>>=fun _=>_) _ _ s from ?_)))
  delta Builtin.Dict.showsAll
  rw[ag (show¬(d==sysModules)=true by rw[hs];exact bg)];exact aa (af (aa (wpAny_newObj_type (af ⟨_,rfl,hR⟩))))
theorem BG{v:Addr}{Q:Value->Shared->Prop}(hv:s.heap.IsValuesView v d)(e:g9 s.heap d o es ep)
  (hQ:Q (.ref s.heap.objs.size) {s with heap:=s.heap.push {cls:=.type "dict_valueiterator",data:=.fields #[.ref d,.int 0 0,.int es.size 0,.int ep 0]}}):wpAny (model prog w) A (pyIter (.ref v)) Q E s:=by
 obtain⟨vo,v1,v2,v3⟩:=id hv;refine wpAny_pyIter_slot hv.typeIs F.slot_dict_values_iter (wpAny_call_entry F.slot_dict_values_iter hv.typeIs F.entry_dict_values_iter (show wpAny _ _ (Builtin.«dict_values.__iter__» _) _ _ _ from ?_) (F.args_dict_values_iter_1 _))
 delta Builtin.«dict_values.__iter__»
 refine aa (af (aa (show wpAny _ _ (Builtin.Dict_items.dictOf _) _ _ _ from ?_)))
 delta Builtin.Dict_items.dictOf
 refine aa (wpAny_field v1 v3 (x:=.ref d) rfl (af (aa (show wpAny _ _ (Builtin.Dict_items.newIterator _ _) _ _ _ from ?_))))
 delta Builtin.Dict_items.newIterator
 refine aa (wpAny_dictEntries e.at_ e.dat (aa (wpAny_dictEpoch e.at_ e.dat ?_)));have own:Builtin.Dict_items.ownsTuple "dict_valueiterator" =false:=by rfl
 simp only[own,dv,if_false];exact wpAny_newObj_type (af ⟨_,rfl,"dict_valueiterator",_,⟨_,ax _ rfl,rfl⟩,F.slot_dict_valueiterator_next.lookup,(by simpa[rawInt]using hQ)⟩)
theorem EE{it:Addr}{i:Nat}{en:DictEntry}{Q:Option Value->Shared->Prop}(ju:s.heap.IsValIter it d i es.size ep)(e:g9 s.heap d o es ep)(hx:es[i]? =some en)
  (hQ:∀h',h'.IsValIter it d (i+1) es.size ep->Heap.SameBut it s.heap h'->Q (some en.val) {s with heap:=h'}):wpAny (model prog w) A (pyNext (.ref it)) Q E s:=by
 obtain⟨io,i1,i2,i3⟩:=id ju
 delta pyNext
 refine aa (wpAny_attempt (wpAny_callSpecial?_slot (name:=Str.ofString "__next__") ju.typeIs F.slot_dict_valueiterator_next (wpAny_call_entry F.slot_dict_valueiterator_next ju.typeIs F.entry_dict_valueiterator_next ?_ (F.args_dict_valueiterator_next_1 _))));refine aa (af (aa (aa ?_)));first|refine aa (wpAny_typeNameOfWhole_valiter ju.typeIs (af (aa (wpAny_fieldsOf i1 i3 ?_))))|refine aa (wpAny_typeNameOf_valiter ju.typeIs (af (aa (wpAny_fieldsOf i1 i3 ?_))))
 have own:Builtin.Dict_items.ownsTuple "dict_valueiterator" =false:=by rfl
 simp only[own,dv,if_false];show wpAny _ _ (if(Value.ref d==Value.none)=true then _ else _) _ _ s
 have nn:¬((Value.ref d==Value.none)=true):=bg;rw[ag nn];refine aa (af (aa (wpAny_dictEntries e.at_ e.dat ?_)));rw[ag (show¬ _ by simp)];refine aa (af (aa (wpAny_dictEpoch e.at_ e.dat ?_)));rw[ag (show¬ _ by simp)];obtain⟨lt,oq⟩:=fm.mp hx;have i0:¬((i:Int)<0):=by omega
 refine af ?_;simp only[i0,if_false,gi,cb lt,oq];refine aa ?_;first|refine aa (wpAny_typeNameOfWhole_valiter ju.typeIs (af (aa (wpAny_isOneOf_valiter ju.typeIs ?_))))|refine aa (wpAny_typeNameOf_valiter ju.typeIs (af (aa (wpAny_isOneOf_valiter ju.typeIs ?_))))
 show wpAny _ _ (setField (.ref it) 1 (rawInt ((i:Int)+1))>>=fun _=>_) _ _ s
 refine aa (wpAny_setField i1 i3 (by simp) ?_);have zz:(s.heap.update it (Obj.mapFields (·.setIfInBounds 1 (rawInt ((i:Int)+1))))).IsValIter it d (i+1) es.size ep:=
  ⟨_,gu _ i1 (Obj.isFreed_of_fields (Obj.data_mapFields i3 _)),(Obj.cls_mapFields ..).trans i2,by rw[Obj.data_mapFields i3];simp[rawInt]⟩
 have sb:Heap.SameBut it s.heap (s.heap.update it (Obj.mapFields (·.setIfInBounds 1 (rawInt ((i:Int)+1))))):=Heap.SameBut.update ..;generalize (s.heap.update it (Obj.mapFields (·.setIfInBounds 1 (rawInt ((i:Int)+1)))))=g at zz sb ⊢;refine aa (wpAny_holding (aa (wpAny_isOneOf_valiter (s:={s with heap:=g}) zz.typeIs (aa (wpAny_isOneOf_valiter (s:={s with heap:=g}) zz.typeIs ?_)))));show wpAny _ _ (pure en.val) _ _ _
 exact af (af ⟨_,rfl,af (hQ _ zz sb)⟩)
theorem DO{it:Addr}{i:Nat}{Q:Option Value->Shared->Prop}(hh:A.handled=none)(ju:s.heap.IsValIter it d i es.size ep)(e:g9 s.heap d o es ep)(vb:es.size<=i)
  (hQ:∀h',Heap.ExtBut it s.heap h'->Q none {s with heap:=h'}):wpAny (model prog w) A (pyNext (.ref it)) Q E s:=by
 obtain⟨io,i1,i2,i3⟩:=id ju
 delta pyNext
 refine aa (wpAny_attempt (wpAny_callSpecial?_slot (name:=Str.ofString "__next__") ju.typeIs F.slot_dict_valueiterator_next (wpAny_call_entry F.slot_dict_valueiterator_next ju.typeIs F.entry_dict_valueiterator_next ?_ (F.args_dict_valueiterator_next_1 _))));refine aa (af (aa (aa ?_)));first|refine aa (wpAny_typeNameOfWhole_valiter ju.typeIs (af (aa (wpAny_fieldsOf i1 i3 ?_))))|refine aa (wpAny_typeNameOf_valiter ju.typeIs (af (aa (wpAny_fieldsOf i1 i3 ?_))))
 have own:Builtin.Dict_items.ownsTuple "dict_valueiterator" =false:=by rfl
 simp only[own,dv,if_false];show wpAny _ _ (if(Value.ref d==Value.none)=true then _ else _) _ _ s
 have nn:¬((Value.ref d==Value.none)=true):=bg;rw[ag nn];refine aa (af (aa (wpAny_dictEntries e.at_ e.dat ?_)));rw[ag (show¬ _ by simp)];refine aa (af (aa (wpAny_dictEpoch e.at_ e.dat ?_)));rw[ag (show¬ _ by simp)];have i0:¬((i:Int)<0):=by omega
 refine af ?_;simp only[i0,if_false,gi,gj vb];refine aa ?_;first|refine aa (wpAny_typeNameOfWhole_valiter ju.typeIs (af (show wpAny _ _ (setField (.ref it) 0 .none>>=fun _=>_) _ _ s from aa (wpAny_setField i1 i3 (by simp) ?_))))|refine aa (wpAny_typeNameOf_valiter ju.typeIs (af (show wpAny _ _ (setField (.ref it) 0 .none>>=fun _=>_) _ _ s from aa (wpAny_setField i1 i3 (by simp) ?_))))
 show wpAny _ _ (newExc (.type "StopIteration") []>>= _) _ _ _
 refine aa ?_;simp only[newExc,newTuple];refine aa (wpAny_newObj_type (aa (m:=firstArgMember _ _) (wpAny_of_eq (a:=Value.none) (by first|rfl|(simp only[firstArgMember];rfl)) (wpAny_newObj_type ?_ (by size_fits)))) (by size_fits));simp only[raiseNew];refine aa (wpAny_handled ?_);rw[show A.in1.handled=none from hh];refine aa (af (wpAny_throw (aa ?_)));refine wpAny_isInstance (T:= "StopIteration") (b:=true) ⟨_,ax _ rfl,rfl⟩ isSubtype_stop (af (hQ _ ?_));exact(((Heap.SameBut.update ..).extBut.push _).push _)
theorem LK(hh:A.handled=none)(I:Addr)(jl:d≠I)(hx:o.ExactDict)(ki:o.data=.dict es ep):Walks prog w A I [I,d] [I] es.size (fun i v=>∃en,es[i]? =some en/\v=en.val) (fun i h=>h.IsValIter I d i es.size ep/\g9 h d o es ep) where
 sub:=fun b hb=>by rw[gk]at hb;rw[hb];exact bb
 frame:=fun _ _ _ st k=>⟨st.1.at fun q e=>k I bb q e,st.2.to fun q e=>k d (ar _ bb) q e⟩
 item:=fun i s Q E hi st hQ=>by
  have he:es[i]? =some es[i]:=cb hi;refine EE st.1 st.2 he fun h' it' sb=>?_
  exact hQ _ h' s.toks ⟨_,he,rfl⟩ ⟨it',st.2.to fun q e=>(sb.2 d jl).trans e⟩ fun b q hb e=>(sb.2 b (fun z=>hb (z▸bb))).trans e
 done:=fun s Q E st hQ=>DO hh st.1 st.2 (au _) fun h' eb=>hQ h' s.toks fun b q hb e=>eb b q (fun z=>hb (z▸bb)) e
 self:=fun _ _ _ _ st hQ=>wpAny_pyIter_valiter st.1 hQ
theorem T1{r:Addr}(hx:o.ExactDict)(ki:o.data=.dict es ep):W.KdlSrc prog w "dict_values" r d es.size (fun i v=>∃en,es[i]? =some en/\v=en.val) (fun h=>h.IsValuesView r d/\g9 h d o es ep) where
 type:=fun _ e=>e.1.typeIs
 there:=fun _ e=>⟨let⟨_,ho,_⟩:=e.1;bj ho,bj e.2.at_⟩
 keep:=fun _ _ e k=>⟨let⟨q,ho,x⟩:=e.1;⟨q,k r (.inl rfl) q ho,x⟩,e.2.to fun q z=>k d (.inr rfl) q z⟩
 notList:=by decide
 notTuple:=by decide
 hint:=fun _ _ _ _ e hq=>W.kdl_hint_values e.1.typeIs hq
 iter:=fun A s hh e=>⟨_,_,fun _ _ hq=>BG e.1 e.2 hq,LK hh _ (cf (bj e.2.at_)) hx ki,⟨⟨_,ax _ rfl,rfl,rfl⟩,e.2.to fun q z=>aj _ z⟩⟩
end
theorem JB{kvs:List (List Key×V)}:∀{us:List Value},us.length=kvs.length->(∀(j:Nat)(u:Value),us[j]? =some u->∃k v,kvs[j]? =some (k,v)/\RelV v u)->Vals (kvs.map (·.2)) us:=by
 induction kvs with
 |nil=>intro us hl _;rw[cy hl];exact .nil
 |cons kv r ih=>
  intro us hl hu;match us,hl with
  |u::us,hl=>
   obtain⟨k,v,e1,e2⟩:=hu 0 u rfl;have e1:kv=(k,v):=by simpa using e1
   subst e1;exact .cons e2 (ih (us:=us) (by simpa using hl) fun j x hx=>by simpa using hu (j+1) x (by simpa using hx))
noncomputable def NF(te:TE):TE:=fun σ H Q=>te σ H fun x H1=>∃a kvs,x=.ref a/\Rd H1 a (.dT kvs)/\∀l,H1 l=none->Q (.ref l) (upd H1 l (.lst (kvs.map (·.2))))
theorem yO{X:Cx}{e:Expr}{te:TE}{p pos kc jn:Pos}(hc:X.calm=true)(hg:Gl X "list")(hm:X.mg "list" =none)(he:PE X e te)(ll:attributeBase e "values" X.env (eval e X.env)=eval e X.env:=by rfl)(my:(kc.endLine==jn.line)=true:=by rfl)
  (qb:starEach [.Call (.Attribute e "values" kc) [] [] jn] X.env=[(false,eval (.Call (.Attribute e "values" kc) [] [] jn) X.env)]:=by rfl):
  PE X (.Call (.Name "list" p) [.Call (.Attribute e "values" kc) [] [] jn] [] pos) (NF te):=by
 intro jh s σ H Q I h;refine wpAny_Call_Name_kw (kH I hg hm (u:=.type "list") rfl ?_ (by decide) (by decide));refine PyProof.Rows.callWith_type1 ?_ qb rfl;rw[qb];show wpAny _ _ (spliced ((false,eval (.Call (.Attribute e "values" kc) [] [] jn) X.env)::backTo pos [])) _ _ s
 refine Calls.spliced_cons ?_;refine wpAny_Call_method (T:= "dict") (id:= "dict.values") ll rfl my F.plainAttrs_dict F.slot_dict_values F.type_dict_values (thn (he jh s σ H _ I h) fun u s1 ⟨x,H1,I1,rx,a,kvs,ex,hd,q⟩=>?_);subst ex;obtain rfl:u=Value.ref a:=rx;obtain⟨hs,hz,o,es,ep,en,sz,xk⟩:=lS I1 hd;refine⟨en.ty,fun b z=>by cases z;exact⟨o,en.at_,en.ex.2.1⟩,?_⟩;have I2:Inv X jh σ H1 {s1 with heap:=s1.heap.push {cls:=.type "dict_values",data:=.fields #[.ref a]}}:=I1.kept (t':=s1.toks) fun b ob q=>aj _ q
 have en2:g9 (s1.heap.push {cls:=.type "dict_values",data:=.fields #[.ref a]}) a o es ep:=en.to fun q z=>aj _ z
 show wpAny _ _ (callWith jn (.builtin "dict.values") [.ref a] [] []) _ X.xe s1
 refine method_meetsIn F.slot_dict_values F.entry_dict_values rfl (PySem.evalArgs_none ⟨rfl,en.ty,F.args_dict_values_1 _,_,z5 hs,⟨o,es,ep,en⟩,?_⟩);refine Calls.spliced_nil ?_;refine W.kdl_call (T1 en.ex en.dat) (I2.ok.hd hc) ⟨⟨_,ax _ rfl,rfl,rfl⟩,en2⟩ (by rw[sz];exact hz) fun h' tk acc c kp hl it=>?_
 have vv:Vals (kvs.map (·.2)) acc.toList:=JB (by rw[dm,it.1,sz]) fun j x hx=>by obtain⟨n,hn,e2⟩:=it.2 j x (by rw[<- gf];exact hx);obtain⟨k,v,p,e3,e4,e5,e6⟩:=xk j n hn;exact⟨k,v,e3,e2▸e6⟩
 exact⟨.ref _,_,I2.laid (o:=.lst (kvs.map (·.2))) kp (au _) ⟨by rw[ai];exact hz,acc.toList,c,vv,by rw[toArray_toList];exact hl⟩,rfl,q _ (I2.hok.fresh (au _))⟩
def isN(n:Int)(y:Value):Bool:=match y with
 | .int k _=>k==n
 |_=>false
theorem zG:∀{ns:List Int}{its:List Value},Vals (ns.map V.int) its->∀y∈its,∃k t,y=.int k t
 |[],_,.nil,y,h=>by cases h
 |n::ns,_,.cons ⟨t,e⟩ r,y,h=>by
  rcases ao.mp h with h|h
  ·exact⟨n,t,h.trans e⟩
  ·exact zG r y h
theorem tF(n:Int):∀{ns:List Int}{its:List Value},Vals (ns.map V.int) its->its.countP (isN n)=ns.count n
 |[],_,.nil=>rfl
 |k::ns,_,.cons ⟨t,e⟩ r=>by subst e;rw[ft,List.count_cons,tF n r];rfl
theorem EF{X:Cx}:MtR X "list.count" (fun x xs H Q=>∃(a:Addr)(ns:List Int)(n:Int),x=.ref a/\xs=[.int n]/\SqL X.K H a (ns.map V.int)/\Q (.int ((ns.count n:Nat):Int)) H):=by
 intro jh s σ H x xs v us Q I rx rxs h;obtain⟨a,ns,n,rfl,rfl,hs,q⟩:=h;cases rx;obtain⟨u,rfl,ru⟩:=vals1 rxs;obtain⟨t,rfl⟩:=ru;obtain⟨its,rv,⟨⟨cls,dd,data,sl⟩,m,ho,hc,hdn,hd⟩,jt⟩:=I.list hs;simp only at hc hd;subst hc hd;refine call_meets PySem.F.slot_list_count ⟨_,ho,rfl⟩ PySem.F.entry_list_count (PySem.F.args_list_count_2 _ _) (SeqAt.list_countAt a its.toArray m dd sl (.int n t) (isN n)) ⟨ho,fun y hy=>?_,?_⟩
 ·obtain⟨k,t',rfl⟩:=zG rv y (by simpa using hy);exact SeqAt.EqAt.int_int k t' n t
 ·refine⟨.int ((ns.count n:Nat):Int),H,I.tok _,⟨s.toks,?_⟩,q⟩;rw[je,tF n rv]
theorem zC{X:Cx}{K:W.Frag}(hK:X.K=K):IxR X (NW K):=hK▸lP
section
variable {prog:Program}{w:World}{A:Around}{E:Value->Shared->Prop}{l it:Addr}{items:Array Value}
theorem qU{h h':Heap}(sb:Heap.SameBut it h h')(ne:l≠it)(hl:h.IsList l items):h'.IsList l items:=let⟨o,ho,q⟩:=hl;⟨o,(sb.2 l ne).trans ho,q⟩
theorem FG(ne:l≠it):∀(n i:Nat)(s:Shared)(Q:List Value->Shared->Prop),s.heap.IsListIter it l i->s.heap.IsList l items->i+n<=items.size ->
  (∀g,g.IsListIter it l (i+n)->Heap.SameBut it s.heap g->Q ((items.toList.drop i).take n) {s with heap:=g})->wpAny (model prog w) A (draw (.ref it) n) Q E s:=by
 intro n;induction n with
 |zero=>intro i s Q a b c k;exact af (by simpa using k s.heap a (Heap.SameBut.refl ..))
 |succ n ih=>
  intro i s Q a b c k;have hi:i<items.size:=by omega
  refine(aa (wpAny_pyNext_list_item a b (x:=items[i]) (by simp[hi]) fun g a1 sb=>?_):wpAny _ _ (pyNext (.ref it)>>= _) Q E s);refine aa (wpAny_holding (ih (i+1) _ _ a1 (qU sb ne b) (by omega) fun g2 a2 sb2=>af ?_));have z:=k g2 (by rw[show i+(n+1)=i+1+n by omega];exact a2) (sb.trans sb2)
  rwa [show items.toList.drop i=items[i]::items.toList.drop (i+1) by simp[jc,hi],List.take_succ_cons]at z
theorem oJ{s:Shared}{env:Env}{mh:List Expr}{k:Nat}{pos:Pos}{Q:Unit->Shared->Prop}(hh:A.handled=none)(hl:s.heap.IsList l items)(hn:(assignEach mh env).length=items.size)(hs:(assignEach mh env).findIdx? (·.1)=none)
  (h:∀g,Heap.ExtBut s.heap.objs.size s.heap g->wpAny (model prog w) A (assignInOrder ((assignEach mh env).map (·.2)) items.toList) Q E {s with heap:=g}):wpAny (model prog w) A (assign (.Tuple mh k pos) env (.ref l)) Q E s:=by
 have ne:l≠s.heap.objs.size:=let⟨_,ho,_⟩:=hl;cf (bj ho)
 rw[assign_Tuple];refine aa (wpAny_standAt ?_);unfold unpack;rw[hn,hs];refine aa (wpAny_holding ?_);unfold unpackItems notIterableAtAll;refine aa (aa (wpAny_specialOf hl.typeIs slot_list_iter.lookup (af ?_)));simp only[dv,if_false];refine aa (wpAny_holding (wpAny_pyIter_list hl ?_));have zc:(s.heap.push {cls:=.type "list_iterator",data:=.fields #[.ref l,.int 0 0]}).IsList l items:=let⟨o,ho,q⟩:=hl;⟨o,aj _ ho,q⟩
 refine aa (wpAny_holding (FG ne items.size 0 _ _ ⟨_,ax _ rfl,rfl,rfl⟩ zc (by omega) fun g a sb=>?_));have el:(items.toList.drop 0).take items.size=items.toList:=by rw[List.drop_zero];exact bc (by simp)
 rw[el,ag (by simp)];refine aa (wpAny_holding (wpAny_pyNext_list_end hh a (qU sb ne zc) (by simp) fun h2 eb=>?_));simp only[Option.isSome_none,dv,if_false];exact af (h h2 fun b o nb e=>eb b o nb ((sb.2 b nb).trans (aj _ e)))
end
section
variable {X:Cx}{pos:Pos}
noncomputable def S4(K:W.Frag)(n:Nat)(t:TGs):TG:=fun v σ H Q=>∃a xs,v=.ref a/\SqL K H a xs/\xs.length=n/\t xs σ H Q
theorem GW{es:List Expr}{k:Nat}{t:TGs}{n:Nat}(hc:X.calm=true)(h:PGs X es t)(hn:(assignEach es X.env).length=n:=by rfl)(qb:(assignEach es X.env).findIdx? (·.1)=none:=by rfl):PG X (.Tuple es k pos) (S4 X.K n t):=by
 intro jh s σ H v u Q I r ⟨a,xs,e1,hq,hl,hw⟩;subst e1;cases r;obtain⟨its,rv,ht,_⟩:=I.list hq;refine oJ (I.ok.hd hc) ht.isList (by simp[hn,<- hl,rv.length]) qb fun g hx=>?_
 exact h jh _ σ H xs _ Q (I.kept (t':=s.toks) fun b o e=>hx b o (cf (bj e)) e) (by simpa using rv) hw
theorem CN{K:W.Frag}(hK:X.K=K){es:List Expr}{k:Nat}{t:TGs}{n:Nat}(hc:X.calm=true)(h:PGs X es t)(hn:(assignEach es X.env).length=n:=by rfl)(qb:(assignEach es X.env).findIdx? (·.1)=none:=by rfl):PG X (.Tuple es k pos) (S4 K n t):=hK▸GW hc h hn qb
end
abbrev Keeps(h h':Heap):Prop:=∀b q,h.get? b=some q->h'.get? b=some q
noncomputable def LJ(prog:Program)(w:World)(A:Around)(h0:Heap)(items:Array Value)(bt:Nat->Nat->Bool):Prop:=
 ∀(i j:Nat)(x y:Value)(s:Shared)(Q:Value->Shared->Prop)(E:Value->Shared->Prop),items[i]? =some x->items[j]? =some y->Keeps h0 s.heap->Q (.bool (bt i j)) s->wpAny (model prog w) A (richCompare .Lt x y) Q E s
section
variable {prog:Program}{w:World}{A:Around}{R:Result->Shared->Prop}{h0:Heap}{l I S:Addr}{items:Array Value}{bt:Nat->Nat->Bool}
theorem lK:(toString "min" ++toString ".loop" : String)= "min.loop" :=by decide
theorem EH(hh:A.handled=none)(hl:h0.IsList l items)(nI:∀b q,h0.get? b=some q->b≠I)(nS:∀b q,h0.get? b=some q->b≠S)(yg:S≠I)(hc:LJ prog w A.in1 h0 items bt):
  ∀(k j:Nat)(s:Shared)(v:Value)(c:Nat),items.size - (j+1)=k->j+1<=items.size->Keeps h0 s.heap->s.heap.IsListIter I l (j+1)->items[argBest bt j]? =some v->s.heap.get? S=some {cls:=.type "list",dict:=none,data:=.seq #[v,v] c,slots:=#[]} ->
  (∀u g tk,items[argBest bt (items.size - 1)]? =some u->Keeps h0 g->R (.ok (.ret u)) {s with heap:=g,toks:=tk})->codeAny (model prog w) A (.builtin "min.loop" ⟨[.ref I,.none,.ref S],[]⟩) R s:=by
 intro k;induction k with
 |zero=>
  intro j s v c e1 e2 k0 it wd at_ fin;refine codeAny_builtin F.entry_min_loop ?_;rw[Around.under_plainId F.plain_min_loop _];show wpAny _ A.in1 (seqItems? (.ref S)>>= _) _ _ s
  refine aa (wpAny_seqItems at_ rfl ?_);show wpAny _ A.in1 (tryCatch (pyNext (.ref I)) _>>= _) _ _ s
  refine aa (wpAny_tryCatch (wpAny_pyNext_list_end (A:=A.in1) hh it (hl.at fun q z=>k0 _ _ z) (gj (by omega)) fun g he=>?_));have Dd:=he S _ yg at_;show wpAny _ A.in1 (updateSeq S (fun _=>#[])>>= _) _ _ _
  refine aa ?_;refine wpAny_updateSeq Dd rfl (aa (wpAny_letGo (af ?_)));exact fin v _ s.toks (by rw[show items.size - 1=j by omega];exact wd) fun b q z=>(fe _ _ (Ne.symm (nS b q z))).trans (he b q (nI b q z) (k0 b q z))
 |succ k ih=>
  intro j s v c e1 e2 k0 it wd at_ fin;have lt:j+1<items.size:=by omega
  refine codeAny_builtin F.entry_min_loop ?_;rw[Around.under_plainId F.plain_min_loop _];show wpAny _ A.in1 (seqItems? (.ref S)>>= _) _ _ s
  refine aa (wpAny_seqItems at_ rfl ?_);show wpAny _ A.in1 (tryCatch (pyNext (.ref I)) _>>= _) _ _ s
  refine aa (wpAny_tryCatch (wpAny_pyNext_list_item (x:=items[j+1]) it (hl.at fun q z=>k0 _ _ z) (cb lt) fun g it1 sb=>?_));have Dd:=(sb.2 S yg).trans at_;have k1:Keeps h0 g:=fun b q z=>(sb.2 b (nI b q z)).trans (k0 b q z)
  show wpAny _ A.in1 (tryCatch (holding [items[j+1],items[j+1]] (richCompare .Lt items[j+1] v>>= _)) _>>= _) _ _ _
  refine aa (wpAny_tryCatch (wpAny_holding (aa (hc (j+1) (argBest bt j) _ _ _ _ _ (cb lt) wd k1 ?_))));refine aa (wpAny_holding (wpAny_truthy_bool (aa (wpAny_letGo (af ?_)))));cases hb:bt (j+1) (argBest bt j)with
  |true=>
   rw[ah rfl];refine aa ?_;refine wpAny_updateSeq Dd rfl (aa (wpAny_letGo ?_));rw[lK];refine af ⟨plainId_quiet F.plain_min_loop _,ih (j+1) _ items[j+1] _ (by omega) lt (fun b q z=>(fe _ _ (Ne.symm (nS b q z))).trans (k1 b q z)) (it1.at fun q z=>(fe _ _ yg).trans z) ?_ (gu _ Dd rfl) fin⟩;show items[if bt (j+1) (argBest bt j)=true then j+1 else argBest bt j]? = _
   rw[ah hb,cb lt]
  |false=>
   rw[ag bg];refine aa (wpAny_letGo ?_);rw[lK];refine af ⟨plainId_quiet F.plain_min_loop _,ih (j+1) _ v c (by omega) lt k1 it1 ?_ Dd fin⟩;show items[if bt (j+1) (argBest bt j)=true then j+1 else argBest bt j]? = _
   rw[hb,ag bg];exact wd
theorem EI{s:Shared}{E:Value->Shared->Prop}{Q:Value->Shared->Prop}(hh:A.handled=none)(hl:s.heap.IsList l items)(hn:0<items.size)(hc:LJ prog w A.in1 s.heap items bt)
  (fin:∀u g tk,items[argBest bt (items.size - 1)]? =some u->Keeps s.heap g->Q u {s with heap:=g,toks:=tk}):wpAny (model prog w) A (call (.builtin "min") [.ref l]) Q E s:=by
 refine call_function_tree F.kind_min F.plain_min F.entry_min (F.args_min1 _) ?_;show wpAny _ A.in1 (Builtin.Builtins.bindParams "min" ["key","default"] 0 ⟨[],[]⟩>>= _) _ _ s
 refine aa (wpAny_of_eq (show Builtin.Builtins.bindParams "min" ["key","default"] 0 ⟨[],[]⟩=pure [none,none]from rfl) ?_);refine aa (af (aa (wpAny_pyIter_list hl (aa (wpAny_newObj_type ?_)))));have z1:(s.heap.push {cls:=.type "list_iterator",data:=.fields #[.ref l,.int 0 0]}).objs.size=s.heap.objs.size+1:=fi ..;have k1:Keeps s.heap (s.heap.push {cls:=.type "list_iterator",data:=.fields #[.ref l,.int 0 0]}):=fun b q z=>aj _ z
 have it0:(s.heap.push {cls:=.type "list_iterator",data:=.fields #[.ref l,.int 0 0]}).IsListIter s.heap.objs.size l 0:=⟨_,ax _ rfl,rfl,rfl⟩;generalize (s.heap.push {cls:=.type "list_iterator",data:=.fields #[.ref l,.int 0 0]})=g1 at z1 k1 it0 ⊢;have yg:g1.objs.size≠s.heap.objs.size:=by omega
 have nI:∀b q,s.heap.get? b=some q->b≠s.heap.objs.size:=fun b q z=>cf (bj z)
 have nS:∀b q,s.heap.get? b=some q->b≠g1.objs.size:=fun b q z=>cf (lt_trans (bj z) (by rw[z1];exact iu _))
 rw[lK];refine af ⟨plainId_quiet F.plain_min_loop _,?_⟩;have at0:(g1.push {cls:=.type "list",data:=.seq #[]}).get? g1.objs.size=some {cls:=.type "list",dict:=none,data:=.seq #[] 0,slots:=#[]}:=ax _ rfl;have k2:Keeps s.heap (g1.push {cls:=.type "list",data:=.seq #[]}):=fun b q z=>aj _ (k1 b q z)
 have it1:(g1.push {cls:=.type "list",data:=.seq #[]}).IsListIter s.heap.objs.size l 0:=it0.at fun q z=>aj _ z
 refine codeAny_builtin F.entry_min_loop ?_;rw[Around.under_plainId F.plain_min_loop _];show wpAny _ A.in1 (seqItems? (.ref g1.objs.size)>>= _) _ _ _
 refine aa (wpAny_seqItems at0 rfl ?_);show wpAny _ A.in1 (tryCatch (pyNext (.ref s.heap.objs.size)) _>>= _) _ _ _
 refine aa (wpAny_tryCatch (wpAny_pyNext_list_item (x:=items[0]) it1 (hl.at fun q z=>k2 _ _ z) (cb hn) fun g zz sb=>?_));have at2:=(sb.2 _ yg).trans at0;show wpAny _ A.in1 (updateSeq g1.objs.size (fun _=>#[items[0],items[0]])>>= _) _ _ _
 refine aa ?_;refine wpAny_updateSeq at2 rfl ?_;rw[lK];refine af ⟨plainId_quiet F.plain_min_loop _,EH (A:=A) hh hl nI nS yg hc _ 0 _ items[0] _ rfl hn (fun b q z=>(fe _ _ (Ne.symm (nS b q z))).trans ((sb.2 b (nI b q z)).trans (k2 b q z))) (zz.at fun q z=>(fe _ _ yg).trans z) (cb hn) (gu _ at2 rfl) fun u g tk e kk=>fin u g tk e kk⟩
end
theorem x9:∀a:List Int,HT.lexLt a a=false
 |[]=>rfl
 |x::a=>by rw[HT.fG,ah rfl];exact x9 a
theorem lex_trans:∀{a b c:List Int},HT.lexLt a b=true->HT.lexLt b c=true->HT.lexLt a c=true
 |[],[],_,h,_=>by cases h
 |[],_::_,[],_,h=>by cases h
 |[],_::_,_::_,_,_=>rfl
 |_::_,[],_,h,_=>by cases h
 |_::_,_::_,[],_,h=>by cases h
 |x::a,y::b,z::c,h,g=>by
  rw[HT.fG]at h g ⊢;by_cases e:x=y
  ·subst e;rw[ah rfl]at h;by_cases e2:x=z
   ·rw[ah e2]at g ⊢;exact lex_trans h g
   ·rw[ag e2]at g ⊢;exact g
  ·rw[ag e]at h;by_cases e2:y=z
   ·subst e2;rw[ag e];exact h
   ·rw[ag e2]at g;simp only[decide_eq_true_eq]at h g;rw[ag (by omega)];simp only[decide_eq_true_eq];omega
theorem A8(n:Nat->List Int):∀k:Nat,argBest (fun i j=>HT.lexLt (n i) (n j)) k<=k/\∀i,i<=k->HT.lexLt (n i) (n (argBest (fun i j=>HT.lexLt (n i) (n j)) k))=false
 |0=>⟨au _,fun i hi=>by rw[Nat.le_zero.mp hi];exact x9 _⟩
 |k+1=>by
  obtain⟨h1,h2⟩:=A8 n k;show(if HT.lexLt (n (k+1)) (n (argBest (fun i j=>HT.lexLt (n i) (n j)) k))=true then k+1 else argBest (fun i j=>HT.lexLt (n i) (n j)) k)<=k+1/\∀i,i<=k+1->HT.lexLt (n i) (n (if HT.lexLt (n (k+1)) (n (argBest (fun i j=>HT.lexLt (n i) (n j)) k))=true then k+1 else argBest (fun i j=>HT.lexLt (n i) (n j)) k))=false
  by_cases c:HT.lexLt (n (k+1)) (n (argBest (fun i j=>HT.lexLt (n i) (n j)) k))=true
  ·rw[ah c];refine⟨au _,fun i hi=>?_⟩;rcases lt_or_ge i (k+1)with hi'|hi'
   ·cases e:HT.lexLt (n i) (n (k+1))with
    |false=>rfl
    |true=>have:=lex_trans e c;rw[h2 i (by omega)]at this;cases this
   ·rw[show i=k+1 by omega];exact x9 _
  ·rw[ag c];refine⟨by omega,fun i hi=>?_⟩;rcases lt_or_ge i (k+1)with hi'|hi'
   ·exact h2 i (by omega)
   ·rw[show i=k+1 by omega];simpa using c
section
variable {X:Cx}
noncomputable def NV:List V->Hp->VK->Prop:=fun vs H Q=>∃(a:Addr)(ps:List Addr)(ns:List (List Int)),vs=[V.ref a]/\H a=some (.lst (ps.map V.ref))/\Paired (fun p n=>H p=some (.tup (n.map V.int))) ps ns/\ns≠[]/\∀(i:Nat) p n,ps[i]? =some p->ns[i]? =some n->(∀m∈ns,HT.lexLt m n=false)->Q (.ref p) H
theorem KW(sq:X.calm=true)(hu:X.A.units+1<cLine):jV X (.builtin "min") NV:=by
 intro jh s σ H vs us Q I r ⟨a,ps,ns,e,ha,pr,jl,q⟩;subst e;obtain⟨its,rv,hl,_⟩:=I.list (SqL.of ha);rw[Vals.JL r];have ei:=hJ rv;subst ei;have lp:=pairs_len pr;have at_:∀(i:Nat) x,(ps.map Value.ref).toArray[i]? =some x->∃p n items,x=.ref p/\ps[i]? =some p/\ns[i]? =some n/\IsTup s.heap p items/\IntsAre items.toList n:=by
  intro i x hx;rw[List.getElem?_toArray,ba]at hx;cases ep:ps[i]? with
  |none=>rw[ep]at hx;cases hx
  |some p=>rw[ep]at hx;cases hx;obtain⟨n,hn,hp⟩:=pairs_at pr ep;obtain⟨its,rv,ht,_⟩:=I.tuple (SqT.of (K:=X.K) hp);exact⟨p,n,its.toArray,rfl,rfl,hn,ht,intsAre_of rv⟩
 have sz:(ps.map Value.ref).toArray.size=ns.length:=by simp[lp]
 have pos:0<ns.length:=fh.mpr jl;refine EI (bt:=fun i j=>HT.lexLt (ns.getD i []) (ns.getD j [])) (I.ok.hd sq) hl.isList (by rw[sz];exact pos) (fun i j x y s' Q' E' hx hy kk hq=>?_) fun u g tk tm kk=>?_
 ·obtain⟨p,n,is1,rfl,_,hn,t1,i1⟩:=at_ i x hx;obtain⟨p',n',is2,rfl,_,pd,t2,i2⟩:=at_ j y hy;have hq:Q' (.bool (HT.lexLt (ns.getD i []) (ns.getD j []))) s':=hq;rw[dk,dk,hn,pd]at hq;have up:∀{b:Addr}{is:Array Value},IsTup s.heap b is->IsTup s'.heap b is:=fun⟨o,ho,r⟩=>⟨o,kk _ _ ho,r⟩
  exact HT.BD (up t1) (up t2) i1 i2 hu hq
 ·obtain⟨p,n,_,rfl,hp,hn,_,_⟩:=at_ _ u tm;refine⟨.ref p,H,I.kept (t':=tk) kk,rfl,q _ p n hp hn fun m hm=>?_⟩;obtain⟨j,hj⟩:=di.mp hm;obtain⟨_,b2⟩:=A8 (fun i=>ns.getD i []) (ns.length - 1);have lt:=(ak.mp hj).1;have z:=b2 j (by omega);rw[sz]at hn;simp only[dk,hj]at z;rw[<- dk,dk]at z;have rg:ns[argBest (fun i j=>HT.lexLt (ns.getD i []) (ns.getD j [])) (ns.length - 1)]? =some n:=hn;simp only[dk]at rg;rw[rg]at z;exact z
end
theorem EU{lo c:Int}{n:Nat}{g:TG}{tt:TT}{te:TE}{vs:List Nat}{σ:L2.St}{H1:Hp}{D:Addr}{Qd:Hp->Prop}(Pv:Nat->Hp->Prop)(h0:Pv 0 (upd H1 D (.lst [])))
  (hs:∀i H,i<n->Pv i H->g (.int (lo+(i:Nat)*c)) (wipe σ vs) H fun σ2 H2=>wipe σ2 vs=wipe σ vs/\tt σ2 H2 fun b H3=>if b=true then te σ2 H3 fun y H4=>∃acc,H4 D=some (.lst acc)/\acc.length<sizeLine/\Pv (i+1) (upd H4 D (.lst (acc++[y])))else Pv (i+1) H3) (hd:∀H,Pv n H->Qd H):
  ∃W:Nat->Nat->Hp->Prop,(∃m,W 0 m (upd H1 D (.lst [])))/\∀i m H,W i m H->((Itc lo c n).stop i H/\Qd H)\/((Itc lo c n).go i H/\∃Nx:Hp->Prop,(∀H',Nx H'->∃m',m'<m/\W (i+1) m' H')/\∀x H',(Itc lo c n).yld i H x H'->g x (wipe σ vs) H' fun σ2 H2=>wipe σ2 vs=wipe σ vs/\tt σ2 H2 fun b H3=>if b=true then te σ2 H3 fun y H4=>∃acc,H4 D=some (.lst acc)/\acc.length<sizeLine/\Nx (upd H4 D (.lst (acc++[y])))else Nx H3):=by
 refine⟨fun i m H=>m+i=n/\Pv i H,⟨n,rfl,h0⟩,fun i m H ⟨e,p⟩=>?_⟩;cases m with
 |zero=>rw[zero_add]at e;subst e;exact .inl ⟨au _,hd H p⟩
 |succ m=>exact .inr ⟨show i<n by omega,Pv (i+1),fun H' p'=>⟨m,iu _,by omega,p'⟩,fun x H' ⟨e1,e2⟩=>by subst e1 e2;exact hs i _ (by omega) p⟩
theorem M5{m:Nat}(hm:m<=64):RgC 0 ((2*m:Nat):Int) 2 m:=by
 have e:Builtin.Range.rangeSize 0 ((2*m:Nat):Int) 2=m:=by unfold Builtin.Range.rangeSize;simp only[show(2:Int)>0 by decide,if_true];split<;>omega
 refine⟨by decide,by decide,?_,e⟩;exact(by decide+kernel:∀m:Nat,m<65->Builtin.Range.small 0 ((2*m:Nat):Int) 2=true) m (by omega)
noncomputable def BS(o:Option Obj):Option HO->Option HO
 |some (.lst xs)=>o.map fun o=>.frz o (.lst xs)
 |some (.tup xs)=>o.map fun o=>.frz o (.tup xs)
 |u=>u
noncomputable def Plain(H:Hp):Prop:=∀b u,H b=some u->(∃xs,u=.lst xs)\/(∃xs,u=.tup xs)\/(∃ps,u=.tbl ps)\/∃o xs,u=.frz o (.lst xs)
structure qE(H H':Hp):Prop where
 none:∀b,H b=none->H' b=none
 tbl:∀b ps,H b=some (.tbl ps)->H' b=some (.tbl ps)
 lst:∀b xs,H b=some (.lst xs)->∃o,H' b=some (.frz o (.lst xs))
 tup:∀b xs,H b=some (.tup xs)->∃o,H' b=some (.frz o (.tup xs))
 frz:∀b o u,H b=some (.frz o u)->H' b=some (.frz o u)
section
variable {X:Cx}{jh:List (Addr×Obj)}{σ:L2.St}{H:Hp}{s:Shared}
theorem Inv.freeze(I:Inv X jh σ H s)(h0:∀b xs,X.H_0 b≠some (.tup xs))(hp:Plain H):∃H',Inv X jh σ H' s/\qE H H':=by
 have ex:∀b xs,H b=some (.lst xs)\/H b=some (.tup xs)->∃o,s.heap.get? b=some o:=fun b xs h=>by
  rcases h with h|h
  ·obtain⟨_,_,_,_,e⟩:=I.hok b _ h;exact⟨_,e⟩
  ·obtain⟨_,_,_,o,e,_⟩:=I.hok b _ h;exact⟨o,e⟩
 have F:qE H (fun b=>BS (s.heap.get? b) (H b)):=by
  refine⟨fun b h=>?_,fun b ps h=>?_,fun b xs h=>?_,fun b xs h=>?_,fun b o u h=>?_⟩
  ·show BS _ (H b)=_;rw[h];rfl
  ·show BS _ (H b)=_;rw[h];rfl
  ·obtain⟨o,e⟩:=ex b xs (.inl h);exact⟨o,by show BS _ (H b)=_;rw[h,e];rfl⟩
  ·obtain⟨o,e⟩:=ex b xs (.inr h);exact⟨o,by show BS _ (H b)=_;rw[h,e];rfl⟩
  ·show BS _ (H b)=_;rw[h];rfl
 refine⟨_,⟨I.ok,I.os,I.bare,⟨I.base.keep,I.base.slot,fun b o e n hx=>F.none b (I.base.free b o e n hx),I.base.there,fun b xs e=>absurd e (h0 b xs),fun b o x e=>F.frz b o x (I.base.mH b o x e),fun b ps e=>?_⟩,I.loc,I.cell,F.none _ I.free,fun x c e=>F.none _ (I.gU x c e),fun p hp=>?_,fun b u e=>?_,I.len⟩,F⟩
 ·obtain⟨m,q⟩:=I.base.rD b ps e;exact⟨m,F.tbl b _ q⟩
 ·obtain⟨e,n,r⟩:=I.pin p hp;exact⟨e,F.none _ n,r⟩
 ·have e:BS (s.heap.get? b) (H b)=some u:=e;cases q:H b with
  |none=>rw[q]at e;cases e
  |some v=>
   rcases hp b v q with⟨xs,rfl⟩|⟨xs,rfl⟩|⟨ps,rfl⟩|⟨o,xs,rfl⟩
   ·obtain⟨o,z⟩:=ex b xs (.inl q);rw[q,z]at e;cases e;exact⟨z,I.hok b _ q⟩
   ·obtain⟨o,z⟩:=ex b xs (.inr q);rw[q,z]at e;cases e;exact⟨z,I.hok b _ q⟩
   ·rw[q]at e;cases e;exact I.hok b _ q
   ·rw[q]at e;cases e;exact I.hok b _ q
theorem qE.sqL{K:W.Frag}{H H':Hp}{a:Addr}{xs:List V}(F:qE H H')(h:SqL K H a xs):SqL K H' a xs:=by
 rcases h with(h|⟨o,h⟩)|h
 ·exact .inl (.inr (F.lst _ _ h))
 ·exact .inl (.inr ⟨o,F.frz _ _ _ h⟩)
 ·exact .inr h
def inZ(n:List Int):Prop:=(∀x∈n,0<=x)/\n.length%2=0
noncomputable def LC(K:W.Frag)(H:Hp)(p:Addr)(ps:List PI):Prop:=∃as:List Addr,SqL K H p (as.map V.ref)/\Paired (fun a z=>SqT K H a [.int z.1,.int z.2]) as ps
theorem LC.mono{K:W.Frag}{H H':Hp}{p:Addr}{ps:List PI}(e:a9 H H')(h:LC K H p ps):LC K H' p ps:=let⟨as,h1,h2⟩:=h;⟨as,e.seq h1,aH (fun _ _ q=>a9.sqT e q) h2⟩
theorem LC.frozen{K:W.Frag}{H H':Hp}{p:Addr}{as:List Addr}{ps:List PI}(F:qE H H')(h:H p=some (.lst (as.map V.ref)))(pr:Paired (fun a z=>H a=some (.tup [.int z.1,.int z.2])) as ps):LC K H' p ps:=
 ⟨as,.inl (.inr (F.lst _ _ h)),aH (fun _ _ q=>.inl (.inr (F.tup _ _ q))) pr⟩
theorem LC.beside{K:W.Frag}{H:Hp}{p tb:Addr}{ps:List PI}{qs:Array Value}{u:HO}(ht:H tb=some (.tbl qs))(h:LC K H p ps):LC K (upd H tb u) p ps:=by
 obtain⟨as,h1,h2⟩:=h;have ne:∀a v,(∀ps,v≠HO.tbl ps)->H a=some v->upd H tb u a=some v:=fun a v n e=>by rw[aA (fun z=>by rw[z,ht]at e;cases e;exact n _ rfl)];exact e
 refine⟨as,?_,aH (fun a z q=>?_) h2⟩
 ·rcases h1 with(h|⟨o,h⟩)|h
  ·exact .inl (.inl (ne _ _ (fun _ z=>nomatch z) h))
  ·exact .inl (.inr ⟨o,ne _ _ (fun _ z=>nomatch z) h⟩)
  ·exact .inr h
 ·rcases q with(h|⟨o,h⟩)|h
  ·exact .inl (.inl (ne _ _ (fun _ z=>nomatch z) h))
  ·exact .inl (.inr ⟨o,ne _ _ (fun _ z=>nomatch z) h⟩)
  ·exact .inr h
def NN(t:TS):TS:=fun D σ H=>Plain H/\∀H',qE H H'->t D σ H'
theorem JO{st:Stmt}{t:TS}(h0:∀b xs,X.H_0 b≠some (.tup xs))(h:PS X st t):PS X st (NN t):=by intro jh s σ H D I ⟨hp,hq⟩;obtain⟨H',I',F⟩:=Inv.freeze I h0 hp;exact h jh s σ H' D I' (hq H' F)
end
end L3
namespace RT
open PySem L2 L3
noncomputable def top(i:Nat):Stmt:=PySem.Challenge.pw_rooftold_s09_size.main.body.getD i (.Pass ⟨0,0,0,0⟩)
structure Adr where
 bZ:Addr
 bK:Addr
 fM:Addr
 iQ:Addr
 fJ:Addr
 Roof:Addr
abbrev bmE:List Value:=[.type "Exception",.type "BaseException",.type "object"]
structure Txt(K:W.Frag)(mg:Str->Option Value)(base:Heap)(d:Adr):Prop where
 bF:∃a,mg "ALL_SIDES" =some (.ref a)/\∀H,SqT K H a [.int 0,.int 1,.int 2,.int 3]
 xH:∃a,mg "STEPS" =some (.ref a)/\CT2 K a [(0,-1),(1,0),(0,1),(-1,0)]
 iM:∃a,mg "SIDE_STARTS" =some (.ref a)/\CT2 K a [(0,0),(1,0),(1,1),(0,1)]
 mG:∃a,mg "QUARTERS" =some (.ref a)/\CT2 K a [(0,0),(1,0),(0,1),(1,1)]
 gS:∃a,mg "HALVES_ABOUT" =some (.ref a)/\CT2 K a [(-1,-1),(0,-1),(1,-1),(-1,0),(1,0),(-1,1),(0,1),(1,1)]
 dX:∃a,mg "HALVES_AT_A_POINT" =some (.ref a)/\CT2 K a [(-1,-1),(0,-1),(-1,0),(0,0)]
 zS:rG mg "LINE_FEED" 10
 KI:rG mg "BLANK" 32
 KH:rG mg "COMMA" 44
 jK:rG mg "DIGIT_ZERO" 48
 xJ:rG mg "DIGIT_NINE" 57
 nR:rG mg "GREATEST_NUMBER" 64
 uJ:rG mg "MOST_DIGITS" 2
 pU:rG mg "FEWEST_CORNERS" 4
 j1:rG mg "CELLS_IN_A_ROW" 64
 xI:rG mg "MOST_CELLS" 256
 len:mg "len" =none
 min:mg "min" =none
 max:mg "max" =none
 any:mg "any" =none
 list:mg "list" =none
 dict:mg "dict" =none
 sorted:mg "sorted" =none
 range:mg "range" =none
 enumerate:mg "enumerate" =none
 eJ:PyProof.Rows.OwnCls "NoHouse" d.bZ bmE "Exception.__new__" mg base
 MQ:mg "Roof" =some (.ref d.Roof)
 cX:Cls K d.Roof
 JZ:g8 K d.Roof "cells"
 kE:g8 K d.Roof "depths"
 vN:g8 K d.Roof "heights"
 pH:g8 K d.Roof "facings"
 vM:g8 K d.Roof "numbers"
 CT:g8 K d.Roof "faces"
 gT:rG mg "GREATEST_MEASURE" 64
 uC:PyProof.Rows.OwnCls "OutOfBounds" d.bK bmE "Exception.__new__" mg base
 sum:mg "sum" =none
 HL:PyProof.Rows.OwnCls "NoSize" d.fJ bmE "Exception.__new__" mg base
variable {P:Program}{w:World}{K:W.Frag}{mg:Str->Option Value}{base:Heap}{d:Adr}{f:Addr}{fd:FuncData}
theorem hm{k n:Nat}{A:Around}(h:cO n A)(e:k<=n:=by decide):cO k A:=h.mono e
theorem fS{N ps:List Str}{sc:Scope}(h:aJ N ps sc:=by exact⟨rfl,rfl,rfl,by decide+kernel,rfl,by decide+kernel,by decide+kernel⟩):aJ N ps sc:=h
theorem dI{K:W.Frag}{n:Str}{s:Stmt}(h:aF K n s:=by dsimp only[L2.KOf];refine' L3.MW ?a ?l ?c ?k;case a|l|c|k=>k_is):aF K n s:=h
theorem pgN{X:Cx}{pos:Pos}{i:Nat}{x:Str}(hN:X.N.Nodup)(hi:X.N[i]? =some x:=by rfl)(hx:Loc X.env.scope x:=by exact Or.inl rfl)(hf:X.fn x=true\/X.env.scope.names.lookup x=some .local:=by first|exact .inl rfl|exact .inr rfl|assumption):PG X (.Name x pos) (j2 i):=JR hN hi hx hf
theorem psN{X:Cx}{pos kn:Pos}{i:Nat}{x:Str}{e:Expr}{te:TE}(hN:X.N.Nodup)(he:PE X e te)(hi:X.N[i]? =some x:=by rfl)(hx:Loc X.env.scope x:=by exact Or.inl rfl)(hs:swapsWith e (some (.Name x kn)) pos.line X.env=pure false:=by rfl)(hf:X.fn x=true\/X.env.scope.names.lookup x=some .local:=by first|exact .inl rfl|exact .inr rfl|assumption):PS X (.Assign [.Name x kn] e pos) (AR te (j2 i)):=AX hN hi hx he hs hf
abbrev s_lo:Stmt:=(top 4)
theorem sc_lo:aJ ["direction"] ["direction"] (aG s_lo):=fS
noncomputable def sp_lo(K:W.Frag)(d:Adr):Sp:=fun vs H Q _=>∃x:Int,vs=[.int x]/\Q (.int ((x+1)%4)) H
theorem ok_lo(F:Fun K "left_of" "left_of" s_lo f fd)(T:Txt K mg base d):bJ P w K mg base CX0 1 f fd ["direction"] (sp_lo K d):=by refine F.ok sc_lo (fun vs H Q E h=>by obtain⟨x,rfl,_⟩:=h;rfl) (fun _ _ _ _ H _ Q E hr h=>?_);have hu:=bB hr;obtain⟨x,rfl,k⟩:=h;refine⟨_,(aD (aP (cI pG (cI fY (pv 0) aL) aL))),?_⟩;exact⟨_,rfl,_,_,rfl,rfl,_,_,rfl,rfl,(by show(0:Int)<4;decide),k⟩
abbrev s_o:Stmt:=(top 5)
theorem sc_o:aJ ["direction"] ["direction"] (aG s_o):=fS
noncomputable def sp_o(K:W.Frag)(d:Adr):Sp:=fun vs H Q _=>∃x:Int,vs=[.int x]/\Q (.int ((x+2)%4)) H
theorem ok_o(F:Fun K "opposite" "opposite" s_o f fd)(T:Txt K mg base d):bJ P w K mg base CX0 1 f fd ["direction"] (sp_o K d):=by refine F.ok sc_o (fun vs H Q E h=>by obtain⟨x,rfl,_⟩:=h;rfl) (fun _ _ _ _ H _ Q E hr h=>?_);have hu:=bB hr;obtain⟨x,rfl,k⟩:=h;refine⟨_,(aD (aP (cI pG (cI fY (pv 0) aL) aL))),?_⟩;exact⟨_,rfl,_,_,rfl,rfl,_,_,rfl,rfl,(by show(0:Int)<4;decide),k⟩
abbrev s_ro:Stmt:=(top 6)
theorem sc_ro:aJ ["direction"] ["direction"] (aG s_ro):=fS
noncomputable def sp_ro(K:W.Frag)(d:Adr):Sp:=fun vs H Q _=>∃x:Int,vs=[.int x]/\Q (.int ((x+3)%4)) H
theorem ok_ro(F:Fun K "right_of" "right_of" s_ro f fd)(T:Txt K mg base d):bJ P w K mg base CX0 1 f fd ["direction"] (sp_ro K d):=by refine F.ok sc_ro (fun vs H Q E h=>by obtain⟨x,rfl,_⟩:=h;rfl) (fun _ _ _ _ H _ Q E hr h=>?_);have hu:=bB hr;obtain⟨x,rfl,k⟩:=h;refine⟨_,(aD (aP (cI pG (cI fY (pv 0) aL) aL))),?_⟩;exact⟨_,rfl,_,_,rfl,rfl,_,_,rfl,rfl,(by show(0:Int)<4;decide),k⟩
abbrev s_m:Stmt:=(top 7)
theorem sc_m:aJ ["place","step"] ["place","step"] (aG s_m):=fS
noncomputable def sp_m(K:W.Frag)(d:Adr):Sp:=fun vs H Q _=>∃(v u:V)(p q:PI),vs=[v,u]/\C2 K H v p/\C2 K H u q/\∀r H',a9 H H'->T2 H' r (p.1+q.1,p.2+q.2)->Q r H'
theorem ok_m(F:Fun K "moved" "moved" s_m f fd)(T:Txt K mg base d):bJ P w K mg base CX0 1 f fd ["place","step"] (sp_m K d):=by refine F.ok sc_m (fun vs H Q E h=>by obtain⟨v,u,p,q,rfl,_⟩:=h;rfl) (fun _ _ _ _ H _ Q E hr h=>?_);have hu:=bB hr;obtain⟨v,u,p,q,rfl,⟨a,rfl,ha⟩,⟨b,rfl,hb⟩,k⟩:=h;refine⟨_,(aD (aP (d7 (a8 (cI fY (cD c7 (pv 0) aL (fun _ _=>rfl)) (cD c7 (pv 1) aL (fun _ _=>rfl))) (a8 (cI fY (cD c7 (pv 0) aL (fun _ _=>rfl)) (cD c7 (pv 1) aL (fun _ _=>rfl))) aC))))),?_⟩;refine⟨_,rfl,a,_,_,_,rfl,rfl,ha,bI (by decide) rfl,_,rfl,b,_,_,_,rfl,rfl,hb,bI (by decide) rfl,_,_,rfl,rfl,_,rfl,a,_,_,_,rfl,rfl,ha,bI (by decide) rfl,_,rfl,b,_,_,_,rfl,rfl,hb,bI (by decide) rfl,_,_,rfl,rfl,(by show 2<=sizeLine;decide),fun t ht=>?_⟩;exact k _ _ (a9.upd ht) ⟨t,rfl,a7⟩
abbrev s_b:Stmt:=(top 8)
theorem sc_b:aJ ["place","direction"] ["place","direction"] (aG s_b):=fS
noncomputable def sp_b(K:W.Frag)(d:Adr):Sp:=fun vs H Q _=>∃(v:V)(p:PI)(s:Nat),vs=[v,.int s]/\C2 K H v p/\s<4/\∀r H',a9 H H'->T2 H' r (RM.aN p s)->Q r H'
theorem ok_b(F:Fun K "beyond" "beyond" s_b f fd)(T:Txt K mg base d)(D_m:aO P w K mg base CX0 1 "moved" ["place","step"] (sp_m K d)):bJ P w K mg base CX0 2 f fd ["place","direction"] (sp_b K d):=by
 refine F.ok sc_b (fun vs H Q E h=>by obtain⟨v,p,s,rfl,_⟩:=h;rfl) (fun _ _ _ _ H _ Q E hr h=>?_);have hu:=bB hr;obtain⟨aSTEPS,xH,c_STEPS⟩:=T.xH;obtain⟨v,p,s,rfl,hv,hs,k⟩:=h;obtain⟨xs,hx,pr⟩:=c_STEPS;obtain⟨q,hq,e⟩:∃q:PI,([(0,-1),(1,0),(0,1),(-1,0)]:List PI)[s]? =some q/\((p.1+q.1,p.2+q.2):PI)=RM.aN p s:=by
  have cs:s=0\/s=1\/s=2\/s=3:=by omega
  rcases cs with rfl|rfl|rfl|rfl
  ·exact⟨_,rfl,by simp[RM.aN];omega⟩
  ·exact⟨_,rfl,by simp[RM.aN]⟩
  ·exact⟨_,rfl,by simp[RM.aN]⟩
  ·exact⟨_,rfl,by simp[RM.aN];omega⟩
 obtain⟨u,tm,ru⟩:=iV pr hq;refine⟨_,(aD (aP (aS D_m (hm hr) aV rfl (a8 (pv 0) (a8 (cD c7 (fK xH rfl) (pv 1) (fun _ _=>rfl)) aC))))),?_⟩;exact⟨_,rfl,_,rfl,_,_,_,_,rfl,rfl,hx _,bI (by omega) (by simpa using tm),v,u,p,q,rfl,hv,ru _,fun r H' sm t=>k r H' sm (by rw[<- e];exact t)⟩
abbrev s_ss:Stmt:=(top 9)
theorem sc_ss:aJ ["square","side"] ["square","side"] (aG s_ss):=fS
noncomputable def sp_ss(K:W.Frag)(d:Adr):Sp:=fun vs H Q _=>∃(v:V)(p:PI)(s:Nat),vs=[v,.int s]/\C2 K H v p/\s<4/\∀r H',a9 H H'->T2 H' r (RM.aM p s)->Q r H'
theorem ok_ss(F:Fun K "side_start" "side_start" s_ss f fd)(T:Txt K mg base d)(D_m:aO P w K mg base CX0 1 "moved" ["place","step"] (sp_m K d)):bJ P w K mg base CX0 2 f fd ["square","side"] (sp_ss K d):=by
 refine F.ok sc_ss (fun vs H Q E h=>by obtain⟨v,p,s,rfl,_⟩:=h;rfl) (fun _ _ _ _ H _ Q E hr h=>?_);have hu:=bB hr;obtain⟨aSIDE_STARTS,iM,c_SIDE_STARTS⟩:=T.iM;obtain⟨v,p,s,rfl,hv,hs,k⟩:=h;obtain⟨xs,hx,pr⟩:=c_SIDE_STARTS;obtain⟨q,hq,e⟩:∃q:PI,([(0,0),(1,0),(1,1),(0,1)]:List PI)[s]? =some q/\((p.1+q.1,p.2+q.2):PI)=RM.aM p s:=by
  have cs:s=0\/s=1\/s=2\/s=3:=by omega
  rcases cs with rfl|rfl|rfl|rfl<;>exact⟨_,rfl,by simp[RM.aM]⟩
 obtain⟨u,tm,ru⟩:=iV pr hq;refine⟨_,(aD (aP (aS D_m (hm hr) aV rfl (a8 (pv 0) (a8 (cD c7 (fK iM rfl) (pv 1) (fun _ _=>rfl)) aC))))),?_⟩;exact⟨_,rfl,_,rfl,_,_,_,_,rfl,rfl,hx _,bI (by omega) (by simpa using tm),v,u,p,q,rfl,hv,ru _,fun r H' sm t=>k r H' sm (by rw[<- e];exact t)⟩
abbrev s_se:Stmt:=(top 10)
theorem sc_se:aJ ["square","side"] ["square","side"] (aG s_se):=fS
noncomputable def sp_se(K:W.Frag)(d:Adr):Sp:=fun vs H Q _=>∃(v:V)(p:PI)(s:Nat),vs=[v,.int s]/\C2 K H v p/\s<4/\∀r H',a9 H H'->T2 H' r (RM.aM p (s+1))->Q r H'
theorem ok_se(F:Fun K "side_end" "side_end" s_se f fd)(T:Txt K mg base d)(D_ss:aO P w K mg base CX0 2 "side_start" ["square","side"] (sp_ss K d))(D_lo:aO P w K mg base CX0 1 "left_of" ["direction"] (sp_lo K d)):bJ P w K mg base CX0 3 f fd ["square","side"] (sp_se K d):=by
 refine F.ok sc_se (fun vs H Q E h=>by obtain⟨v,p,s,rfl,_⟩:=h;rfl) (fun _ _ _ _ H _ Q E hr h=>?_);have hu:=bB hr;obtain⟨v,p,s,rfl,hv,hs,k⟩:=h;refine⟨_,(aD (aP (aS D_ss (hm hr) aV rfl (a8 (pv 0) (a8 (aS D_lo (hm hr) aV rfl (a8 (pv 1) aC)) aC))))),?_⟩;refine⟨_,rfl,_,rfl,_,rfl,v,p,(s+1)%4,?_,hv,by omega,fun r H' sm t=>k r H' sm ?_⟩
 ·simp
 ·have e:RM.aM p ((s+1)%4)=RM.aM p (s+1):=by unfold RM.aM;rw[Nat.mod_mod]
  rw[<- e];exact t
abbrev s_br:Stmt:=(top 11)
theorem sc_br:aJ ["place"] ["place"] (aG s_br):=fS
noncomputable def sp_br(K:W.Frag)(d:Adr):Sp:=fun vs H Q _=>∃(v:V)(p:PI),vs=[v]/\C2 K H v p/\∀r H',a9 H H'->T2 H' r (p.2,p.1)->Q r H'
theorem ok_br(F:Fun K "by_row" "by_row" s_br f fd)(T:Txt K mg base d):bJ P w K mg base CX0 1 f fd ["place"] (sp_br K d):=by refine F.ok sc_br (fun vs H Q E h=>by obtain⟨v,p,rfl,_⟩:=h;rfl) (fun _ _ _ _ H _ Q E hr h=>?_);have hu:=bB hr;obtain⟨v,p,rfl,⟨a,rfl,ha⟩,k⟩:=h;refine⟨_,(aD (aP (d7 (a8 (cD c7 (pv 0) aL (fun _ _=>rfl)) (a8 (cD c7 (pv 0) aL (fun _ _=>rfl)) aC))))),?_⟩;refine⟨_,rfl,a,_,_,_,rfl,rfl,ha,bI (by decide) rfl,_,rfl,a,_,_,_,rfl,rfl,ha,bI (by decide) rfl,(by show 2<=sizeLine;decide),fun t ht=>?_⟩;exact k _ _ (a9.upd ht) ⟨t,rfl,a7⟩
abbrev s_pb:Stmt:=(top 28)
theorem sc_pb:aJ ["row","mark","parts","part","value"] ["row","mark"] (aG s_pb):=fS
theorem D1{ns:List Int}{i:Nat}{y:V}(h:(ns.map V.int)[i]? =some y):∃z,ns[i]? =some z/\y=V.int z:=by
 rw[ba]at h;cases e:ns[i]? with
 |none=>rw[e]at h;cases h
 |some z=>rw[e]at h;exact⟨z,rfl,(Option.some.inj h).symm⟩
theorem few{n m:Nat}(h:n<=m)(hm:m<=100000:=by omega):n<sizeLine:=gx (df h hm) (by decide)
noncomputable def sp_pb(K:W.Frag)(d:Adr):Sp:=fun vs H Q _=>∃(a:Addr)(ns:List Int)(m:Int),vs=[.ref a,.int m]/\SqL K H a (ns.map V.int)/\ns.length<=4096/\∀p H',a9 H H'->H p=none->LLI H' p (RM.parts m ns)->Q (.ref p) H'
theorem ok_pb(F:Fun K "parts_between" "parts_between" s_pb f fd)(T:Txt K mg base d):bJ P w K mg base CX0 1 f fd ["row","mark"] (sp_pb K d):=by
 refine F.ok sc_pb (fun vs H Q E h=>by obtain⟨a,ns,m,rfl,_⟩:=h;rfl) (fun _ _ _ _ H _ Q E hr h=>?_);have hu:=bB hr;obtain⟨a,ns,m,rfl,hS,jt,k⟩:=h;refine⟨_,(aB (psN (i:=2) sc_pb.nd (eU aC))
   (aB (psN (i:=3) sc_pb.nd (eU aC))
   (aB (bV PassesOwn.never rfl (cP (pv 0)) (pgN (i:=4) sc_pb.nd) (aD (cK (bX iX (pv 4) (pv 1) (c6 _)) (aB (cT (hV PySem.F.plainAttrs_list PySem.F.slot_list_append PySem.F.type_list_append cF (pv 2) (a8 (pv 3) aC)))
   (aD (psN (i:=3) sc_pb.nd (eU aC)))) (aD (cT (hV PySem.F.plainAttrs_list PySem.F.slot_list_append PySem.F.type_list_append cF (pv 3) (a8 (pv 4) aC)))))))
   (aB (cT (hV PySem.F.plainAttrs_list PySem.F.slot_list_append PySem.F.type_list_append cF (pv 2) (a8 (pv 3) aC)))
   (aD (aP (pv 2))))))),?_⟩
 refine⟨cn _,fun p hp=>?_⟩;refine⟨cn _,fun q hq=>?_⟩;have uk:p≠q:=aI a7 hq;refine⟨_,rfl,a,rfl,⟨_,(a9.trans (a9.upd hp) (a9.upd hq)).seq hS⟩,gV (K:=K) (a:=a) (xs:=ns.map V.int) (fun i σ H2=>∃(q:Addr)(done:List (List Int))(cur:List Int)(xs:List V)(v:Option V),
  σ=[some (.ref a),some (.int m),some (.ref p),some (.ref q),v]/\a9 H H2/\H q=none/\H2 p=some (.lst xs)/\H2 q=some (.lst (cur.map V.int))/\p≠q/\
  Paired (fun v r=>∃b,v=V.ref b/\b≠p/\b≠q/\H2 b=some (.lst (r.map V.int))) xs done/\done++RM.partsFrom m cur (ns.drop i)=RM.parts m ns/\done.length<=i/\cur.length<=i)
  ⟨q,[],[],[],none,rfl,a9.trans (a9.upd hp) (a9.upd hq),(a9.upd hp).free hq,by rw[aA uk,a7],a7,uk,.nil,RM.iH m ns,au _,au _⟩
  (fun i σ H2 _ ⟨_,_,_,_,_,_,s2,_⟩=>s2.seq hS) ?_ ?_⟩
 ·rintro i y σ H2 hi ⟨q,done,cur,xs,v,rfl,s2,fq,h1,h2,uk,pr,hd,l1,l2⟩;obtain⟨z,hz,rfl⟩:=D1 hi;have ph:i<ns.length:=(ak.mp hz).1;have lx:=pairs_len pr;rw[RM.drop_cons hz]at hd;refine⟨_,rfl,_,rfl,rfl,_,rfl,?_⟩;refine cG (fun c=>?_) (fun c=>?_)
  ·have e:z=m:=by simpa using c
   refine⟨_,rfl,.inl ⟨rfl,_,SqL.of h1⟩,_,rfl,p,xs,.ref q,rfl,rfl,h1,few (m:=4096) (by omega),?_⟩;refine⟨cn _,fun q' om=>?_⟩;have hp':(upd H2 p (.lst (xs++[.ref q]))) p=some (.lst (xs++[.ref q])):=a7;have hq2:(upd H2 p (.lst (xs++[.ref q]))) q=some (.lst (cur.map V.int)):=by rw[aA uk.symm];exact h2
   have n1:p≠q':=aI hp' om;have n2:q≠q':=aI hq2 om;have s3:a9 H (upd H2 p (.lst (xs++[.ref q]))):=a9.put s2 hp;refine⟨q',done++[cur],[],xs++[.ref q],_,rfl,a9.trans s3 (a9.upd om),s3.free om,by rw[aA n1,a7],a7,n1,?_,?_,by rw[aq];simp;omega,cn _⟩
   ·refine aW ⟨q,rfl,uk.symm,n2,by rw[aA n2];exact hq2⟩ (aH (fun v r ⟨b,e1,e2,e3,e4⟩=>?_) pr);have e5:(upd H2 p (.lst (xs++[.ref q]))) b=some (.lst (r.map V.int)):=by rw[aA e2];exact e4
    have n3:b≠q':=aI e5 om;exact⟨b,e1,e2,n3,by rw[aA n3];exact e5⟩
   ·rw[RM.iI e]at hd;rw[<- hd];simp
  ·have e:¬z=m:=by simpa using c
   refine⟨_,rfl,.inl ⟨rfl,_,SqL.of h2⟩,_,rfl,q,_,.int z,rfl,rfl,h2,by rw[ai];exact few (m:=4096) (by omega),?_⟩;refine⟨q,done,cur++[z],xs,_,rfl,a9.put s2 fq,fq,by rw[aA uk];exact h1,by rw[a7,cg];rfl,uk,aH (fun v r ⟨b,e1,e2,e3,e4⟩=>⟨b,e1,e2,e3,by rw[aA e3];exact e4⟩) pr,?_,by omega,by rw[aq];simp;omega⟩;rw[RM.gP e]at hd;exact hd
 ·rintro σ H2 ⟨q,done,cur,xs,v,rfl,s2,fq,h1,h2,uk,pr,hd,l1,l2⟩;have lx:=pairs_len pr;rw[ai]at hd l1;rw[ij (au _)]at hd;have hd:done++[cur]=RM.parts m ns:=hd;refine⟨_,rfl,.inl ⟨rfl,_,SqL.of h1⟩,_,rfl,p,xs,.ref q,rfl,rfl,h1,few (m:=4096) (by omega),?_⟩;refine⟨_,rfl,k p _ (a9.put s2 hp) hp ⟨_,a7,?_⟩⟩;rw[<- hd];refine aW ⟨q,rfl,by rw[aA uk.symm];exact h2⟩ (aH (fun v r ⟨b,e1,e2,e3,e4⟩=>⟨b,e1,by rw[aA e2];exact e4⟩) pr)
abbrev s_dt:Stmt:=(top 29)
theorem sc_dt:aJ ["value"] ["value"] (aG s_dt):=fS
noncomputable def sp_dt(K:W.Frag)(d:Adr):Sp:=fun vs H Q E=>∃n:Int,vs=[.int n]/\(∀z,RM.kP n=some z->Q (.int z) H)/\(RM.kP n=none->E (.ref d.bZ) none H)
theorem ok_dt(F:Fun K "digit_told" "digit_told" s_dt f fd)(T:Txt K mg base d):bJ P w K mg base CXf 1 f fd ["value"] (sp_dt K d):=by
 refine okX F sc_dt (fun vs H Q E h=>by obtain⟨n,rfl,_⟩:=h;rfl) (fun _ _ _ _ H _ Q E hr hok h=>?_);have hu:=bB hr;obtain⟨n,rfl,k1,k2⟩:=h;refine⟨_,(aB (cK (PW.pt (yK (bX HJ (pv 0) (cU T.jK rfl) (c6 _)) (sM (bX vJ (pv 0) (cU T.xJ rfl) (c6 _))))) (aD (d4 hok PySem.F.excBase_Exception T.eJ rfl)) bD)
   (aD (aP (cI wX (pv 0) (cU T.jK rfl))))),?_⟩
 refine⟨_,rfl,_,_,rfl,rfl,_,rfl,?_⟩;refine cG (fun c=>?_) (fun c=>?_)
 ·have c:n<48:=by simpa using c
  exact EZ (k2 (by unfold RM.kP;rw[ah (.inl c)]))
 ·have c:¬n<48:=by simpa using c
  refine⟨_,rfl,_,_,rfl,rfl,_,rfl,?_⟩;refine cG (fun c2=>?_) (fun c2=>?_)
  ·have c2:57<n:=by simpa using c2
   exact k2 (by unfold RM.kP;rw[ah (.inr c2)])
  ·have c2:¬57<n:=by simpa using c2
   exact⟨_,rfl,_,_,rfl,rfl,k1 _ (by unfold RM.kP;rw[ag (by omega)])⟩
abbrev s_nt:Stmt:=(top 30)
theorem sc_nt:aJ ["row","number","value"] ["row"] (aG s_nt):=fS
noncomputable def sp_nt(K:W.Frag)(d:Adr):Sp:=fun vs H Q E=>∃(v:V)(ns:List Int),vs=[v]/\LI H v ns/\ns.length<=4096/\(∀z,RM.dC ns=some z->Q (.int z) H)/\(RM.dC ns=none->E (.ref d.bZ) none H)
theorem ok_nt(F:Fun K "number_told" "number_told" s_nt f fd)(T:Txt K mg base d)(D_dt:aO P w K mg base CXf 1 "digit_told" ["value"] (sp_dt K d)):bJ P w K mg base CXf 2 f fd ["row"] (sp_nt K d):=by
 refine okX F sc_nt (fun vs H Q E h=>by obtain⟨v,ns,rfl,_⟩:=h;rfl) (fun _ _ _ _ H _ Q E hr hok h=>?_);have hu:=bB hr;obtain⟨v,ns,rfl,⟨a,rfl,ha⟩,hl,k1,k2⟩:=h;have hS:SqL K H a (ns.map V.int):=SqL.of ha;have el:(ns.map V.int).length=ns.length:=ai ..;refine⟨_,(aB (cK (PW.pt (yK (bX iX (bG bP (by rfl) T.len PySem.boot_len (a8 (pv 0) aC)) aL (c6 _)) (sM (bX vJ (bG bP (by rfl) T.len PySem.boot_len (a8 (pv 0) aC)) (cU T.uJ rfl) (c6 _))))) (aD (d4 hok PySem.F.excBase_Exception T.eJ rfl)) bD)
   (aB (cK (PW.pt (p8 (bX vJ (bG bP (by rfl) T.len PySem.boot_len (a8 (pv 0) aC)) aL (c6 _)) (mY (bX iX (cD lP (pv 0) aL (fun _ _=>rfl)) (cU T.jK rfl) (c6 _))))) (aD (d4 hok PySem.F.excBase_Exception T.eJ rfl)) bD)
   (aB (psN (i:=1) sc_nt.nd aL)
   (aB (bV PassesOwn.leaving rfl (cP (pv 0)) (pgN (i:=2) sc_nt.nd) (aD (psN (i:=1) sc_nt.nd (cI fY (cI pE (pv 1) aL) (aS D_dt (hm hr) (yQ hok) rfl (a8 (pv 2) aC))))))
   (aB (cK (bX vJ (pv 1) (cU T.nR rfl) (c6 _)) (aD (d4 hok PySem.F.excBase_Exception T.eJ rfl)) bD)
   (aD (aP (pv 1)))))))),?_⟩
 refine⟨_,rfl,a,_,rfl,.inl hS,rfl,_,rfl,?_⟩;refine cG (fun c=>?_) (fun c=>?_)
 ·have c:ns.length=0:=by simpa using c
  exact EZ (k2 (by unfold RM.dC;rw[ah (.inl c)]))
 have c:¬ns.length=0:=by simpa using c
 refine⟨_,rfl,a,_,rfl,.inl hS,_,_,rfl,rfl,_,rfl,?_⟩;refine cG (fun c2=>?_) (fun c2=>?_)
 ·have c2:2<ns.length:=by have:=bp c2;rw[el]at this;omega
  exact k2 (by unfold RM.dC;rw[ah (.inr c2)])
 have c2:¬2<ns.length:=by intro z;exact c2 (decide_eq_true (by rw[el];omega))
 have n1:¬(ns.length=0\/2<ns.length):=by omega
 refine(fun(rest:¬(1<ns.length/\ns.head?=some 48)->?R)=>?main) ?hr;case main=>
  refine⟨_,rfl,a,_,rfl,.inl hS,_,_,rfl,rfl,_,rfl,?_⟩;refine cG (fun c3=>?_) (fun c3=>?_)
  ·have c3:1<ns.length:=by have:=bp c3;rw[el]at this;omega
   obtain⟨y,hy⟩:∃y,ns[0]? =some y:=⟨ns[0],bq (by omega)⟩
   refine⟨_,rfl,a,_,_,_,rfl,rfl,hS,bI (v:=V.int y) (by decide) (by rw[ba];show ns[0]?.map V.int=_;rw[hy];rfl),rfl,_,rfl,?_⟩;have hh:ns.head?=some y:=by rw[List.head?_eq_getElem?];exact hy
   refine cG (fun c4=>?_) (fun c4=>?_)
   ·have c4:y=48:=by simpa using c4
    exact k2 (by unfold RM.dC;rw[ag n1,ah ⟨c3,by rw[hh,c4]⟩])
   ·have c4:¬y=48:=by simpa using c4
    exact rest fun z=>c4 (by have:=z.2;rw[hh]at this;exact Option.some.inj this)
  ·have c3:¬1<ns.length:=by intro z;exact c3 (decide_eq_true (by rw[el];omega))
   exact HZ (rest fun z=>c3 z.1)
 case hr=>
  intro c3;have nb:∀o,ns.foldlM RM.hY 0=o->RM.dC ns=o.bind fun n=>if 64<n then none else some n:=fun o e=>by unfold RM.dC;rw[ag n1,ag c3,e]
  refine⟨_,rfl,a,rfl,⟨_,hS⟩,gV (K:=K) (a:=a) (xs:=ns.map V.int) (fun i σ H2=>H2=H/\∃(n:Int)(v:Option V),σ=[some (.ref a),some (.int n),v]/\(ns.take i).foldlM RM.hY 0=some n)
   ⟨rfl,0,none,rfl,rfl⟩ (fun i σ H2 _ ⟨e,_⟩=>by rw[e];exact hS) ?_ ?_⟩
  ·rintro i y σ H2 hi ⟨rfl,n,v,rfl,hn⟩;obtain⟨z,hz,rfl⟩:=D1 hi;refine⟨_,rfl,_,_,rfl,rfl,.inr ⟨by decide,by decide⟩,_,rfl,z,rfl,fun q hq=>⟨_,_,rfl,rfl,rfl,_,_,rfl,?_⟩,fun hq=>?_⟩
   ·rw[RM.qZ hn hz];unfold RM.hY;rw[hq];rfl
   ·refine k2 ?_;have e:RM.hY n z=none:=by unfold RM.hY;rw[hq];rfl
    rw[nb _ (RM.zX hn hz e)];rfl
  ·rintro σ H2 ⟨rfl,n,v,rfl,hn⟩;rw[el,bc (au _)]at hn;refine⟨_,rfl,_,_,rfl,rfl,_,rfl,?_⟩;refine cG (fun c4=>?_) (fun c4=>?_)
   ·have c4:64<n:=by simpa using c4
    exact k2 (by rw[nb _ hn];show(if 64<n then none else some n)=none;rw[ah c4])
   ·have c4:¬64<n:=by simpa using c4
    exact⟨_,rfl,k1 n (by rw[nb _ hn];show(if 64<n then none else some n)=some n;rw[ag c4])⟩
abbrev s_ct:Stmt:=(top 31)
theorem sc_ct:aJ ["row","numbers","part"] ["row"] (aG s_ct):=fS
def NC:List Int->Option (Int×Int)
 |[a,b]=>some (a,b)
 |_=>none
noncomputable def sp_ct(K:W.Frag)(d:Adr):Sp:=fun vs H Q E=>∃(v:V)(ns:List Int),vs=[v]/\LI H v ns/\ns.length<=4096/\(∀z,RM.dE ns=some z->∀r H',a9 H H'->T2 H' r z->Q r H')/\(RM.dE ns=none->E (.ref d.bZ) none H)
theorem ok_ct(F:Fun K "corner_told" "corner_told" s_ct f fd)(T:Txt K mg base d)(D_pb:aO P w K mg base CX0 1 "parts_between" ["row","mark"] (sp_pb K d))(D_nt:aO P w K mg base CXf 2 "number_told" ["row"] (sp_nt K d)):bJ P w K mg base CXf 3 f fd ["row"] (sp_ct K d):=by
 refine okX F sc_ct (fun vs H Q E h=>by obtain⟨v,ns,rfl,_⟩:=h;rfl) (fun _ _ _ _ H _ Q E hr hok h=>?_);have hu:=bB hr;obtain⟨v,ns,rfl,⟨a,rfl,ha⟩,hl,k1,k2⟩:=h;refine⟨_,(aB (vC hok (i:=1) (own:=[("part",2)]) rfl sc_ct.nd rfl rfl (by exact rH rfl rfl rfl rfl) (cP (aS D_pb (hm hr) aV rfl (a8 (pv 0) (a8 (cU T.KH rfl) aC)))) (cZ (by first|decide+kernel|kernel_rfl)) (fun _ _ _ _ _=>(pgN (i:=2) sc_ct.nd)) (fun _ _ _ _ _ hk=>(aS D_nt (hm hr) (HG (E':=fun c=>E c none H) hk) rfl (a8 (pv 2) aC))))
   (aB (cK (bX LD (bG bP (by rfl) T.len PySem.boot_len (a8 (pv 1) aC)) aL (c6 _)) (aD (d4 hok PySem.F.excBase_Exception T.eJ rfl)) bD)
   (aD (aP (d7 (a8 (cD lP (pv 1) aL (fun _ _=>rfl)) (a8 (cD lP (pv 1) aL (fun _ _=>rfl)) aC))))))),?_⟩
 refine⟨_,rfl,a,ns,44,rfl,SqL.of ha,hl,fun p H1 sm fp ⟨xs,hp,pr⟩=>⟨p,rfl,⟨_,SqL.of hp⟩,fun D hD=>gH (K:=K) (a:=p) (xs:=xs)
  (fun i H2=>a9 H1 H2/\∃zs,H2 D=some (.lst (zs.map V.int))/\((RM.parts 44 ns).take i).mapM RM.dC=some zs) ⟨a9.upd hD,[],a7,rfl⟩ (fun i H2 _ ⟨s2,_⟩=>s2.seq (SqL.of hp)) ?_ ?_⟩⟩
 ·rintro i x H2 hx ⟨s2,zs,h2,hz⟩;obtain⟨row,oz,rq⟩:=pairs_at pr hx;have hm:=az oz;have l1:zs.length<=4097:=by have:=RM.sW hz;have h3:=RM.pD 44 ns;rw[bu]at this;omega
  refine⟨rfl,?_⟩;refine⟨_,rfl,x,row,rfl,rq.mono s2,df (RM.iG hm) hl,fun z ql=>⟨_,h2,by rw[ai];exact few l1,a9.put s2 hD,zs++[z],by rw[a7,cg];rfl,RM.pJ hz oz ql⟩,fun hn=>k2 ?_⟩;unfold RM.dE;rw[RM.pK hm hn];rfl
 ·rintro H2 ⟨s2,zs,h2,hz⟩;rw[pairs_len pr,bc (au _)]at hz;refine⟨_,rfl,D,_,rfl,.inl (SqL.of h2),rfl,_,rfl,?_⟩;have hc:RM.dE ns=NC zs:=by
   unfold RM.dE;rw[hz];match zs with
   |[]=>rfl
   |[_]=>rfl
   |[_,_]=>rfl
   |_::_::_::_=>rfl
  refine cG (fun c=>k2 ?_) (fun c=>?_)
  ·rw[hc];match zs,c with
   |[],_=>rfl
   |[_],_=>rfl
   |[_,_],c=>simp at c
   |_::_::_::_,_=>rfl
  ·match zs,c,hc,h2 with
   |[],c,_,_=>simp at c
   |[_],c,_,_=>simp at c
   |_::_::_::_,c,_,_=>simp at c;omega
   |[x,y],_,hc,h2=>refine⟨_,rfl,D,_,_,_,rfl,rfl,SqL.of h2,bI (v:=V.int x) (by decide) rfl,_,rfl,D,_,_,_,rfl,rfl,SqL.of h2,bI (v:=V.int y) (by decide) rfl,(by show 2<=sizeLine;decide),fun t ht=>?_⟩;exact k1 (x,y) hc _ _ (a9.trans sm (a9.trans s2 (a9.upd ht))) ⟨t,rfl,a7⟩
abbrev s_wt:Stmt:=(top 32)
theorem sc_wt:aJ ["row","corners","part"] ["row"] (aG s_wt):=fS
noncomputable def sp_wt(K:W.Frag)(d:Adr):Sp:=fun vs H Q E=>∃(v:V)(ns:List Int),vs=[v]/\LI H v ns/\ns.length<=4096/\(∀z,RM.iT ns=some z->∀r H',a9 H H'->H r=none->LT H' (.ref r) z->Q (.ref r) H')/\(RM.iT ns=none->E (.ref d.bZ) none H)
theorem ok_wt(F:Fun K "walk_told" "walk_told" s_wt f fd)(T:Txt K mg base d)(D_pb:aO P w K mg base CX0 1 "parts_between" ["row","mark"] (sp_pb K d))(D_ct:aO P w K mg base CXf 3 "corner_told" ["row"] (sp_ct K d)):bJ P w K mg base CXf 4 f fd ["row"] (sp_wt K d):=by
 refine okX F sc_wt (fun vs H Q E h=>by obtain⟨v,ns,rfl,_⟩:=h;rfl) (fun _ _ _ _ H _ Q E hr hok h=>?_);have hu:=bB hr;obtain⟨v,ns,rfl,⟨a,rfl,ha⟩,hl,k1,k2⟩:=h;refine⟨_,(aB (vC hok (i:=1) (own:=[("part",2)]) rfl sc_wt.nd rfl rfl (by exact rH rfl rfl rfl rfl) (cP (aS D_pb (hm hr) aV rfl (a8 (pv 0) (a8 (cU T.KI rfl) aC)))) (cZ (by first|decide+kernel|kernel_rfl)) (fun _ _ _ _ _=>(pgN (i:=2) sc_wt.nd)) (fun _ _ _ _ _ hk=>(aS D_ct (hm hr) (HG (E':=fun c=>E c none H) hk) rfl (a8 (pv 2) aC))))
   (aB (cK (bX HJ (bG bP (by rfl) T.len PySem.boot_len (a8 (pv 1) aC)) (cU T.pU rfl) (c6 _)) (aD (d4 hok PySem.F.excBase_Exception T.eJ rfl)) bD)
   (aD (aP (pv 1))))),?_⟩
 refine⟨_,rfl,a,ns,32,rfl,SqL.of ha,hl,fun p H1 sm fp ⟨xs,hp,pr⟩=>⟨p,rfl,⟨_,SqL.of hp⟩,fun D hD=>gH (K:=K) (a:=p) (xs:=xs)
  (fun i H2=>a9 H1 H2/\∃ys zs,H2 D=some (.lst ys)/\Paired (T2 H2) ys zs/\((RM.parts 32 ns).take i).mapM RM.dE=some zs) ⟨a9.upd hD,[],[],a7,.nil,rfl⟩ (fun i H2 _ ⟨s2,_⟩=>s2.seq (SqL.of hp)) ?_ ?_⟩⟩
 ·rintro i x H2 hx ⟨s2,ys,zs,h2,py,hz⟩;obtain⟨row,oz,rq⟩:=pairs_at pr hx;have hm:=az oz;have l1:ys.length<=4097:=by have:=RM.sW hz;have h3:=RM.pD 32 ns;rw[bu]at this;have:=pairs_len py;omega
  refine⟨rfl,?_⟩;refine⟨_,rfl,x,row,rfl,rq.mono s2,df (RM.iG hm) hl,fun z ql r H3 s3 t3=>?_,fun hn=>k2 ?_⟩
  ·have h3:=s3 _ _ h2;refine⟨ys,h3,few l1,a9.put (a9.trans s2 s3) hD,ys++[r],zs++[z],a7,aW (t3.upd h3) (aH (fun _ _ q=>(q.mono s3).upd h3) py),RM.pJ hz oz ql⟩
  ·unfold RM.iT;rw[RM.pK hm hn];rfl
 ·rintro H2 ⟨s2,ys,zs,h2,py,hz⟩;rw[pairs_len pr,bc (au _)]at hz;have hc:RM.iT ns=(if zs.length<4 then none else some zs):=by unfold RM.iT;rw[hz];rfl
  have ly:=pairs_len py;refine⟨_,rfl,D,_,rfl,.inl (SqL.of h2),_,_,rfl,rfl,_,rfl,?_⟩;refine cG (fun c=>k2 ?_) (fun c=>?_)
  ·have c:=bp c;rw[hc,ah (by omega)]
  ·have c:¬zs.length<4:=fun z=>c (decide_eq_true (by omega))
   exact⟨_,rfl,k1 zs (by rw[hc,ag c]) D H2 (a9.trans sm s2) (sm.free hD) ⟨D,ys,rfl,h2,py⟩⟩
abbrev s_wt2:Stmt:=(top 33)
theorem sc_wt2:aJ ["t","rows","rest","row"] ["t"] (aG s_wt2):=fS
noncomputable def sp_wt2(K:W.Frag)(d:Adr):Sp:=fun vs H Q E=>∃(a:Addr)(ns:List Int),vs=[.ref a]/\SqL K H a (ns.map V.int)/\ns.length<=4096/\(∀z,RM.eG ns=some z->∀r H',a9 H H'->LLT H' r z->Q r H')/\(RM.eG ns=none->E (.ref d.bZ) none H)
theorem ok_wt2(F:Fun K "walks_told" "walks_told" s_wt2 f fd)(T:Txt K mg base d)(D_pb:aO P w K mg base CX0 1 "parts_between" ["row","mark"] (sp_pb K d))(D_wt:aO P w K mg base CXf 4 "walk_told" ["row"] (sp_wt K d)):bJ P w K mg base CXf 5 f fd ["t"] (sp_wt2 K d):=by
 refine okX F sc_wt2 (fun vs H Q E h=>by obtain⟨a,ns,rfl,_⟩:=h;rfl) (fun _ _ _ _ H _ Q E hr hok h=>?_);have hu:=bB hr;obtain⟨a,ns,rfl,hS,hl,k1,k2⟩:=h;refine⟨_,(aB (psN (i:=1) sc_wt2.nd (aS D_pb (hm hr) aV rfl (a8 (pv 0) (a8 (cU T.zS rfl) aC))))
   (aB (psN (i:=2) sc_wt2.nd (AZ PySem.F.plainAttrs_list PySem.F.slot_list_pop PySem.F.type_list_pop B8 (pv 1)))
   (aB (cK (PW.pt (yK (bX vJ (bG bP (by rfl) T.len PySem.boot_len (a8 (pv 2) aC)) aL (c6 _)) (sM (bX iX (bG bP (by rfl) T.len PySem.boot_len (a8 (pv 1) aC)) aL (c6 _))))) (aD (d4 hok PySem.F.excBase_Exception T.eJ rfl)) bD)
   (aD (aP (MA hok (own:=[("row",3)]) rfl sc_wt2.nd (cP (pv 1)) (cZ (by first|decide+kernel|kernel_rfl)) (fun _ _ _ _ _=>(pgN (i:=3) sc_wt2.nd)) (fun _ _ _ _ _ hk=>(aS D_wt (hm hr) (HG (E':=fun c=>E c none H) hk) rfl (a8 (pv 3) aC))))))))),?_⟩
 refine⟨_,rfl,a,ns,10,rfl,hS,hl,fun p H1 sm fp ⟨xs,hp,pr⟩=>?_⟩;have lp:=RM.pD 10 ns;have lx:=pairs_len pr;have jl:RM.parts 10 ns≠[]:=RM.yR 10 ns;have l0:0<(RM.parts 10 ns).length:=fh.mpr jl;obtain⟨last,wy⟩:∃last,(RM.parts 10 ns)[(RM.parts 10 ns).length - 1]? =some last:=⟨_,bq (by omega)⟩
 obtain⟨y,hy,ly⟩:=iV pr wy;have hgl:(RM.parts 10 ns).getLast?=some last:=by rw[List.getLast?_eq_getElem?];exact wy
 obtain⟨b,rfl,nb,hb⟩:=LLI.apart hp (az hy) ly;refine⟨_,rfl,.inl ⟨rfl,_,SqL.of hp⟩,p,xs,.ref b,rfl,rfl,hp,by rw[lx];exact hy,?_⟩;have Ae:(upd H1 p (.lst xs.dropLast)) b=some (.lst (last.map V.int)):=by rw[aA nb];exact hb
 have hp2:(upd H1 p (.lst xs.dropLast)) p=some (.lst xs.dropLast):=a7;have s2:a9 H (upd H1 p (.lst xs.dropLast)):=a9.put sm fp;have pr2:Paired (LI (upd H1 p (.lst xs.dropLast))) xs.dropLast (RM.parts 10 ns).dropLast:=by refine aH (fun v r ⟨h1,h2,h3⟩=>?_) (eV (lJ pr));obtain⟨c,rfl,nc,hc⟩:=LLI.apart hp h1 h3;exact⟨c,rfl,by rw[aA nc];exact hc⟩
 have ld:xs.dropLast.length=(RM.parts 10 ns).dropLast.length:=pairs_len pr2;refine⟨_,rfl,b,_,rfl,.inl (SqL.of Ae),_,_,rfl,rfl,_,rfl,?_⟩;refine cG (fun c=>?_) (fun c=>?_)
 ·have c:0<last.length:=by have:=bp c;rw[ai]at this;omega
  have hx:(RM.parts 10 ns).getLast?≠some []:=by rw[hgl];intro z;cases z;simp at c
  refine EZ (k2 ?_);unfold RM.eG;rw[ah (.inl hx)]
 have c:last=[]:=by
  apply cy;have:¬((0:Int)<((last.map V.int).length:Int)):=fun z=>c (decide_eq_true z)
  rw[ai]at this;omega
 refine⟨_,rfl,p,_,rfl,.inl (SqL.of hp2),rfl,_,rfl,?_⟩;refine cG (fun c2=>k2 ?_) (fun c2=>?_)
 ·have c2:xs.dropLast.length=0:=by have:=bp c2;simpa using this
  unfold RM.eG;rw[ah (.inr (cy (by omega)))]
 have c2:¬(RM.parts 10 ns).dropLast=[]:=fun z=>c2 (decide_eq_true (by rw[ld,z];rfl))
 have hw:RM.eG ns=(RM.parts 10 ns).dropLast.mapM RM.iT:=by unfold RM.eG;rw[ag (by rintro(z|z);exact z (by rw[hgl,c]);exact c2 z)]
 refine⟨_,rfl,p,rfl,⟨_,SqL.of hp2⟩,fun D hD=>gH (K:=K) (a:=p) (xs:=xs.dropLast)
  (fun i H2=>a9 (upd H1 p (.lst xs.dropLast)) H2/\∃ys zs,H2 D=some (.lst ys)/\Paired (fun v z=>∃b,v=.ref b/\b≠D/\LT H2 (.ref b) z) ys zs/\((RM.parts 10 ns).dropLast.take i).mapM RM.iT=some zs) ⟨a9.upd hD,[],[],a7,.nil,rfl⟩ (fun i H2 _ ⟨s2,_⟩=>s2.seq (SqL.of hp2)) ?_ ?_⟩
 ·rintro i x H2 hx ⟨s3,ys,zs,h2,py,hz⟩;obtain⟨row,oz,rq⟩:=pairs_at pr2 hx;have hm:=az oz;have l1:ys.length<=4097:=by
   have:=RM.sW hz;rw[bu]at this;have:=pairs_len py;have:(RM.parts 10 ns).dropLast.length<=(RM.parts 10 ns).length:=by rw[gc];omega
   omega
  refine⟨rfl,?_⟩;refine⟨_,rfl,x,row,rfl,rq.mono s3,df (RM.iG (nM hm)) hl,fun z ql r H3 s4 fr t3=>?_,fun hn=>k2 ?_⟩
  ·have h3:=s4 _ _ h2;have nr:r≠D:=fun z=>by rw[z,h2]at fr;cases fr
   refine⟨ys,h3,few l1,a9.put (a9.trans s3 s4) hD,ys++[.ref r],zs++[z],a7,aW ⟨r,rfl,nr,t3.upd h3 nr⟩ (aH (fun _ _ ⟨b,e,n,q⟩=>⟨b,e,n,(q.mono s4).upd h3 n⟩) py),RM.pJ hz oz ql⟩
  ·rw[hw];exact RM.pK hm hn
 ·rintro H2 ⟨s3,ys,zs,h2,py,hz⟩;rw[ld,bc (au _)]at hz;exact k1 zs (by rw[hw,hz]) _ H2 (a9.trans s2 s3) ⟨D,ys,rfl,h2,aH (fun _ _ ⟨b,e,n,q⟩=>by rw[e];exact q) py⟩
abbrev s_far:Stmt:=(top 37)
theorem sc_far:aJ ["walks","feet","walk","number","corner","before","y"] ["walks"] (aG s_far):=fS
noncomputable def sp_far(K:W.Frag)(d:Adr):Sp:=fun vs H Q _=>∃(v:V)(W:List Roof.Walk),vs=[v]/\LLT H v (RM.iWs W)/\RM.sS W/\∀a kvs H',a9 H H'->H a=none->D2 H' a kvs->(∀x y:Nat,((((x:Int),(y:Int)):PI)∈kvs.map (·.1))↔RM.dN W x y=true)->Q (.ref a) H'
theorem ok_far(F:Fun K "feet_across_rows" "feet_across_rows" s_far f fd)(T:Txt K mg base d):bJ P w K mg base CX0 1 f fd ["walks"] (sp_far K d):=by
 refine F.ok sc_far (fun vs H Q E h=>by obtain⟨v,W,rfl,_⟩:=h;rfl) (fun _ _ _ _ H _ Q E hr h=>?_);have hu:=bB hr;obtain⟨v,W,rfl,⟨a,xs,rfl,ha,pr⟩,ok,k⟩:=h;have ze:=RM.JW ok;refine⟨_,(aB (psN (i:=1) sc_far.nd dG)
   (aB (bV PassesOwn.never rfl (cP (pv 0)) (pgN (i:=2) sc_far.nd) (aD (bV PassesOwn.never rfl (CM rfl T.enumerate (a8 (pv 2) aC)) (gO rfl (aT (pgN (i:=3) sc_far.nd) (aT (pgN (i:=4) sc_far.nd) d9))) (aB (psN (i:=5) sc_far.nd (cD lP (pv 2) (cI wX (pv 3) aL) (fun _ _=>rfl)))
   (aD (cK (bX iX (cD c7 (pv 4) aL (fun _ _=>rfl)) (cD c7 (pv 5) aL (fun _ _=>rfl)) (c6 _)) (aD (bV PassesOwn.never rfl (EB rfl T.range (a8 (bG (FR rfl) (by rfl) T.min (by rfl) (a8 (cD c7 (pv 4) aL (fun _ _=>rfl)) (a8 (cD c7 (pv 5) aL (fun _ _=>rfl)) aC))) (a8 (bG (FT rfl) (by rfl) T.max (by rfl) (a8 (cD c7 (pv 4) aL (fun _ _=>rfl)) (a8 (cD c7 (pv 5) aL (fun _ _=>rfl)) aC))) aC))) (pgN (i:=6) sc_far.nd) (aD (eS hu (pv 1) (d7 (a8 (cD c7 (pv 4) aL (fun _ _=>rfl)) (a8 (pv 6) aC))) jQ rfl)))) bD))))))
   (aD (aP (pv 1))))),?_⟩
 refine fun p hp=>?_
 have s1:a9 H (upd H p (.dT [])):=a9.upd hp;refine⟨_,rfl,a,rfl,⟨_,s1.seq (SqL.of ha)⟩,gV (K:=K) (a:=a) (xs:=xs) (fun i σ H2=>∃(kvs:List (PI×V))(v2 v3 v4 v5 v6:Option V),σ=[some (.ref a),some (.ref p),v2,v3,v4,v5,v6]/\a9 H H2/\D2 H2 p kvs/\RM.Tbl kvs (RM.jM (RM.iWs W) i))
  ⟨[],none,none,none,none,none,rfl,s1,a7,RM.Tbl.nil.iff fun q=>(RM.zU _ q).symm⟩ (fun i σ H2 _ ⟨_,_,_,_,_,_,_,s2,_⟩=>s2.seq (SqL.of ha)) ?_ ?_⟩
 ·rintro i y σ H2 hi ⟨kvs,v2,v3,v4,v5,v6,rfl,s2,hD,tb⟩;obtain⟨w,hw,b,ys,rfl,hb,ui⟩:=pairs_at pr hi;have hwm:=az hw;have lw:=pairs_len ui;refine⟨_,rfl,b,ys,rfl,s2.seq (SqL.of hb),zT (K:=K) (a:=b) (xs:=ys) (fun k σ H3=>∃(kvs:List (PI×V))(v3 v4 v5 v6:Option V),σ=[some (.ref a),some (.ref p),some (.ref b),v3,v4,v5,v6]/\a9 H H3/\D2 H3 p kvs/\RM.Tbl kvs (RM.m6 (RM.iWs W) i w k))
   ⟨kvs,v3,v4,v5,v6,rfl,s2,hD,tb.iff fun q=>(RM.BX _ _ _ q).symm⟩ (fun i σ H2 _ ⟨_,_,_,_,_,_,s2,_⟩=>s2.seq (SqL.of hb)) ?_ ?_⟩
  ·rintro j z σ H3 Tt hj ⟨kvs,v3,v4,v5,v6,rfl,s3,hD,tb⟩ hT;obtain⟨c,hc,ca,rfl,hca⟩:=pairs_at ui hj;have hjl:j<ys.length:=(ak.mp hj).1;have qo:RM.n4 w.length j<w.length:=by unfold RM.n4;split<;>omega
   obtain⟨e,he⟩:∃e,w[RM.n4 w.length j]? =some e:=⟨_,bq qo⟩
   obtain⟨ye,hye,ea,rfl,Ce⟩:=iV ui he;have s4:a9 H (upd H3 Tt (.tup [.int (j:Nat),.ref ca])):=a9.trans s3 (a9.upd hT);have o1:=ze w hwm c (az hc);have o2:=ze w hwm e (az he);have nT:p≠Tt:=aI hD hT;have ka:D2 (upd H3 Tt (.tup [.int (j:Nat),.ref ca])) p kvs:=by unfold D2;rw[aA nT];exact hD
   refine⟨Tt,_,rfl,SqT.of a7,rfl,_,_,rfl,_,_,rfl,rfl,_,rfl,_,rfl,_,_,rfl,rfl,b,_,_,_,rfl,rfl,s4.seq (SqL.of hb),IZ hjl (by unfold RM.n4 at hye;rw[lw];exact hye),?_⟩;generalize (upd H3 Tt (.tup [.int (j:Nat),.ref ca]))=H4 at s4 ka ⊢;refine⟨_,rfl,ca,_,_,_,rfl,rfl,SqT.of (s4 _ _ hca),bI (by decide) rfl,_,rfl,ea,_,_,_,rfl,rfl,SqT.of (s4 _ _ Ce),bI (by decide) rfl,rfl,_,rfl,?_⟩;refine cG (fun cq=>?_) (fun cq=>?_)
   ·have cq:c.1=e.1:=by simpa using cq
    refine⟨_,rfl,ca,_,_,_,rfl,rfl,SqT.of (s4 _ _ hca),bI (by decide) rfl,_,rfl,ea,_,_,_,rfl,rfl,SqT.of (s4 _ _ Ce),bI (by decide) rfl,_,_,rfl,_,rfl,ca,_,_,_,rfl,rfl,SqT.of (s4 _ _ hca),bI (by decide) rfl,_,rfl,ea,_,_,_,rfl,rfl,SqT.of (s4 _ _ Ce),bI (by decide) rfl,_,_,rfl,_,_,rfl,⟨by split<;>omega,by split<;>omega,by split<;>omega,by split<;>omega⟩,?_⟩;have emin:(if e.2<c.2 then e.2 else c.2)=min c.2 e.2:=by split<;>omega
    have emax:(if e.2>c.2 then e.2 else c.2)=max c.2 e.2:=by split<;>omega
    rw[emin,emax];refine pV (lo:=min c.2 e.2) (n:=(max c.2 e.2 - min c.2 e.2).toNat) (fun m σ H5=>∃(kvs:List (PI×V))(v6:Option V),σ=[some (.ref a),some (.ref p),some (.ref b),some (.int (j:Nat)),some (.ref ca),some (.ref ea),v6]/\a9 H H5/\D2 H5 p kvs/\RM.Tbl kvs (fun q=>RM.m6 (RM.iWs W) i w j q\/(q.1=c.1/\min c.2 e.2<=q.2/\q.2<min c.2 e.2+m)))
     ⟨kvs,v6,rfl,s4,ka,tb.iff fun q=>⟨.inl,fun z=>z.elim id fun z=>by omega⟩⟩ ?_ ?_
    ·rintro m σ H5 hm ⟨kvs,v6,rfl,s5,lr,tb⟩;refine⟨_,rfl,_,rfl,ca,_,_,_,rfl,rfl,SqT.of (s5 _ _ hca),bI (by decide) rfl,_,rfl,(by show 2<=sizeLine;decide),fun t ht=>?_⟩;have nt:p≠t:=aI lr ht;have hD6:D2 (upd H5 t (.tup [.int c.1,.int (min c.2 e.2+m)])) p kvs:=by unfold D2;rw[aA nt];exact lr
     have hl:kvs.length<=4225:=by
      rw[<- RM.KY];refine tb.len fun q z=>?_
      rcases z with z|z
      ·exact RM.F5 ze hwm z
      ·exact RM.DF (by omega) (by omega) (by omega) (by omega)
     refine⟨p,_,rfl,D2.put (p:=(c.1,min c.2 e.2+m)) hD6 a7 (.bl true) (few hl),RM.cR kvs (c.1,min c.2 e.2+m) (.bl true),_,rfl,a9.put (a9.trans s5 (a9.upd ht)) hp,a7,(tb.put _ _).iff fun q=>?_⟩;constructor
     ·rintro((z|z)|z)
      ·exact .inl z
      ·exact .inr (by omega)
      ·subst z;exact .inr ⟨rfl,by simp only;omega,by simp only;omega⟩
     ·rintro(z|⟨z1,z2,z3⟩)
      ·exact .inl (.inl z)
      ·by_cases hq:q.2=min c.2 e.2+m
       ·exact .inr (Prod.ext z1 hq)
       ·exact .inl (.inr ⟨z1,z2,by omega⟩)
    ·rintro σ H5 ⟨kvs,v6,rfl,s5,lr,tb⟩;refine⟨kvs,_,_,_,_,rfl,s5,lr,tb.iff fun q=>?_⟩;rw[RM.tJ];constructor
     ·rintro(z|⟨z1,z2,z3⟩)
      ·exact .inl z
      ·exact .inr ⟨c,e,hc,he,cq,z1.symm,z2,by omega⟩
     ·rintro(z|⟨c',e',h1,h2,z0,z1,z2,z3⟩)
      ·exact .inl z
      ·rw[hc]at h1;rw[he]at h2;cases h1;cases h2;exact .inr ⟨z1.symm,z2,by omega⟩
   ·have cq:¬c.1=e.1:=by simpa using cq
    refine⟨kvs,_,_,_,_,rfl,s4,ka,tb.iff fun q=>?_⟩;rw[RM.tJ];constructor
    ·exact .inl
    ·rintro(z|⟨c',e',h1,h2,z0,z1,z2,z3⟩)
     ·exact z
     ·rw[hc]at h1;rw[he]at h2;cases h1;cases h2;exact absurd z0 cq
  ·rintro σ H3 ⟨kvs,v3,v4,v5,v6,rfl,s3,hD,tb⟩;refine⟨kvs,_,_,_,_,_,rfl,s3,hD,tb.iff fun q=>?_⟩;rw[lw];exact RM.F6 hw q
 ·rintro σ H2 ⟨kvs,v2,v3,v4,v5,v6,rfl,s2,hD,tb⟩;refine⟨_,rfl,k p kvs H2 s2 hp hD fun x y=>?_⟩;rw[tb.2,pairs_len pr];exact RM.BW W x y
abbrev s_cw:Stmt:=(top 38)
theorem sc_cw:aJ ["walks","feet","cells","y","inside","x"] ["walks"] (aG s_cw):=fS
noncomputable def sp_cw(K:W.Frag)(d:Adr):Sp:=fun vs H Q _=>∃(v:V)(W:List Roof.Walk),vs=[v]/\LLT H v (RM.iWs W)/\RM.sS W/\∀a H',a9 H H'->H a=none->D2 H' a (CS (RM.aR (RM.dN W)))->Q (.ref a) H'
theorem ok_cw(F:Fun K "cells_within" "cells_within" s_cw f fd)(T:Txt K mg base d)(D_far:aO P w K mg base CX0 1 "feet_across_rows" ["walks"] (sp_far K d)):bJ P w K mg base CX0 2 f fd ["walks"] (sp_cw K d):=by
 refine F.ok sc_cw (fun vs H Q E h=>by obtain⟨v,W,rfl,_⟩:=h;rfl) (fun _ _ _ _ H _ Q E hr h=>?_);have hu:=bB hr;obtain⟨v,W,rfl,hW,ok,k⟩:=h;refine⟨_,(aB (psN (i:=1) sc_cw.nd (aS D_far (hm hr) aV rfl (a8 (pv 0) aC)))
   (aB (psN (i:=2) sc_cw.nd dG)
   (aB (bV PassesOwn.never rfl (vD rfl T.range (a8 (cU T.j1 rfl) aC)) (pgN (i:=3) sc_cw.nd) (aB (psN (i:=4) sc_cw.nd jQ)
   (aD (bV PassesOwn.never rfl (vD rfl T.range (a8 (cU T.j1 rfl) aC)) (pgN (i:=5) sc_cw.nd) (aB (cK (fD (B0 hu (d7 (a8 (pv 5) (a8 (pv 3) aC))) (pv 1))) (aD (psN (i:=4) sc_cw.nd (M8 (pv 4)))) bD)
   (aD (cK (iE (pv 4) (fun _=>rfl)) (aD (eS hu (pv 2) (d7 (a8 (pv 5) (a8 (pv 3) aC))) jQ rfl)) bD)))))))
   (aD (aP (pv 2)))))),?_⟩
 refine⟨_,rfl,v,W,rfl,hW,ok,fun f kvs H1 s1 hf hF keys p hp=>?_⟩;generalize hFd:RM.dN W=F at keys k;have s2:a9 H1 (upd H1 p (.dT [])):=a9.upd hp;refine⟨_,rfl,by decide,by decide,pV (lo:=0) (n:=64) (fun y σ H2=>∃(v3 v4 v5:Option V),σ=[some v,some (.ref f),some (.ref p),v3,v4,v5]/\a9 H1 H2/\D2 H2 p (CS (RM.iU F y)))
  ⟨none,none,none,rfl,s2,a7⟩ ?_ ?_⟩
 ·rintro y σ H2 hy ⟨v3,v4,v5,rfl,s3,hD⟩;refine⟨_,rfl,by decide,by decide,pV (lo:=0) (n:=64) (fun x σ H3=>∃(v5:Option V),σ=[some v,some (.ref f),some (.ref p),some (.int (0+(y:Nat))),some (.bl (if x=0 then false else RM.bW F y (x - 1))),v5]/\a9 H1 H3/\D2 H3 p (CS (RM.iU F y++RM.mC F y x)))
   ⟨v5,rfl,s3,by rw[show RM.mC F y 0=[]from rfl,dj];exact hD⟩ ?_ ?_⟩
  ·rintro x σ H3 hx ⟨v5,rfl,s3,hD⟩;refine⟨_,rfl,_,rfl,(by show 2<=sizeLine;decide),fun t ht=>?_⟩;have nt:p≠t:=aI hD ht;have s4:a9 H1 (upd H3 t (.tup [.int (0+(x:Nat)),.int (0+(y:Nat))])):=a9.trans s3 (a9.upd ht);have ka:D2 (upd H3 t (.tup [.int (0+(x:Nat)),.int (0+(y:Nat))])) p (CS (RM.iU F y++RM.mC F y x)):=by unfold D2;rw[aA nt];exact hD
   refine⟨_,rfl,f,_,rfl,R2.get (p:=((0+(x:Int),0+(y:Int)):PI)) (D2.rd (s4 _ _ hF)) a7,_,rfl,?_⟩;generalize (upd H3 t (.tup [.int (0+(x:Nat)),.int (0+(y:Nat))]))=H4 at s4 ka ⊢;have hk:(RM.aK kvs ((0+(x:Int),0+(y:Int)):PI)).isSome=true↔F x y=true:=by rw[RM.aQ,Int.zero_add,Int.zero_add];exact keys x y
   have za:=RM.zI F y x;refine cG (fun c=>?_) (fun c=>?_)
   ·have c:=hk.mp c;refine⟨_,rfl,_,rfl,?_⟩;have eI:(!(if x=0 then false else RM.bW F y (x - 1)))=RM.bW F y x:=by rw[za,c];simp
    rw[eI];refine⟨_,rfl,_,rfl,?_⟩;refine cG (fun ci=>?_) (fun ci=>?_)
    ·refine⟨_,rfl,_,rfl,_,rfl,(by show 2<=sizeLine;decide),fun t ht=>?_⟩;have nt:p≠t:=aI ka ht;have lr:D2 (upd H4 t (.tup [.int (0+(x:Nat)),.int (0+(y:Nat))])) p (CS (RM.iU F y++RM.mC F y x)):=by unfold D2;rw[aA nt];exact ka
     refine⟨p,_,rfl,D2.put (p:=((0+(x:Int),0+(y:Int)):PI)) lr a7 (.bl true) ?_,some (.int (0+(x:Nat))),by simp,a9.put (a9.trans s4 (a9.upd ht)) hp,?_⟩
     ·rw[qF,aq];have h1:=RM.oZ F y;have h2:=RM.sF F y x;exact few (m:=5000) (by omega)
     ·unfold D2;rw[a7,Int.zero_add,Int.zero_add,show(((x:Int),(y:Int)):PI)=RM.iP (x,y)from rfl,DJ,RM.lH,ah ci,fk];intro z;rcases ay.mp z with z|z
      ·have:=RM.uX z;simp at this
      ·have:=RM.sE z;simp at this
    ·refine⟨some (.int (0+(x:Nat))),by simp,s4,?_⟩;rw[RM.lH,ag ci];exact ka
   ·have c:F x y=false:=by
     have c:¬F x y=true:=fun z=>c (hk.mpr z)
     simpa using c
    have eI:(if x=0 then false else RM.bW F y (x - 1))=RM.bW F y x:=by rw[za,c];simp
    rw[eI];refine⟨_,rfl,_,rfl,?_⟩;refine cG (fun ci=>?_) (fun ci=>?_)
    ·refine⟨_,rfl,_,rfl,_,rfl,(by show 2<=sizeLine;decide),fun t ht=>?_⟩;have nt:p≠t:=aI ka ht;have lr:D2 (upd H4 t (.tup [.int (0+(x:Nat)),.int (0+(y:Nat))])) p (CS (RM.iU F y++RM.mC F y x)):=by unfold D2;rw[aA nt];exact ka
     refine⟨p,_,rfl,D2.put (p:=((0+(x:Int),0+(y:Int)):PI)) lr a7 (.bl true) ?_,some (.int (0+(x:Nat))),by simp,a9.put (a9.trans s4 (a9.upd ht)) hp,?_⟩
     ·rw[qF,aq];have h1:=RM.oZ F y;have h2:=RM.sF F y x;exact few (m:=5000) (by omega)
     ·unfold D2;rw[a7,Int.zero_add,Int.zero_add,show(((x:Int),(y:Int)):PI)=RM.iP (x,y)from rfl,DJ,RM.lH,ah ci,fk];intro z;rcases ay.mp z with z|z
      ·have:=RM.uX z;simp at this
      ·have:=RM.sE z;simp at this
    ·refine⟨some (.int (0+(x:Nat))),by simp,s4,?_⟩;rw[RM.lH,ag ci];exact ka
  ·rintro σ H3 ⟨v5,rfl,s3,hD⟩;refine⟨_,_,_,rfl,s3,?_⟩;rw[RM.sC];exact hD
 ·rintro σ H2 ⟨v3,v4,v5,rfl,s3,hD⟩;exact⟨_,rfl,k p H2 (a9.trans s1 s3) (s1.free hp) hD⟩
abbrev s_miap:Stmt:=(top 40)
theorem sc_miap:aJ ["cell","cells","side","near","far"] ["cell","cells"] (aG s_miap):=fS
noncomputable def sp_miap(K:W.Frag)(d:Adr):Sp:=fun vs H Q _=>∃(v:V)(p:PI)(c:Addr)(C:List (Nat×Nat)),vs=[v,.ref c]/\T2 H v p/\R2 H c (CS C)/\∀H',a9 H H'->Q (.bl (RM.aZ C p 0||(RM.aZ C p 1||(RM.aZ C p 2||RM.aZ C p 3)))) H'
theorem ok_miap(F:Fun K "meets_in_a_point" "meets_in_a_point" s_miap f fd)(T:Txt K mg base d)(D_b:aO P w K mg base CX0 2 "beyond" ["place","direction"] (sp_b K d))(D_lo:aO P w K mg base CX0 1 "left_of" ["direction"] (sp_lo K d)):bJ P w K mg base CX0 3 f fd ["cell","cells"] (sp_miap K d):=by
 refine F.ok sc_miap (fun vs H Q E h=>by obtain⟨v,p,c,C,rfl,_⟩:=h;rfl) (fun _ _ _ _ H _ Q E hr h=>?_);have hu:=bB hr;obtain⟨aALL_SIDES,bF,c_ALL_SIDES⟩:=T.bF;obtain⟨v,p,c,C,rfl,hv,hC,k⟩:=h;have yes:∀i,i<4->RM.aZ C p i=true->(RM.aZ C p 0||(RM.aZ C p 1||(RM.aZ C p 2||RM.aZ C p 3)))=true:=by
  intro i hi e;have cs:i=0\/i=1\/i=2\/i=3:=by omega
  rcases cs with rfl|rfl|rfl|rfl<;>simp[e]
 refine⟨_,(aB (bV PassesOwn.never rfl (kB (fK bF rfl)) (pgN (i:=2) sc_miap.nd) (aB (psN (i:=3) sc_miap.nd (aS D_b (hm hr) aV rfl (a8 (pv 0) (a8 (pv 2) aC))))
   (aB (psN (i:=4) sc_miap.nd (aS D_b (hm hr) aV rfl (a8 (pv 0) (a8 (aS D_lo (hm hr) aV rfl (a8 (pv 2) aC)) aC))))
   (aD (cK (PW.pt (p8 (fD (d5 hu (pv 3) (pv 1))) (p8 (fD (d5 hu (pv 4) (pv 1))) (mY (fD (B0 hu (aS D_b (hm hr) aV rfl (a8 (pv 3) (a8 (aS D_lo (hm hr) aV rfl (a8 (pv 2) aC)) aC))) (pv 1))))))) (aD (aP jQ)) bD)))))
   (aD (aP jQ))),?_⟩
 refine⟨_,rfl,⟨_,c_ALL_SIDES _⟩,jL (K:=K) (a:=aALL_SIDES) (xs:=[.int 0,.int 1,.int 2,.int 3]) (fun i σ H2=>∃(v2 v3 v4:Option V),σ=[some v,some (.ref c),v2,v3,v4]/\a9 H H2/\∀j,j<i->RM.aZ C p j=false)
  ⟨none,none,none,rfl,(a9.refl _),by intro j hj;omega⟩ (fun i σ H2 _ _=>c_ALL_SIDES H2) ?_ ?_⟩
 ·rintro i x σ H2 hx ⟨v2,v3,v4,rfl,s2,old⟩;obtain⟨hi,rfl⟩:=mW hx;have Ar:RM.aZ C p i=false->∀j,j<i+1->RM.aZ C p j=false:=fun e j hj=>by
   by_cases h:j=i
   ·rw[h];exact e
   ·exact old j (by omega)
  refine⟨_,rfl,_,rfl,v,p,i,rfl,(hv.mono s2).c,hi,fun n H3 s3 t3=>?_⟩;refine⟨_,rfl,_,rfl,_,rfl,v,p,(i+1)%4,by simp,(hv.mono (a9.trans s2 s3)).c,by omega,fun f H4 s4 t4=>?_⟩;have xx:a9 H H4:=a9.trans s2 (a9.trans s3 s4);obtain⟨na,rfl,pb⟩:=t3.mono s4;obtain⟨fa,rfl,hfa⟩:=t4;refine⟨_,rfl,_,rfl,c,_,rfl,R2.get (p:=RM.aN p i) (hC.mono xx) pb,_,rfl,?_⟩;rw[AF];refine cG (fun c1=>?_) (fun c1=>HZ ?_)
  ·refine⟨_,rfl,_,rfl,c,_,rfl,R2.get (p:=RM.aN p ((i+1)%4)) (hC.mono xx) hfa,_,rfl,?_⟩;rw[AF];refine cG (fun c2=>?_) (fun c2=>HZ ?_)
   ·refine⟨_,rfl,_,rfl,_,rfl,.ref na,RM.aN p i,(i+1)%4,by simp,T2.c ⟨na,rfl,pb⟩,by omega,fun g H5 s5 t5=>?_⟩;obtain⟨ga,rfl,hga⟩:=t5;refine⟨_,rfl,c,_,rfl,R2.get (p:=RM.aN (RM.aN p i) ((i+1)%4)) (hC.mono (a9.trans xx s5)) hga,_,rfl,?_⟩;rw[AF];refine cG (fun c3=>?_) (fun c3=>?_)
    ·have e:RM.aZ C p i=true:=by unfold RM.aZ;rw[c1,c2,c3];rfl
     have h:=k H5 (a9.trans xx s5);rw[yes i hi e]at h;exact h
    ·exact⟨_,_,_,rfl,a9.trans xx s5,Ar (by unfold RM.aZ;rw[not_true c3];simp)⟩
   ·exact⟨_,_,_,rfl,xx,Ar (by unfold RM.aZ;rw[not_true c2];simp)⟩
  ·exact⟨_,_,_,rfl,xx,Ar (by unfold RM.aZ;rw[not_true c1];simp)⟩
 ·rintro σ H2 ⟨v2,v3,v4,rfl,s2,old⟩;have h:=k H2 s2;rw[old 0 (by decide),old 1 (by decide),old 2 (by decide),old 3 (by decide)]at h;exact h
abbrev s_ij:Stmt:=(top 39)
theorem sc_ij:aJ ["cells","waiting","reached","cell","side"] ["cells"] (aG s_ij):=fS
noncomputable def sp_ij(K:W.Frag)(d:Adr):Sp:=fun vs H Q _=>∃(c:Addr)(C:List (Nat×Nat))(c0:Nat×Nat)(r:List (Nat×Nat)),vs=[.ref c]/\R2 H c (CS C)/\C=c0::r/\C.Nodup/\C.length<=256/\∀H',a9 H H'->Q (.bl ((Roof.reach C C.length [c0] [c0]).length==C.length)) H'
theorem ok_ij(F:Fun K "is_joined" "is_joined" s_ij f fd)(T:Txt K mg base d)(D_b:aO P w K mg base CX0 2 "beyond" ["place","direction"] (sp_b K d)):bJ P w K mg base CX0 3 f fd ["cells"] (sp_ij K d):=by
 refine F.ok sc_ij (fun vs H Q E h=>by obtain⟨c,C,c0,r,rfl,_⟩:=h;rfl) (fun _ _ _ _ H _ Q E hr h=>?_);have hu:=bB hr;obtain⟨aALL_SIDES,bF,c_ALL_SIDES⟩:=T.bF;obtain⟨c,C,c0,r,rfl,hC,eC,nd,hl,k⟩:=h;have hc0:c0∈C:=by rw[eC];exact bb
 have cl:(CS C).length=C.length:=qF C;refine⟨_,(aB (psN (i:=1) sc_ij.nd (HB JJ (vF (C7 rfl) (by rfl) T.list (by rfl) (a8 (pv 0) aC)) JQ (JP aL)))
   (aB (psN (i:=2) sc_ij.nd dG)
   (aB (mZ PassesOwn.never (sO (pv 1) (fun _=>rfl)) (aB (psN (i:=3) sc_ij.nd (AZ PySem.F.plainAttrs_list PySem.F.slot_list_pop PySem.F.type_list_pop B8 (pv 1)))
   (aD (cK (PW.pt (p8 (fD (B0 hu (pv 3) (pv 0))) (mY (fD (d5 hu (pv 3) (pv 2)))))) (aB (eS hu (pv 2) (pv 3) jQ rfl)
   (aD (bV PassesOwn.never rfl (kB (fK bF rfl)) (pgN (i:=4) sc_ij.nd) (aD (cT (hV PySem.F.plainAttrs_list PySem.F.slot_list_append PySem.F.type_list_append cF (pv 1) (a8 (aS D_b (hm hr) aV rfl (a8 (pv 3) (a8 (pv 4) aC))) aC))))))) bD))))
   (aD (aP (n8 iX (bG lU (by rfl) T.len PySem.boot_len (a8 (pv 2) aC)) (bG lU (by rfl) T.len PySem.boot_len (a8 (pv 0) aC)) (c6 _))))))),?_⟩
 refine⟨_,rfl,c,_,rfl,hC,fun l qs qx hk=>⟨_,rfl,l,qs,rfl,SqL.of a7,fun p hp=>?_⟩⟩;have hk:=zB hk;obtain⟨q0,qr,rfl,t0⟩:∃q0 qr,qs=q0::qr/\T2 H q0 (RM.iP c0):=by
  rw[lW,eC,bf]at hk;cases hk with
  |cons t0 _=>exact⟨_,_,rfl,t0⟩
 rw[FK];have s1:a9 H (upd H l (.lst (q0::qr))):=a9.upd qx;have s2:a9 H (upd (upd H l (.lst (q0::qr))) p (.lst ((q0::qr).take 1))):=a9.trans s1 (a9.upd hp);have hp2:(upd (upd H l (.lst (q0::qr))) p (.lst ((q0::qr).take 1))) p=some (.lst [q0]):=a7;have fp:H p=none:=s1.free hp;generalize (upd (upd H l (.lst (q0::qr))) p (.lst ((q0::qr).take 1)))=H1 at s2 hp2 ⊢;refine fun rd yu=>?_
 have npr:p≠rd:=aI hp2 yu;have frd:H rd=none:=s2.free yu;dsimp only[j2,GH];refine mP (fun σ H2=>∃(xs:List V)(ws:List PI)(kvs:List (PI×V))(v3 v4:Option V),σ=[some (.ref c),some (.ref p),some (.ref rd),v3,v4]/\a9 H H2/\H2 p=some (.lst xs)/\Paired (T2 H2) xs ws/\D2 H2 rd kvs/\RM.Dfs C c0 (kvs.map (·.1)) ws/\xs.length<=1+4*kvs.length)
  (fun _ H2=>uF H2 p+5*(C.length+1 - lX H2 rd))
  ⟨[q0],[RM.iP c0],[],none,none,rfl,a9.trans s2 (a9.upd yu),by rw[aA npr];exact hp2,.cons (t0.mono (a9.trans s2 (a9.upd yu))) .nil,a7,RM.Dfs.first,by simp⟩ ?_ (fun _ _ _ _ f ⟨v,e,k,t,q⟩=>⟨v,e,k,t,f _ _ q⟩)
 rintro σ H2 ⟨xs,ws,kvs,v3,v4,rfl,s3,h1,pr,hD,dfs,len⟩;have hlr:=dfs.len;rw[ai]at hlr;refine⟨_,rfl,_,.inl ⟨_,SqL.of h1,rfl⟩,?_⟩;refine cG (fun cq=>?_) (fun cq=>?_)
 ·have jl:xs≠[]:=by intro z;rw[z]at cq;cases cq
  have hpos:0<xs.length:=fh.mpr jl;obtain⟨y,hy⟩:∃y,xs[xs.length - 1]? =some y:=⟨_,bq (by omega)⟩
  obtain⟨q,hq,ty⟩:=pairs_at pr hy;have lxw:=pairs_len pr;have ews:ws=ws.dropLast++[q]:=by
   have:ws≠[]:=by intro z;rw[z]at hq;cases hq
   have e:=(ir this).symm;rw[List.getLast_eq_getElem]at e;have e2:ws[ws.length - 1]'(by omega)=q:=by have:=(ak.mp (by rw[<- lxw];exact hq:ws[ws.length - 1]? =some q)).2;exact this
   rw[e2]at e;exact e
  refine⟨_,rfl,.inl ⟨rfl,_,SqL.of h1⟩,p,xs,y,rfl,rfl,h1,hy,?_⟩;have s4:a9 H (upd H2 p (.lst xs.dropLast)):=a9.put s3 fp;have uj:Paired (T2 (upd H2 p (.lst xs.dropLast))) xs.dropLast ws.dropLast:=aH (fun _ _ z=>z.upd h1) (eV pr);have ka:D2 (upd H2 p (.lst xs.dropLast)) rd kvs:=by unfold D2;rw[aA npr.symm];exact hD
  have Ak:T2 (upd H2 p (.lst xs.dropLast)) y q:=ty.upd h1;have h14:(upd H2 p (.lst xs.dropLast)) p=some (.lst xs.dropLast):=a7;have ml:uF H2 p=xs.length:=lO h1;have mt:lX H2 rd=kvs.length:=z8 hD;generalize (upd H2 p (.lst xs.dropLast))=H4 at s4 uj ka Ak h14 ⊢;rw[ews]at dfs;obtain⟨ya,rfl,um⟩:=Ak;have ld:xs.dropLast.length=xs.length - 1:=gc ..;have skip:(q∉RM.iW C\/q∈kvs.map (·.1))->∃(qd:List V)(ws:List PI)(yj:List (PI×V))(v3 v4':Option V),([some (.ref c),some (.ref p),some (.ref rd),some (.ref ya),v4]:List (Option V))=[some (.ref c),some (.ref p),some (.ref rd),v3,v4']/\a9 H H4/\H4 p=some (.lst qd)/\Paired (T2 H4) qd ws/\D2 H4 rd yj/\RM.Dfs C c0 (yj.map (·.1)) ws/\qd.length<=1+4*yj.length:=
   fun z=>⟨xs.dropLast,ws.dropLast,kvs,some (.ref ya),v4,rfl,s4,h14,uj,ka,dfs.skip hc0 z,by omega⟩
  have less:uF H4 p+5*(C.length+1 - lX H4 rd)<uF H2 p+5*(C.length+1 - lX H2 rd):=by rw[ml,mt,lO h14,z8 ka,ld];omega
  refine⟨_,rfl,_,rfl,c,_,rfl,R2.get (p:=q) (hC.mono s4) um,_,rfl,?_⟩;rw[AF];refine cG (fun c1=>?_) (fun c1=>HZ ⟨skip (.inl (by simpa using c1)),less⟩);have c1:q∈RM.iW C:=by simpa using c1
  refine⟨_,rfl,_,rfl,rd,_,rfl,R2.get (p:=q) ka.rd um,_,rfl,?_⟩;refine cG (fun c2=>?_) (fun c2=>?_)
  ·have c2:q∉kvs.map (·.1):=fun z=>by rw[(RM.aQ q kvs).mpr z]at c2;cases c2
   refine⟨_,rfl,_,rfl,rd,_,rfl,D2.put ka um (.bl true) (few (m:=256) (by omega)),?_⟩;rw[RM.fU _ c2];have hd5:=dfs.take c1 c2;have wa:H4 rd=some (.dT (kvF k2 kvs)):=ka;refine⟨_,rfl,⟨_,c_ALL_SIDES _⟩,jL (K:=K) (a:=aALL_SIDES) (xs:=[.int 0,.int 1,.int 2,.int 3]) (fun i σ H2=>∃(qd:List V)(v4:Option V),σ=[some (.ref c),some (.ref p),some (.ref rd),some (.ref ya),v4]/\a9 H H2/\H2 p=some (.lst qd)/\Paired (T2 H2) qd (ws.dropLast++([RM.aN q 0,RM.aN q 1,RM.aN q 2,RM.aN q 3].take i))/\D2 H2 rd (kvs++[(q,V.bl true)])/\T2 H2 (.ref ya) q)
    ⟨xs.dropLast,v4,rfl,a9.put s4 frd,by rw[aA npr];exact h14,by rw[take_zero,dj];exact aH (fun _ _ z=>z.rC wa (by intro _ z;cases z)) uj,a7,T2.rC ⟨ya,rfl,um⟩ wa (by intro _ z;cases z)⟩ (fun i σ H2 _ _=>c_ALL_SIDES H2) ?_ ?_⟩
   ·rintro i x σ H5 hx ⟨qd,v4,rfl,s5,h5,wj,lr,t5⟩;obtain⟨hi,rfl⟩:=mW hx;have l5:=pairs_len wj;rw[aq,bu,gc]at l5;refine⟨_,rfl,.inl ⟨rfl,_,SqL.of h5⟩,_,rfl,_,rfl,.ref ya,q,i,rfl,t5.c,hi,fun n H6 s6 t6=>?_⟩;have h6:=s6 _ _ h5;refine⟨p,qd,n,rfl,rfl,h6,few (m:=2000) (by omega),qd++[n],_,rfl,a9.put (a9.trans s5 s6) fp,a7,?_,by unfold D2;rw[aA npr.symm];exact s6 _ _ lr,(t5.mono s6).upd h6⟩;have e4:[RM.aN q 0,RM.aN q 1,RM.aN q 2,RM.aN q 3].take (i+1)=[RM.aN q 0,RM.aN q 1,RM.aN q 2,RM.aN q 3].take i++[RM.aN q i]:=by
     have cs:i=0\/i=1\/i=2\/i=3:=by omega
     rcases cs with rfl|rfl|rfl|rfl<;>rfl
    rw[e4,<- fk];exact aW (t6.upd h6) (aH (fun _ _ z=>(z.mono s6).upd h6) wj)
   ·rintro σ H5 ⟨qd,v4,rfl,s5,h5,wj,lr,t5⟩;have l5:=pairs_len wj;rw[aq,bu,gc]at l5;have l6:([RM.aN q 0,RM.aN q 1,RM.aN q 2,RM.aN q 3].length)=4:=rfl;have l7:([V.int 0,V.int 1,V.int 2,V.int 3].length)=4:=rfl;have Bv:=hd5.len;rw[aq,ai]at Bv;simp only[bo,dt]at Bv l5;refine⟨⟨qd,_,kvs++[(q,V.bl true)],_,_,rfl,s5,h5,wj,lr,by rw[cg];exact hd5,by rw[aq];simp only[bo,dt];omega⟩,?_⟩;rw[ml,mt,lO h5,z8 lr,aq];simp only[bo,dt];omega
  ·have c2:q∈kvs.map (·.1):=by
    refine(RM.aQ q kvs).mp ?_;cases e:(RM.aK kvs q).isSome with
    |true=>rfl
    |false=>rw[e]at c2;exact absurd rfl c2
   exact⟨skip (.inr c2),less⟩
 ·have e:xs=[]:=by
   cases xs with
   |nil=>rfl
   |cons _ _=>exact absurd rfl cq
  subst e;cases pr;refine⟨_,rfl,rd,_,rfl,hD.rd,_,rfl,c,_,rfl,hC.mono s3,rfl,?_⟩;have h:=k H2 s3;have e2:=dfs.done nd hc0;rw[ai]at e2;rw[<- e2]at h;refine cast (congrArg (fun b=>Q (V.bl b) H2) ?_) h;rw[eZ,eZ,cl,ck,decide_eq_true_iff,decide_eq_true_iff];constructor
  ·intro z;rw[z]
  ·intro z;have:=V.int.inj z;omega
abbrev s_ih:Stmt:=(top 41)
theorem sc_ih:aJ ["cells","cell"] ["cells"] (aG s_ih):=fS
theorem FQ(F:Nat->Nat->Bool):(RM.aR F).length<=4096:=by have:=RM.oZ F 64;rw[RM.DZ]at this;omega
theorem kW(F:Nat->Nat->Bool):(RM.aR F).Nodup:=(RM.m9 F).imp fun{a b} h e=>by rw[e,RM.cN]at h;omega
noncomputable def sp_ih(K:W.Frag)(d:Adr):Sp:=fun vs H Q _=>∃(c:Addr)(F:Nat->Nat->Bool),vs=[.ref c]/\D2 H c (CS (RM.aR F))/\∀H',a9 H H'->Q (.bl (Roof.isHouse (RM.aR F))) H'
theorem ok_ih(F:Fun K "is_house" "is_house" s_ih f fd)(T:Txt K mg base d)(D_miap:aO P w K mg base CX0 3 "meets_in_a_point" ["cell","cells"] (sp_miap K d))(D_ij:aO P w K mg base CX0 3 "is_joined" ["cells"] (sp_ij K d)):bJ P w K mg base CX0 4 f fd ["cells"] (sp_ih K d):=by
 refine F.ok sc_ih (fun vs H Q E h=>by obtain⟨c,F,rfl,_⟩:=h;rfl) (fun _ _ _ _ H _ Q E hr h=>?_);have hu:=bB hr;obtain⟨c,F,rfl,hC,k⟩:=h;have jt:=FQ F;have qh:=kW F;have Bk:=RM.AY (l:=RM.aR F);have ua:=@RM.tD F;generalize RM.aR F=C at*;have ekl:(kvF k2 (CS C)).length=C.length:=by rw[eZ,qF]
 refine⟨_,(aB (cK (PW.pt (yK (bX HJ (bG lU (by rfl) T.len PySem.boot_len (a8 (pv 0) aC)) aL (c6 _)) (sM (bX vJ (bG lU (by rfl) T.len PySem.boot_len (a8 (pv 0) aC)) (cU T.xI rfl) (c6 _))))) (aD (aP jQ)) bD)
   (aB (cK (iE (bG (N5 rfl) (by rfl) T.any (by rfl) (a8 (JT (sP (own:=[("cell",1)]) rfl sc_ih.nd (n6 (pv 0)) (cZ (by first|decide+kernel|kernel_rfl)) (fun _ _ _ _ _=>(pgN (i:=1) sc_ih.nd)) (fun _ _ _ _ _=>hO) (fun _ _ _ _ _=>(aS D_miap (hm hr) aV rfl (a8 (pv 1) (a8 (pv 0) aC)))))) aC)) (fun _=>rfl)) (aD (aP jQ)) bD)
   (aD (aP (aS D_ij (hm hr) aV rfl (a8 (pv 0) aC)))))),?_⟩
 refine⟨_,rfl,c,_,rfl,hC.rd,_,_,rfl,rfl,_,rfl,?_⟩;rw[ekl];refine cG (fun c1=>EZ ?_) (fun c1=>?_)
 ·have c1:C=[]:=cy (by have:=bp c1;omega);have h:=k H (a9.refl _);rw[c1,RM.zE]at h;exact h
 have c1:¬C.length<1:=fun z=>c1 (decide_eq_true (by omega))
 obtain⟨c0,r,eC⟩:∃c0 r,C=c0::r:=by
  cases C with
  |nil=>simp at c1
  |cons c0 r=>exact⟨c0,r,rfl⟩
 have ua:=ua eC;refine⟨_,rfl,c,_,rfl,hC.rd,_,_,rfl,rfl,_,rfl,?_⟩;rw[ekl];refine cG (fun c2=>?_) (fun c2=>?_)
 ·have c2:256<C.length:=by have:=bp c2;omega
  have h:=k H (a9.refl _);rw[ua,decide_eq_false (by omega)]at h;exact h
 have c2:C.length<=256:=by apply Nat.le_of_not_lt;intro z;exact c2 (decide_eq_true (by omega))
 refine⟨c,_,hC,trivial,fun od=>⟨_,rfl,c,od,rfl,.inr ⟨_,a7,fun D hD=>K2 (d:=c) (od:=od) (kvs:=kvF k2 (CS C))
  (fun i H2=>a9 (upd H c (.frz od (.dT (kvF k2 (CS C))))) H2/\H2 D=some (.lst ((((RM.iW C).take i).map fun p=>RM.aZ C p 0||(RM.aZ C p 1||(RM.aZ C p 2||RM.aZ C p 3))).map V.bl))) ⟨a9.upd hD,a7⟩ (fun i H2 ⟨s2,_⟩=>s2 _ _ a7) ?_ ?_⟩⟩⟩
 ·rintro i kk vv q H2 hi hq ⟨s2,h2⟩;obtain⟨p,hp,rfl⟩:=pM hi;have hp2:(RM.iW C)[i]? =some p:=by have:=congrArg (Option.map Prod.fst) hp;rw[<- ba,lW]at this;exact this
  have ph:i<C.length:=by have:=(ak.mp hp2).1;simpa[RM.iW]using this
  refine⟨rfl,_,rfl,_,rfl,.ref q,p,c,C,rfl,⟨q,rfl,hq⟩,.inr ⟨od,s2 _ _ a7⟩,fun H3 s3=>⟨_,s3 _ _ h2,?_,a9.put (a9.trans s2 s3) hD,?_⟩⟩
  ·rw[ai,ai,bu];exact few (m:=256) (by omega)
  ·rw[a7,RM.take_snoc hp2];simp
 ·rintro H2 ⟨s2,h2⟩;have nD:D≠c:=(aI (H:=upd H c (.frz od (.dT (kvF k2 (CS C))))) a7 hD).symm;refine⟨s2 _ _ a7,D,_,rfl,SqL.of (by rw[aA nD];exact h2),_,rfl,?_⟩;have s3:a9 H (upd H2 c (.dT (kvF k2 (CS C)))):=a9.unlock hC s2;have el:(kvF k2 (CS C)).length=(RM.iW C).length:=by rw[ekl];simp[RM.iW]
  rw[el,bc (au _)];have ea:(((RM.iW C).map fun p=>RM.aZ C p 0||(RM.aZ C p 1||(RM.aZ C p 2||RM.aZ C p 3))).any id)=Roof.pinched C:=by rw[Bk,any_map];rfl
  rw[ea];refine cG (fun c3=>?_) (fun c3=>?_)
  ·have h:=k _ s3;rw[ua,c3]at h;simp at h;exact h
  ·refine⟨_,rfl,c,C,c0,r,rfl,.inl a7,eC,qh,c2,fun H3 s4=>?_⟩;have h:=k _ (a9.trans s3 s4);rw[ua,not_true c3,decide_eq_true c2]at h;simpa using h
abbrev s_haw:Stmt:=(top 42)
theorem sc_haw:aJ ["cells","headings","cell","side"] ["cells"] (aG s_haw):=fS
noncomputable def sp_haw(K:W.Frag)(d:Adr):Sp:=fun vs H Q _=>∃(c:Addr)(C:List (Nat×Nat)),vs=[.ref c]/\D2 H c (CS C)/\C.length<=256/\∀h H',a9 H H'->H h=none->D2 H' h (IV (RM.d8 (RM.iW C)))->Q (.ref h) H'
theorem ok_haw(F:Fun K "headings_along_walls" "headings_along_walls" s_haw f fd)(T:Txt K mg base d)(D_b:aO P w K mg base CX0 2 "beyond" ["place","direction"] (sp_b K d))(D_ss:aO P w K mg base CX0 2 "side_start" ["square","side"] (sp_ss K d))(D_lo:aO P w K mg base CX0 1 "left_of" ["direction"] (sp_lo K d)):bJ P w K mg base CX0 3 f fd ["cells"] (sp_haw K d):=by
 refine F.ok sc_haw (fun vs H Q E h=>by obtain⟨c,C,rfl,_⟩:=h;rfl) (fun _ _ _ _ H _ Q E hr h=>?_);have hu:=bB hr;obtain⟨aALL_SIDES,bF,c_ALL_SIDES⟩:=T.bF;obtain⟨c,C,rfl,hC,hl,k⟩:=h;refine⟨_,(aB (psN (i:=1) sc_haw.nd dG)
   (aB (jA (bV PassesOwn.never rfl (n6 (pv 0)) (pgN (i:=2) sc_haw.nd) (aD (bV PassesOwn.never rfl (kB (fK bF rfl)) (pgN (i:=3) sc_haw.nd) (aD (cK (fD (d5 hu (aS D_b (hm hr) aV rfl (a8 (pv 2) (a8 (pv 3) aC))) (pv 0))) (aD (eS hu (pv 1) (aS D_ss (hm hr) aV rfl (a8 (pv 2) (a8 (pv 3) aC))) (aS D_lo (hm hr) aV rfl (a8 (pv 3) aC)) rfl)) bD))))))
   (aD (aP (pv 1))))),?_⟩
 refine fun h hh=>?_
 have nc:c≠h:=aI hC hh;have kj:∀od,(upd H c (.frz od (.dT (kvF k2 (CS C))))) h=none:=fun od=>fF hC hh
 refine⟨c,.dT (kvF k2 (CS C)),by rw[aA nc];exact hC,trivial,fun od=>⟨_,rfl,c,od,rfl,.inr ⟨_,a7,nU (d:=c) (od:=od) (kvs:=kvF k2 (CS C))
  (fun i σ H2=>∃(v2 v3:Option V),σ=[some (.ref c),some (.ref h),v2,v3]/\a9 (upd H c (.frz od (.dT (kvF k2 (CS C))))) H2/\D2 H2 h (IV (RM.cJ [] (RM.dD (RM.iW C) i))))
  ⟨none,none,rfl,a9.both (a9.upd hh),by unfold D2;rw[aA nc.symm,a7];rfl⟩ (fun i σ H2 ⟨_,_,_,s2,_⟩=>s2 _ _ a7) ?_ ?_⟩⟩⟩
 ·rintro i kk vv q σ H2 hi hq ⟨v2,v3,rfl,s2,hD⟩;obtain⟨p,hp,rfl⟩:=pM hi;have hp2:(RM.iW C)[i]? =some p:=by have:=congrArg (Option.map Prod.fst) hp;rw[<- ba,lW]at this;exact this
  have ph:i<C.length:=by have:=(ak.mp hp2).1;simpa[RM.iW]using this
  refine⟨_,rfl,⟨_,c_ALL_SIDES _⟩,jL (K:=K) (a:=aALL_SIDES) (xs:=[.int 0,.int 1,.int 2,.int 3]) (fun j σ H3=>∃(v3:Option V),σ=[some (.ref c),some (.ref h),some (.ref q),v3]/\a9 (upd H c (.frz od (.dT (kvF k2 (CS C))))) H3/\T2 H3 (.ref q) p/\D2 H3 h (IV (RM.cJ [] (RM.dD (RM.iW C) i++RM.cM (RM.iW C) p j))))
   ⟨v3,rfl,s2,⟨q,rfl,hq⟩,by rw[show RM.cM (RM.iW C) p 0=[]from rfl,dj];exact hD⟩ (fun i σ H2 _ _=>c_ALL_SIDES H2) ?_ ?_⟩
  ·rintro j x σ H3 hx ⟨v3,rfl,s3,tq,hD⟩;obtain⟨hj,rfl⟩:=mW hx;refine⟨_,rfl,_,rfl,.ref q,p,j,rfl,tq.c,hj,fun n H4 s4 t4=>?_⟩;obtain⟨na,rfl,pb⟩:=t4;refine⟨_,rfl,c,_,rfl,R2.get (kvs:=CS C) (p:=RM.aN p j) (.inr ⟨od,(a9.trans s3 s4) _ _ a7⟩) pb,_,rfl,?_⟩;rw[AF];have za:=RM.rF (RM.iW C) p hj;refine cG (fun c1=>?_) (fun c1=>?_)
   ·have c1:¬RM.aN p j∈RM.iW C:=by simpa using c1
    rw[ag c1]at za;refine⟨_,rfl,_,rfl,_,rfl,_,rfl,_,rfl,.ref q,p,j,rfl,(tq.mono s4).c,hj,fun n H5 s5 t5=>?_⟩;obtain⟨ma,rfl,hma⟩:=t5;have lr:D2 H5 h (IV (RM.cJ [] (RM.dD (RM.iW C) i++RM.cM (RM.iW C) p j))):=s5 _ _ (s4 _ _ hD);refine⟨h,_,rfl,D2.put lr hma _ ?_,_,rfl,a9.put (a9.trans s3 (a9.trans s4 s5)) (kj od),T2.rC (tq.mono (a9.trans s4 s5)) lr (by intro _ z;cases z),?_⟩
    ·rw[dY];have h1:=RM.gI (RM.dD (RM.iW C) i++RM.cM (RM.iW C) p j) [];have h2:=RM.zN (RM.iW C) i;have h3:=RM.kX (RM.iW C) p j;rw[aq]at h1;simp only[dt]at h1;exact few (m:=2000) (by omega)
    ·unfold D2;rw[a7,lE,za,<- fk,RM.tW];rfl
   ·have c1:RM.aN p j∈RM.iW C:=by simpa using c1
    rw[ah c1,dj]at za;exact⟨_,rfl,a9.trans s3 s4,tq.mono s4,by rw[za];exact s4 _ _ hD⟩
  ·rintro σ H3 ⟨v3,rfl,s3,tq,hD⟩;refine⟨_,_,rfl,s3,?_⟩;rw[RM.nP hp2];exact hD
 ·rintro σ H2 ⟨v2,v3,rfl,s2,hD⟩;have el:(kvF k2 (CS C)).length=(RM.iW C).length:=by rw[eZ,qF];simp[RM.iW]
  rw[el,RM.zO]at hD;exact⟨s2 _ _ a7,_,rfl,k h _ (a9.unlock hC s2) hh (by unfold D2;rw[aA nc.symm];exact hD)⟩
abbrev s_wf:Stmt:=(top 43)
theorem sc_wf:aJ ["start","headings","walked","corners","point","came","heading"] ["start","headings","walked"] (aG s_wf):=fS
noncomputable def sp_wf(K:W.Frag)(d:Adr):Sp:=fun vs H Q _=>∃(v:V)(hA wA:Addr)(hs:List (PI×Int))(wk:List PI)(s0:PI)(f:List (PI×Int)),vs=[v,.ref hA,.ref wA]/\T2 H v s0/\R2 H hA (IV hs)/\D2 H wA (KS wk)/\hA≠wA/\RM.mB (RM.aK hs) s0 f s0/\f≠[]/\(f.map (·.1)).Nodup/\(∀y∈f.map (·.1),y∉wk)/\wk.length+f.length<=5000/\∀r H',But wA H H'->H r=none->LT H' (.ref r) (RM.bL none f)->D2 H' wA (KS (wk++f.map (·.1)))->Q (.ref r) H'
theorem ok_wf(F:Fun K "walk_from" "walk_from" s_wf f fd)(T:Txt K mg base d)(D_b:aO P w K mg base CX0 2 "beyond" ["place","direction"] (sp_b K d)):bJ P w K mg base CX0 3 f fd ["start","headings","walked"] (sp_wf K d):=by
 refine F.ok sc_wf (fun vs H Q E h=>by obtain⟨v,hA,wA,hs,wk,s0,f,rfl,_⟩:=h;rfl) (fun _ _ _ _ H _ Q E hr h=>?_);have hu:=bB hr;obtain⟨v,hA,wA,hs,wk,s0,f,rfl,tv,hH,hW,nHW,Ap,fne,fnd,fnew,Cr,k⟩:=h;have hHb:∀H',But wA H H'->R2 H' hA (IV hs):=fun H' e=>by
  rcases hH with h|⟨o,h⟩
  ·exact .inl (e _ _ nHW h)
  ·exact .inr ⟨o,e _ _ nHW h⟩
 refine⟨_,(aB (psN (i:=3) sc_wf.nd (eU aC))
   (aB (psN (i:=4) sc_wf.nd (pv 0))
   (aB (psN (i:=5) sc_wf.nd M9)
   (aB (mZ PassesOwn.never (fD (d5 hu (pv 4) (pv 2))) (aB (eS hu (pv 2) (pv 4) jQ rfl)
   (aB (psN (i:=6) sc_wf.nd (lI hu (pv 1) (pv 4) (fun _ _=>rfl)))
   (aB (cK (bX LD (pv 6) (pv 5) (c6 _)) (aD (cT (hV PySem.F.plainAttrs_list PySem.F.slot_list_append PySem.F.type_list_append cF (pv 3) (a8 (pv 4) aC)))) bD)
   (aB (psN (i:=5) sc_wf.nd (pv 6))
   (aD (psN (i:=4) sc_wf.nd (aS D_b (hm hr) aV rfl (a8 (pv 4) (a8 (pv 6) aC))))))))))
   (aD (aP (pv 3))))))),?_⟩
 refine⟨cn _,fun r tu=>⟨_,rfl,?_⟩⟩;have yc:r≠wA:=(aI hW tu).symm;dsimp only[j2,GH];refine mP (fun σ H2=>∃(g rest:List (PI×Int))(q:PI)(vq:V)(came:Option Int)(xs:List V)(cs:List PI)(v6:Option V),σ=[some v,some (.ref hA),some (.ref wA),some (.ref r),some vq,some (match came with|none=>V.non|some h=>V.int h),v6]/\f=g++rest/\RM.mB (RM.aK hs) q rest s0/\T2 H2 vq q/\But wA H H2/\H2 r=some (.lst xs)/\Paired (T2 H2) xs cs/\cs++RM.bL came rest=RM.bL none f/\cs.length<=g.length/\D2 H2 wA (KS (wk++g.map (·.1))))
  (fun _ H2=>10000 - lX H2 wA)
  ⟨[],f,s0,v,none,[],[],none,rfl,rfl,Ap,tv.mono (a9.upd tu),a9.but (a9.upd tu),a7,.nil,rfl,au _,by unfold D2;rw[aA yc.symm,ie,dj];exact hW⟩ ?_ (fun _ _ _ _ f ⟨v,e,w,e2,a,o,ex,g,b,eb,q⟩=>⟨v,e,w,e2,a,o,ex,g,b,eb,f _ _ q⟩)
 rintro σ H2 ⟨g,rest,q,vq,came,xs,cs,v6,rfl,hf,pq,⟨qa,rfl,qv⟩,b2,h2,pr,Ad,lcs,hD⟩;refine⟨_,rfl,_,rfl,wA,_,rfl,R2.get (p:=q) hD.rd qv,_,rfl,?_⟩;rw[J4];cases pq with
 |nil=>
  have ze:s0∈wk++g.map (·.1):=by
   rw[dj]at hf;subst hf;refine bh _ ?_;cases Ap with
   |nil=>exact absurd rfl fne
   |cons _ _ _ _=>simp
  refine cG (fun c1=>?_) (fun c1=>?_)
  ·exact absurd ze (rL c1)
  ·rw[dj]at hf;subst hf;have Ad:cs=RM.bL none f:=by rw[<- Ad];simp[RM.bL]
   subst Ad;exact⟨_,rfl,k r H2 b2 tu ⟨r,xs,rfl,h2,pr⟩ hD⟩
 | @cons _ _ hd rest' hq h0 h4 pn=>
  have Bl:q∉wk++g.map (·.1):=by
   intro z;rcases ay.mp z with z|z
   ·exact fnew q (by rw[hf];simp) z
   ·rw[hf,cg,cv]at fnd;exact fnd.2.2 q z q (by simp) rfl
  refine cG (fun c1=>?_) (fun c1=>absurd (nL c1) Bl);have jt:(wk++g.map (·.1)).length<=5000:=by rw[hf]at Cr;simp only[aq,bo,ai]at Cr ⊢;omega
  refine⟨_,rfl,_,rfl,wA,_,rfl,D2.put hD qv (.bl true) (by rw[CC];exact few jt),?_⟩;rw[L7 Bl];have hD':H2 wA=some (.dT (kvF k2 (KS (wk++g.map (·.1))))):=hD;have zq:T2 (upd H2 wA (.dT (kvF k2 (KS (wk++g.map (·.1)++[q]))))) (.ref qa) q:=T2.rC ⟨qa,rfl,qv⟩ hD' (by intro _ z;cases z);have b3:But wA H (upd H2 wA (.dT (kvF k2 (KS (wk++g.map (·.1)++[q]))))):=b2.here;have h3:(upd H2 wA (.dT (kvF k2 (KS (wk++g.map (·.1)++[q]))))) r=some (.lst xs):=by rw[aA yc];exact h2
  have oa:Paired (T2 (upd H2 wA (.dT (kvF k2 (KS (wk++g.map (·.1)++[q])))))) xs cs:=aH (fun _ _ z=>z.rC hD' (by intro _ z;cases z)) pr;have ku:D2 (upd H2 wA (.dT (kvF k2 (KS (wk++g.map (·.1)++[q]))))) wA (KS (wk++(g++[(q,hd)]).map (·.1))):=by unfold D2;rw[a7];simp
  have m2:lX H2 wA=(wk++g.map (·.1)).length:=by rw[z8 hD,CC]
  generalize (upd H2 wA (.dT (kvF k2 (KS (wk++g.map (·.1)++[q])))))=H3 at zq b3 h3 oa ku ⊢;obtain⟨_,e,qv⟩:=zq;cases e;have dg:lF H3 hA (.ref qa) (some (.int hd)):=by have dg:=(hHb H3 b3).get (p:=q) qv;rw[fB,hq]at dg;exact dg
  refine⟨_,rfl,_,rfl,hA,_,rfl,dg,?_⟩;have sj:f=g++[(q,hd)]++rest':=by rw[hf];simp
  have fin:∀(xs:List V)(cs:List PI)(H4:Hp),But wA H H4->H4 r=some (.lst xs)->Paired (T2 H4) xs cs->T2 H4 (.ref qa) q->D2 H4 wA (KS (wk++(g++[(q,hd)]).map (·.1)))->cs++RM.bL (some hd) rest'=RM.bL none f->cs.length<=g.length+1->∀(vn:V)(H5:Hp),a9 H4 H5->T2 H5 vn (RM.aN q hd.toNat) ->
   (∃(g rest:List (PI×Int))(q:PI)(vq:V)(came:Option Int)(xs:List V)(cs:List PI)(v6:Option V),([some v,some (.ref hA),some (.ref wA),some (.ref r),some vn,some (.int hd),some (.int hd)]:List (Option V))=[some v,some (.ref hA),some (.ref wA),some (.ref r),some vq,some (match came with|none=>V.non|some h=>V.int h),v6]/\f=g++rest/\RM.mB (RM.aK hs) q rest s0/\T2 H5 vq q/\But wA H H5/\H5 r=some (.lst xs)/\Paired (T2 H5) xs cs/\cs++RM.bL came rest=RM.bL none f/\cs.length<=g.length/\D2 H5 wA (KS (wk++g.map (·.1))))/\10000 - lX H5 wA<10000 - lX H2 wA:=by
   intro xs cs H4 b4 h4 uj t4 ka e4 l4 vn H5 s5 t5;refine⟨⟨g++[(q,hd)],rest',_,vn,some hd,xs,cs,_,rfl,sj,pn,t5,b4.trans (a9.but s5),s5 _ _ h4,aH (fun _ _ z=>z.mono s5) uj,e4,by rw[aq];exact l4,s5 _ _ ka⟩,?_⟩;have lr:D2 H5 wA (KS (wk++(g++[(q,hd)]).map (·.1))):=s5 _ _ ka;rw[m2,z8 lr,CC];simp only[aq,ai,bo,dt]at jt ⊢;omega
  have lcs5:cs.length<=5000:=by rw[aq,ai]at jt;omega
  have lx:=pairs_len oa;cases came with
  |none=>refine⟨_,rfl,_,rfl,rfl,_,rfl,EZ ?_⟩;refine⟨_,rfl,.inl ⟨rfl,_,SqL.of h3⟩,_,rfl,r,xs,.ref qa,rfl,rfl,h3,few (m:=5000) (by omega),?_⟩;refine⟨_,rfl,_,rfl,_,rfl,.ref qa,q,hd.toNat,congrArg (fun z=>[V.ref qa,V.int z]) (fu h0).symm,T2.c ((T2.upd (D:=r) ⟨qa,rfl,qv⟩ h3)),by omega,fun vn H5 s5 t5=>?_⟩;refine fin (xs++[.ref qa]) (cs++[q]) _ (b3.put tu) a7 (aW (T2.upd (D:=r) ⟨qa,rfl,qv⟩ h3) (aH (fun _ _ z=>z.upd h3) oa)) (T2.upd (D:=r) ⟨qa,rfl,qv⟩ h3) (by unfold D2;rw[aA yc.symm];exact ku) ?_ (by rw[aq];simp;omega) vn H5 s5 t5;rw[<- Ad];simp[RM.bL]
  |some cm=>
   refine⟨_,rfl,_,rfl,rfl,_,rfl,?_⟩;refine cG (fun c2=>?_) (fun c2=>?_)
   ·have c2:¬hd=cm:=by intro z;rw[z]at c2;simp at c2
    refine⟨_,rfl,.inl ⟨rfl,_,SqL.of h3⟩,_,rfl,r,xs,.ref qa,rfl,rfl,h3,few (m:=5000) (by omega),?_⟩;refine⟨_,rfl,_,rfl,_,rfl,.ref qa,q,hd.toNat,congrArg (fun z=>[V.ref qa,V.int z]) (fu h0).symm,T2.c ((T2.upd (D:=r) ⟨qa,rfl,qv⟩ h3)),by omega,fun vn H5 s5 t5=>?_⟩;refine fin (xs++[.ref qa]) (cs++[q]) _ (b3.put tu) a7 (aW (T2.upd (D:=r) ⟨qa,rfl,qv⟩ h3) (aH (fun _ _ z=>z.upd h3) oa)) (T2.upd (D:=r) ⟨qa,rfl,qv⟩ h3) (by unfold D2;rw[aA yc.symm];exact ku) ?_ (by rw[aq];simp;omega) vn H5 s5 t5;rw[<- Ad];simp[RM.bL,c2]
   ·have c2:hd=cm:=by
     have:decide (V.int hd=V.int cm)=true:=by
      cases e:decide (V.int hd=V.int cm)with
      |true=>rfl
      |false=>rw[e]at c2;exact absurd rfl c2
     exact V.int.inj (bp this)
    subst c2;refine⟨_,rfl,_,rfl,_,rfl,.ref qa,q,hd.toNat,congrArg (fun z=>[V.ref qa,V.int z]) (fu h0).symm,T2.c ⟨qa,rfl,qv⟩,by omega,fun vn H5 s5 t5=>?_⟩;refine fin xs cs _ b3 h3 oa ⟨qa,rfl,qv⟩ ku ?_ (by omega) vn H5 s5 t5;rw[<- Ad];simp[RM.bL]
abbrev s_wr:Stmt:=(top 44)
theorem sc_wr:aJ ["cells","headings","walks","walked","point"] ["cells"] (aG s_wr):=fS
theorem xZ{K:W.Frag}{d:Adr}{H:Hp}{as:List Addr}{ps:List PI}(h:Paired (T2 H) (as.map V.ref) ps):∀a∈as,∀H2,a9 H H2->sp_br K d [.ref a] H2 (fun r H3=>a9 H2 H3/\∃b,r=.ref b/\H3 b=some (.tup ((iD H a).map V.int))) E0:=by intro a ha H2 s2;have t:=(yS h a ha).mono s2;refine⟨.ref a,pairOf H a,rfl,t.c,fun r H3 s3 ⟨b,e,hb⟩=>⟨s3,b,e,hb⟩⟩
noncomputable def sp_wr(K:W.Frag)(d:Adr):Sp:=fun vs H Q _=>∃(c:Addr)(C:List (Nat×Nat)),vs=[.ref c]/\D2 H c (CS C)/\C.length<=256/\Roof.pinched C=false/\∀r H',a9 H H'->LLT H' (.ref r) (RM.iWs (Roof.walksOf C))->Q (.ref r) H'
theorem ok_wr(F:Fun K "walks_round" "walks_round" s_wr f fd)(T:Txt K mg base d)(D_haw:aO P w K mg base CX0 3 "headings_along_walls" ["cells"] (sp_haw K d))(D_br:aO P w K mg base CX0 1 "by_row" ["place"] (sp_br K d))(D_wf:aO P w K mg base CX0 3 "walk_from" ["start","headings","walked"] (sp_wf K d)):bJ P w K mg base CX0 5 f fd ["cells"] (sp_wr K d):=by
 refine F.ok sc_wr (fun vs H Q E h=>by obtain⟨c,C,rfl,_⟩:=h;rfl) (fun _ _ _ _ H _ Q E hr h=>?_);have hu:=bB hr;obtain⟨c,C,rfl,hC,hl,qw,k⟩:=h;refine⟨_,(aB (psN (i:=1) sc_wr.nd (aS D_haw (hm hr) aV rfl (a8 (pv 0) aC)))
   (aB (psN (i:=2) sc_wr.nd (eU aC))
   (aB (psN (i:=3) sc_wr.nd dG)
   (aB (bV PassesOwn.never rfl (cP (GZ rfl D_br (hm hr) rfl T.sorted rfl (a8 (pv 1) aC))) (pgN (i:=4) sc_wr.nd) (aD (cK (fD (d5 hu (pv 4) (pv 3))) (aD (cT (hV PySem.F.plainAttrs_list PySem.F.slot_list_append PySem.F.type_list_append cF (pv 2) (a8 (aS D_wf (hm hr) aV rfl (a8 (pv 4) (a8 (pv 1) (a8 (pv 3) aC)))) aC)))) bD)))
   (aD (aP (pv 2))))))),?_⟩
 refine⟨_,rfl,c,C,rfl,hC,hl,fun h H1 s1 hh hH=>?_⟩;refine⟨cn _,fun w hw=>fun wk hwk=>?_⟩;have nhw:w≠wk:=aI a7 hwk;have fwk:H1 wk=none:=(a9.upd hw).free hwk;have s2:a9 H1 (upd (upd H1 w (.lst [])) wk (.dT [])):=a9.trans (a9.upd hw) (a9.upd hwk);refine⟨_,rfl,h,_,rfl,R2.mono s2 hH.rd,fun as hk=>?_⟩;have tw:=zB hk;rw[xT]at tw;refine⟨iD (upd (upd H1 w (.lst [])) wk (.dT [])),fun a _=>by unfold iD;exact cons_ne_nil _ _,xZ tw,fun L out H2 hL pm pw s3 h2=>?_⟩;obtain⟨ys,pr,yp,yr⟩:=qJ tw pm pw;have ey:=RM.uA qw yp yr;subst ey;have nLw:L≠w:=(aI (by rw[aA nhw,a7]) hL).symm;have nLk:L≠wk:=(aI a7 hL).symm;have prT:∀{i:Nat}{v:V},(out.map V.ref)[i]? =some v->∃q,(RM.c8 C)[i]? =some q/\T2 H1 v (RM.iP q)\/(RM.c8 C)[i]? =some q/\T2 (upd (upd H1 w (.lst [])) wk (.dT [])) v (RM.iP q):=fun{i v} hv=>by
  obtain⟨z,hz,t⟩:=pairs_at pr hv;unfold RM.iW at hz;rw[ba]at hz;cases e:(RM.c8 C)[i]? with
  |none=>rw[e]at hz;cases hz
  |some q=>rw[e]at hz;cases hz;exact⟨q,.inr ⟨rfl,t⟩⟩
 have w2:(upd (upd H1 w (.lst [])) wk (.dT [])) w=some (.lst []):=by rw[aA nhw,a7]
 have k2':(upd (upd H1 w (.lst [])) wk (.dT [])) wk=some (.dT []):=a7;generalize hHa:(upd (upd H1 w (.lst [])) wk (.dT []))=Ha at*;refine⟨L,rfl,⟨_,SqL.of h2⟩,gV (K:=K) (a:=L) (xs:=out.map V.ref) (fun i σ H3=>∃(seen:List Roof.Point)(ws:List Roof.Walk)(xs:List V)(v4:Option V),σ=[some (.ref c),some (.ref h),some (.ref w),some (.ref wk),v4]/\a9 H1 H3/\(∀a p,T2 Ha (.ref a) p->T2 H3 (.ref a) p)/\H3 L=some (.lst (out.map V.ref))/\H3 w=some (.lst xs)/\Paired (fun v z=>∃b,v=V.ref b/\b≠w/\LT H3 (.ref b) z) xs (RM.iWs ws)/\D2 H3 wk (KS (RM.iW seen))/\RM.f9 C seen i ws/\ws.length<=i)
  ⟨[],[],[],none,rfl,a9.trans s2 s3,fun a p t=>t.mono s3,h2,s3 _ _ w2,.nil,s3 _ _ k2',RM.f9.start C,au _⟩ (fun i σ H3 _ ⟨_,_,_,_,_,_,_,h3,_⟩=>SqL.of h3) ?_ ?_⟩
 ·rintro i v σ H3 hv ⟨seen,ws,xs,v4,rfl,s4,tup,hL3,uo,ui,ku,st,lws⟩;obtain⟨q,hq,t⟩:∃q,(RM.c8 C)[i]? =some q/\T2 Ha v (RM.iP q):=by
   obtain⟨q,z|z⟩:=prT hv
   ·exact⟨q,z.1,z.2.mono s2⟩
   ·exact⟨q,z⟩
  obtain⟨a,rfl,ha⟩:=t;obtain⟨_,e,ha3⟩:=tup a _ ⟨a,rfl,ha⟩;cases e;have ph:i<out.length:=by have:=(ak.mp hv).1;simpa using this
  refine⟨_,rfl,_,rfl,wk,_,rfl,R2.get (p:=RM.iP q) ku.rd ha3,_,rfl,?_⟩;rw[J4];refine cG (fun c1=>?_) (fun c1=>?_)
  ·have c1:q∉seen:=fun z=>rL c1 (RM.gR.mpr z)
   obtain⟨f,f1,f2,f3,f4,nv,w',e1,e2,nu⟩:=st.next qw hq c1;have nhk:h≠wk:=aI hH fwk;have ls:=nu.len qw;have el:(RM.iW nv).length=nv.length:=by simp[RM.iW]
   refine⟨_,rfl,.inl ⟨rfl,_,SqL.of uo⟩,_,rfl,_,rfl,_,rfl,.ref a,h,wk,RM.d8 (RM.iW C),RM.iW seen,RM.iP q,f,rfl,⟨a,rfl,ha3⟩,R2.mono s4 hH.rd,ku,nhk,f1,f2,f3,f4,?_,fun r H4 b4 Bg lt4 ka=>?_⟩
   ·have:(RM.iW seen++f.map (·.1)).length<=4*256:=by rw[<- e1,el];omega
    rw[aq,ai]at this;omega
   ·have wu:H4 w=some (.lst xs):=b4 _ _ nhw uo;have yc:r≠w:=fun z=>by rw[z,uo]at Bg;cases Bg
    have zj:H3 wk=some (.dT (kvF k2 (KS (RM.iW seen)))):=ku;have lx:=pairs_len ui;have lws2:xs.length<=1024:=by
     have h1:(RM.iWs ws).length=ws.length:=by simp[RM.iWs]
     have h2:out.length=(RM.c8 C).length:=by have:=pairs_len pr;simpa[RM.iW]using this
     have h3:(RM.c8 C).length<=4*C.length:=by have a1:=RM.nO (RM.iW C);have a2:=yp.length_eq;simp only[RM.iW,ai]at a1 a2;omega
     omega
    have T4:∀{v:V}{p:PI},T2 H3 v p->T2 (upd H4 w (.lst (xs++[.ref r]))) v p:=fun t=>(t.but b4 zj (by intro _ z;cases z)).upd wu
    refine⟨w,xs,.ref r,rfl,rfl,wu,few lws2,nv,ws++[w'],xs++[.ref r],_,rfl,a9.put (But.same b4 s4 fwk) hw,fun a p t=>T4 (tup a p t),by rw[aA nLw];exact b4 _ _ nLk hL3,a7,?_,by unfold D2;rw[aA nhw.symm,e1];exact ka,nu,by rw[aq];simp;omega⟩;have e3:RM.iWs (ws++[w'])=RM.iWs ws++[RM.bL none f]:=by simp[RM.iWs,e2]
    rw[e3];refine aW ⟨r,rfl,yc,lt4.upd wu yc⟩ (aH (fun v z ⟨b,e,nb,b0,ys,eb,hb,py⟩=>⟨b,e,nb,?_⟩) ui);cases eb;have nbk:b≠wk:=eX hb zj (by intro z;cases z);exact LT.upd ⟨b,ys,rfl,b4 _ _ nbk hb,aH (fun _ _ t=>t.but b4 zj (by intro _ z;cases z)) py⟩ wu nb
  ·have c1:q∈seen:=RM.gR.mp (nL c1);exact⟨seen,ws,xs,_,rfl,s4,tup,hL3,uo,ui,ku,st.skip hq c1,by omega⟩
 ·rintro σ H3 ⟨seen,ws,xs,v4,rfl,s4,tup,hL3,uo,ui,ku,st,lws⟩;have h2:(out.map V.ref).length=(RM.c8 C).length:=by have:=pairs_len pr;simpa[RM.iW]using this
  rw[h2]at st;have e:=st.done;subst e;exact⟨_,rfl,k w H3 (a9.trans s1 s4) ⟨w,xs,rfl,uo,aH (fun v z ⟨b,e,nb,t⟩=>by rw[e];exact t) ui⟩⟩
abbrev s_ht:Stmt:=(top 45)
theorem sc_ht:aJ ["t","walks","cells"] ["t"] (aG s_ht):=fS
theorem K8{a b:List Roof.Walk}(h:RM.iWs a=RM.iWs b):a=b:=RM.map_inj (fun x _ y _ q=>RM.map_inj (fun p _ p' _ r=>fZ r) q) h
theorem iK{F:Nat->Nat->Bool}(h:Roof.isHouse (RM.aR F)=true):(RM.aR F).length<=256/\Roof.pinched (RM.aR F)=false/\RM.aR F≠[]:=by
 cases e:RM.aR F with
 |nil=>rw[e]at h;cases h
 |cons c r=>have h2:=RM.tD e;rw[h]at h2;rw[e]at h2;simp only[Bool.true_eq,dh,decide_eq_true_iff,not_eq_true']at h2;exact⟨h2.1,h2.2.1,cons_ne_nil _ _⟩
noncomputable def sp_ht(K:W.Frag)(d:Adr):Sp:=fun vs H Q E=>∃(a:Addr)(ns:List Int),vs=[.ref a]/\SqL K H a (ns.map V.int)/\ns.length<=4096/\RM.inB ns/\(∀F,Roof.houseOf (RoofBNeutral.text ns)=some (RM.aR F)->Roof.isHouse (RM.aR F)=true->∀r H',a9 H H'->H r=none->D2 H' r (CS (RM.aR F))->Q (.ref r) H')/\(Roof.houseOf (RoofBNeutral.text ns)=none->E (.ref d.bZ) none H)
theorem ok_ht(F:Fun K "house_told" "house_told" s_ht f fd)(T:Txt K mg base d)(D_wt2:aO P w K mg base CXf 5 "walks_told" ["t"] (sp_wt2 K d))(D_cw:aO P w K mg base CX0 2 "cells_within" ["walks"] (sp_cw K d))(D_wr:aO P w K mg base CX0 5 "walks_round" ["cells"] (sp_wr K d))(D_ih:aO P w K mg base CX0 4 "is_house" ["cells"] (sp_ih K d)):bJ P w K mg base CXf 6 f fd ["t"] (sp_ht K d):=by
 refine okX F sc_ht (fun vs H Q E h=>by obtain⟨a,ns,rfl,_⟩:=h;rfl) (fun _ _ _ _ H _ Q E hr hok h=>?_);have hu:=bB hr;obtain⟨a,ns,rfl,hS,hl,hB,k1,k2⟩:=h;refine⟨_,(aB (psN (i:=1) sc_ht.nd (aS D_wt2 (hm hr) (yQ hok) rfl (a8 (pv 0) aC)))
   (aB (psN (i:=2) sc_ht.nd (aS D_cw (hm hr) aV rfl (a8 (pv 1) aC)))
   (aB (cK (PW.pt (yK (GU (iE (aS D_ih (hm hr) aV rfl (a8 (pv 2) aC)) (fun _=>rfl))) (sM (bX (MC hr.units) (aS D_wr (hm hr) aV rfl (a8 (pv 2) aC)) (pv 1) (c6 _))))) (aD (d4 hok PySem.F.excBase_Exception T.eJ rfl)) bD)
   (aD (aP (pv 2)))))),?_⟩
 refine⟨_,rfl,a,ns,rfl,hS,hl,fun z hz v H1 s1 llt=>?_,fun hn=>k2 (RM.BM hB hn)⟩;obtain⟨W,oW,rfl,_⟩:=RM.qG hz;have hh:=RM.BL hB oW hz;have okp:RM.sS W:=fun w hw=>(oW.2 w hw).2
 refine⟨_,rfl,v,W,rfl,llt,okp,fun c H2 s2 hc hD=>?_⟩;have ua:Roof.houseOf (RoofBNeutral.text ns)=(if Roof.isHouse (RM.aR (RM.dN W))=true/\Roof.walksOf (RM.aR (RM.dN W))=W then some (RM.aR (RM.dN W))else none):=hh;generalize RM.dN W=F at hD ua;refine⟨_,rfl,c,F,rfl,hD,fun H3 s3=>⟨_,rfl,?_⟩⟩;refine cG (fun c1=>EZ (k2 ?_)) (fun c1=>?_)
 ·rw[ua,ag];intro z;rw[z.1]at c1;cases c1
 have c1:Roof.isHouse (RM.aR F)=true:=by
  cases e:Roof.isHouse (RM.aR F)with
  |true=>rfl
  |false=>rw[e]at c1;exact absurd rfl c1
 obtain⟨mf,qw,jl⟩:=iK c1;have ku:D2 H3 c (CS (RM.aR F)):=s3 _ _ hD;refine⟨_,rfl,c,RM.aR F,rfl,ku,mf,qw,fun r H4 s4 llt4=>?_⟩;refine⟨_,rfl,dWs (RM.iWs (Roof.walksOf (RM.aR F))),dWs (RM.iWs W),LH llt4,LH (llt.mono (a9.trans s2 (a9.trans s3 s4))),uV _,uV _,_,rfl,?_⟩;rw[MT];refine cG (fun c2=>k2 ?_) (fun c2=>?_)
 ·rw[ua,ag];intro z;exact rL c2 (by rw[z.2])
 ·have e:Roof.walksOf (RM.aR F)=W:=K8 (nL c2);exact⟨_,rfl,k1 F (by rw[ua,ah ⟨c1,e⟩]) c1 c H4 (a9.trans s1 (a9.trans s2 (a9.trans s3 s4))) (s1.free hc) (s4 _ _ ku)⟩
abbrev s_hco:Stmt:=(top 50)
theorem sc_hco:aJ ["cells","found","cell","quarter"] ["cells"] (aG s_hco):=fS
noncomputable def sp_hco(K:W.Frag)(d:Adr):Sp:=fun vs H Q _=>∃(c:Addr)(C:List (Nat×Nat)),vs=[.ref c]/\D2 H c (CS C)/\C.Nodup/\(∀x∈C,x.1<64/\x.2<64)/\C.length<=256/\∀r H',a9 H H'->H r=none->LT H' (.ref r) ((Roof.halvesOf C).map RM.hP)->Q (.ref r) H'
theorem ok_hco(F:Fun K "half_cells_of" "half_cells_of" s_hco f fd)(T:Txt K mg base d)(D_m:aO P w K mg base CX0 1 "moved" ["place","step"] (sp_m K d))(D_br:aO P w K mg base CX0 1 "by_row" ["place"] (sp_br K d)):bJ P w K mg base CX0 5 f fd ["cells"] (sp_hco K d):=by
 refine F.ok sc_hco (fun vs H Q E h=>by obtain⟨c,C,rfl,_⟩:=h;rfl) (fun _ _ _ _ H _ Q E hr h=>?_);have hu:=bB hr;obtain⟨qy,mG,c_QUARTERS⟩:=T.mG;obtain⟨c,C,rfl,hC,nd,bd,hl,k⟩:=h;refine⟨_,(aB (psN (i:=1) sc_hco.nd (eU aC))
   (aB (jA (bV PassesOwn.never rfl (n6 (pv 0)) (pgN (i:=2) sc_hco.nd) (aD (bV PassesOwn.never rfl (kB (fK mG rfl)) (pgN (i:=3) sc_hco.nd) (aD (cT (hV PySem.F.plainAttrs_list PySem.F.slot_list_append PySem.F.type_list_append cF (pv 1) (a8 (aS D_m (hm hr) aV rfl (a8 (d7 (a8 (cI pE aL (cD c7 (pv 2) aL (fun _ _=>rfl))) (a8 (cI pE aL (cD c7 (pv 2) aL (fun _ _=>rfl))) aC))) (a8 (pv 3) aC))) aC))))))))
   (aD (aP (GY D_br (hm hr) rfl T.sorted rfl (a8 (pv 1) aC)))))),?_⟩
 obtain⟨qs,rb,wg⟩:=c_QUARTERS;refine⟨cn _,fun f hf=>?_⟩;have nc:c≠f:=aI hC hf;have kj:∀od,(upd H c (.frz od (.dT (kvF k2 (CS C))))) f=none:=fun od=>fF hC hf
 refine⟨c,.dT (kvF k2 (CS C)),by rw[aA nc];exact hC,trivial,fun od=>⟨_,rfl,c,od,rfl,.inr ⟨_,a7,nU (d:=c) (od:=od) (kvs:=kvF k2 (CS C))
  (fun i σ H2=>∃(xs:List V)(v2 v3:Option V),σ=[some (.ref c),some (.ref f),v2,v3]/\a9 (upd H c (.frz od (.dT (kvF k2 (CS C))))) H2/\H2 f=some (.lst xs)/\Paired (T2 H2) xs (RM.fV ((RM.iW C).take i)))
  ⟨[],none,none,rfl,a9.both (a9.upd hf),by rw[aA nc.symm,a7],.nil⟩ (fun i σ H2 ⟨_,_,_,_,s2,_⟩=>s2 _ _ a7) ?_ ?_⟩⟩⟩
 ·rintro i kk vv q σ H2 hi hq ⟨xs,v2,v3,rfl,s2,h2,pr⟩;obtain⟨p,hp,rfl⟩:=pM hi;have hp2:(RM.iW C)[i]? =some p:=by have:=congrArg (Option.map Prod.fst) hp;rw[<- ba,lW]at this;exact this
  have ph:i<C.length:=by have:=pT hp2;simpa[RM.iW]using this
  refine⟨_,rfl,⟨_,rb _⟩,jL (K:=K) (a:=qy) (xs:=qs) (fun j σ H3=>∃(xs:List V)(v3:Option V),σ=[some (.ref c),some (.ref f),some (.ref q),v3]/\a9 (upd H c (.frz od (.dT (kvF k2 (CS C))))) H3/\T2 H3 (.ref q) p/\H3 f=some (.lst xs)/\Paired (T2 H3) xs (RM.fV ((RM.iW C).take i)++(RM.vA p).take j))
   ⟨xs,v3,rfl,s2,⟨q,rfl,hq⟩,h2,by rw[take_zero,dj];exact pr⟩ (fun i σ H2 _ _=>rb H2) ?_ ?_⟩
  ·rintro j x σ H3 hx ⟨xs,v3,rfl,s3,tq,h3,pr⟩;obtain⟨z,hz,cz⟩:=pairs_at wg hx;have lx:=pairs_len pr;rw[aq,RM.AV,bu,bu]at lx;have lq:(RM.vA p).length=4:=rfl;obtain⟨_,e,uv⟩:=id tq;cases e;refine⟨_,rfl,.inl ⟨rfl,_,SqL.of h3⟩,_,rfl,q,_,_,_,rfl,rfl,SqT.of uv,bI (by decide) rfl,_,_,rfl,rfl,.inl ⟨by decide,by decide⟩,_,rfl,q,_,_,_,rfl,rfl,SqT.of uv,bI (by decide) rfl,_,_,rfl,rfl,.inl ⟨by decide,by decide⟩,(by show 2<=sizeLine;decide),fun t ht=>?_⟩;have s4:a9 H3 (upd H3 t (.tup [.int (2*p.1),.int (2*p.2)])):=a9.upd ht;refine⟨_,rfl,.ref t,x,(2*p.1,2*p.2),z,rfl,T2.c ⟨t,rfl,a7⟩,cz _,fun n H5 s5 t5=>?_⟩;have h5:=s5 _ _ (s4 _ _ h3);have we:=a9.trans s4 s5;refine⟨f,xs,n,rfl,rfl,h5,few (m:=2000) (by omega),xs++[n],_,rfl,a9.put (a9.trans s3 we) (kj od),(tq.mono we).upd h5,a7,?_⟩;rw[RM.E8 p hz,<- fk];exact aW (t5.upd h5) (aH (fun _ _ y=>(y.mono we).upd h5) pr)
  ·rintro σ H3 ⟨xs,v3,rfl,s3,tq,h3,pr⟩;refine⟨xs,_,_,rfl,s3,h3,?_⟩;rw[RM.yJ hp2];have e:qs.length=4:=pairs_len wg;rw[e]at pr;exact pr
 ·rintro σ H2 ⟨xs,v2,v3,rfl,s2,h2,pr⟩;have el:(kvF k2 (CS C)).length=(RM.iW C).length:=by rw[eZ,qF];simp[RM.iW]
  rw[el,bc (au _)]at pr;have s3:a9 H (upd H2 c (.dT (kvF k2 (CS C)))):=a9.unlock hC s2;have h3:(upd H2 c (.dT (kvF k2 (CS C)))) f=some (.lst xs):=by rw[aA nc.symm];exact h2
  have hC2:H2 c=some (.frz od (.dT (kvF k2 (CS C)))):=s2 _ _ a7;have oa:Paired (T2 (upd H2 c (.dT (kvF k2 (CS C))))) xs (RM.fV (RM.iW C)):=aH (fun _ _ z=>z.rC hC2 (by intro _ z;cases z)) pr;refine⟨hC2,?_⟩;generalize (upd H2 c (.dT (kvF k2 (CS C))))=H3 at s3 h3 oa ⊢;obtain⟨as,rfl⟩:=CH oa;refine⟨_,rfl,f,as,iD H3,rfl,SqL.of h3,fun a _=>by unfold iD;exact cons_ne_nil _ _,xZ oa,fun L out H4 hL pm pw s4 h4=>?_⟩;obtain⟨ys,py,yp,yr⟩:=qJ oa pm pw;have ey:=RM.uI nd bd yp yr;subst ey;exact k L H4 (a9.trans s3 s4) (s3.free hL) ⟨L,_,rfl,h4,aH (fun _ _ z=>z.mono s4) py⟩
abbrev s_id:Stmt:=(top 51)
theorem sc_id:aJ ["half","layer","step"] ["half","layer"] (aG s_id):=fS
noncomputable def sp_id(K:W.Frag)(d:Adr):Sp:=fun vs H Q _=>∃(v:V)(p:PI)(l:Addr)(L:List PI),vs=[v,.ref l]/\T2 H v p/\R2 H l (KS L)/\∀H',a9 H H'->Q (.bl ((RM.f7 p).all fun q=>L.contains q)) H'
theorem ok_id(F:Fun K "is_deeper" "is_deeper" s_id f fd)(T:Txt K mg base d)(D_m:aO P w K mg base CX0 1 "moved" ["place","step"] (sp_m K d)):bJ P w K mg base CX0 2 f fd ["half","layer"] (sp_id K d):=by
 refine F.ok sc_id (fun vs H Q E h=>by obtain⟨v,p,l,L,rfl,_⟩:=h;rfl) (fun _ _ _ _ H _ Q E hr h=>?_);have hu:=bB hr;obtain⟨aHALVES_ABOUT,gS,c_HALVES_ABOUT⟩:=T.gS;obtain⟨v,p,l,L,rfl,hv,hL,k⟩:=h;refine⟨_,(aB (bV PassesOwn.never rfl (kB (fK gS rfl)) (pgN (i:=2) sc_id.nd) (aD (cK (fD (d5 hu (aS D_m (hm hr) aV rfl (a8 (pv 0) (a8 (pv 2) aC))) (pv 1))) (aD (aP jQ)) bD)))
   (aD (aP jQ))),?_⟩
 obtain⟨qs,rb,wg⟩:=c_HALVES_ABOUT;have e8:qs.length=8:=pairs_len wg;refine⟨_,rfl,⟨_,rb _⟩,jL (K:=K) (a:=aHALVES_ABOUT) (xs:=qs) (fun j σ H2=>∃(v2:Option V),σ=[some v,some (.ref l),v2]/\a9 H H2/\∀m,m<j->∀q,(RM.f7 p)[m]? =some q->q∈L)
  ⟨none,rfl,a9.refl _,by intro m hm;omega⟩ (fun i σ H2 _ _=>rb H2) ?_ ?_⟩
 ·rintro j x σ H2 hx ⟨v2,rfl,s2,old⟩;obtain⟨z,hz,cz⟩:=pairs_at wg hx;have ha:=RM.CB p hz;refine⟨_,rfl,_,rfl,v,x,p,z,rfl,(hv.mono s2).c,cz _,fun n H3 s3 t3=>?_⟩;obtain⟨na,rfl,pb⟩:=t3;refine⟨_,rfl,l,_,rfl,R2.get (hL.mono (a9.trans s2 s3)) pb,_,rfl,?_⟩;rw[J4];refine cG (fun c1=>?_) (fun c1=>?_)
  ·have c1:=rL c1;have h:=k H3 (a9.trans s2 s3);have e:((RM.f7 p).all fun q=>L.contains q)=false:=by rw[iz];intro z;rw[ig]at z;have:=z _ (az ha);exact c1 (by simpa using this)
   rw[e]at h;exact h
  ·have c1:=nL c1;refine⟨_,rfl,a9.trans s2 s3,fun m hm q hq=>?_⟩;by_cases e:m=j
   ·subst e;rw[ha]at hq;cases hq;exact c1
   ·exact old m (by omega) q hq
 ·rintro σ H2 ⟨v2,rfl,s2,old⟩;have h:=k H2 s2;have e:((RM.f7 p).all fun q=>L.contains q)=true:=by rw[ig];intro q hq;obtain⟨m,hm⟩:=di.mp hq;have jw:=pT hm;have hl8:(RM.f7 p).length=8:=rfl;have:=old m (by rw[e8];omega) q hm;simpa using this
  rw[e]at h;exact h
abbrev s_do:Stmt:=(top 52)
theorem sc_do:aJ ["cells","depths","layer","depth","half","layer_above"] ["cells"] (aG s_do):=fS
noncomputable def sp_do(K:W.Frag)(d:Adr):Sp:=fun vs H Q _=>∃(c:Addr)(C:List (Nat×Nat)),vs=[.ref c]/\D2 H c (CS C)/\C.Nodup/\(∀x∈C,x.1<64/\x.2<64)/\C.length<=256/\C≠[]/\∀r H',a9 H H'->H r=none->D2 H' r (IV (RM.bQ (Roof.halvesOf C)))->Q (.ref r) H'
theorem ok_do(F:Fun K "depths_of" "depths_of" s_do f fd)(T:Txt K mg base d)(D_hco:aO P w K mg base CX0 5 "half_cells_of" ["cells"] (sp_hco K d))(D_id:aO P w K mg base CX0 2 "is_deeper" ["half","layer"] (sp_id K d)):bJ P w K mg base CX0 6 f fd ["cells"] (sp_do K d):=by
 refine F.ok sc_do (fun vs H Q E h=>by obtain⟨c,C,rfl,_⟩:=h;rfl) (fun _ _ _ _ H _ Q E hr h=>?_);have hu:=bB hr;obtain⟨c,C,rfl,hC,nd,bd,hl,jl,k⟩:=h;have hok:=RM.dR bd;have hhl:=RM.iL C;have hlhs:((Roof.halvesOf C).map RM.hP).length<=1024:=by rw[ai];omega
 have qh:((Roof.halvesOf C).map RM.hP).Nodup:=RM.d6 ((RM.fL nd bd).imp fun{a b} h e=>by omega) fun x hx y hy e=>RM.pS (hok x hx) (hok y hy) e
 have hend:∀n,64<=n->RM.aU ((Roof.halvesOf C).map RM.hP) n=[]:=fun n hn=>by rw[RM.dJ hok,RM.fH hok hn];rfl
 have hdep:∀n,0<n->RM.aU ((Roof.halvesOf C).map RM.hP) n=[]->RM.iN ((Roof.halvesOf C).map RM.hP) n=RM.bQ (Roof.halvesOf C):=fun n h0 e=>RM.C5 hok h0 e
 have hne0:RM.aU ((Roof.halvesOf C).map RM.hP) 0≠[]:=by
  intro z;have:((Roof.halvesOf C).map RM.hP).length=0:=by rw[show(Roof.halvesOf C).map RM.hP=[]from z];rfl
  rw[ai,hhl]at this;exact jl (cy (by omega))
 refine⟨_,(aB (psN (i:=1) sc_do.nd dG)
   (aB (psN (i:=2) sc_do.nd (aS D_hco (hm hr) aV rfl (a8 (pv 0) aC)))
   (aB (psN (i:=3) sc_do.nd aL)
   (aB (mZ PassesOwn.never (sO (pv 2) (fun _=>rfl)) (aB (bV PassesOwn.never rfl (cP (pv 2)) (pgN (i:=4) sc_do.nd) (aD (eS hu (pv 1) (pv 4) (pv 3) rfl)))
   (aB (AX (i:=5) sc_do.nd rfl (Or.inr rfl) (vF (C8 rfl (MN hr)) (by rfl) T.dict (by rfl) (a8 (sP (own:=[("half",4)]) rfl sc_do.nd (cP (pv 2)) (cZ (by first|decide+kernel|kernel_rfl)) (fun _ _ _ _ _=>(pgN (i:=4) sc_do.nd)) (fun _ _ _ _ _=>hO) (fun _ _ _ _ _=>(d7 (a8 (pv 4) (a8 jQ aC))))) aC)))
   (aB (yM (i:=2) (own:=[("half",4)]) rfl sc_do.nd rfl rfl (by exact rH rfl rfl rfl rfl) (cP (pv 2)) (cZ (by first|decide+kernel|kernel_rfl)) (fun _ _ _ _ _=>(pgN (i:=4) sc_do.nd)) (fun _ _ _ _ _=>(JN (iE (aS D_id (hm hr) aV rfl (a8 (pv 4) (a8 (pv 5) aC))) (fun _=>rfl)))) (fun _ _ _ _ _=>(pv 4)))
   (aD (GV (i:=3) sc_do.nd rfl (Or.inl rfl) aL IC))))))
   (aD (aP (pv 1))))))),?_⟩
 refine fun d0 Ac=>?_
 have nc:c≠d0:=aI hC Ac;refine⟨_,rfl,c,C,rfl,by unfold D2;rw[aA nc];exact hC,nd,bd,hl,fun r H1 s1 fr lt=>?_⟩;generalize (Roof.halvesOf C).map RM.hP=hs at*;have s01:a9 H H1:=a9.trans (a9.upd Ac) s1;have hD1:D2 H1 d0 []:=s1 _ _ a7;dsimp only[j2,GH,AR,tC];refine mP (fun σ H2=>∃(n:Nat)(la:Addr)(v4 v5:Option V),σ=[some (.ref c),some (.ref d0),some (.ref la),some (.int (n:Int)),v4,v5]/\a9 H H2/\LT H2 (.ref la) (RM.aU hs n)/\D2 H2 d0 (IV (RM.iN hs n)))
  (fun σ _=>100 - cnt σ 3)
  ⟨0,r,none,none,rfl,s01,lt,hD1⟩ ?_ (fun _ _ _ _ f ⟨v,e,k,t,q⟩=>⟨v,e,k,t,f _ _ q⟩)
 rintro σ H2 ⟨n,la,v4,v5,rfl,s2,⟨_,xs,e,xa,pr⟩,hD⟩;cases e;have lx:=pairs_len pr;have lL:(RM.aU hs n).length<=hs.length:=by
  have uw:∀n,(RM.aU hs n).Nodup:=fun n=>by
   induction n with
   |zero=>exact qh
   |succ n ih=>exact ih.filter _
  exact RM.bS (uw n) fun p hp=>RM.mF hs n p hp
 have uw:(RM.aU hs n).Nodup:=by
  clear hD pr lx lL;induction n with
  |zero=>exact qh
  |succ n ih=>exact ih.filter _
 refine⟨_,rfl,_,.inl ⟨_,SqL.of xa,rfl⟩,?_⟩;refine cG (fun cq=>?_) (fun cq=>?_)
 ·have hn64:n<64:=by apply Nat.lt_of_not_le;intro z;rw[hend n z]at pr;cases pr;cases cq
  have ldT:(RM.iN hs n).length<=1024:=by
   unfold RM.iN;split
   ·simp
   ·rw[ai];exact hlhs
  have nla:la≠d0:=eX xa hD (by intro z;cases z);refine⟨_,rfl,la,rfl,⟨_,SqL.of xa⟩,gV (K:=K) (a:=la) (xs:=xs) (fun i σ H3=>∃(v4:Option V),σ=[some (.ref c),some (.ref d0),some (.ref la),some (.int (n:Int)),v4,v5]/\But d0 H2 H3/\D2 H3 d0 (IV (RM.cJ (RM.iN hs n) (((RM.aU hs n).take i).map fun p=>(p,(n:Int))))))
   ⟨v4,rfl,But.refl _ _,hD⟩ (fun i σ H3 _ ⟨_,_,b3,_⟩=>SqL.of (b3 _ _ nla xa)) ?_ ?_⟩
  ·rintro i x σ H3 hx ⟨v4,rfl,b3,ku⟩;obtain⟨p,hp,tp⟩:=pairs_at pr hx;obtain⟨a,rfl,ha⟩:=tp.SD b3 hD;refine⟨_,rfl,_,rfl,_,rfl,d0,_,rfl,D2.put ku ha _ ?_,_,rfl,b3.here,?_⟩
   ·rw[dY];have h1:=RM.gI (((RM.aU hs n).take i).map fun p=>(p,(n:Int))) (RM.iN hs n);rw[ai,bu]at h1;exact few (m:=5000) (df h1 (by omega))
   ·unfold D2;rw[a7,lE,<- RM.tW,RM.take_snoc hp,cg];rfl
  ·rintro σ H3 ⟨v4,rfl,b3,ku⟩;rw[lx,bc (au _),RM.A3 qh]at ku;have uz:H3 la=some (.lst xs):=b3 _ _ nla xa;have oa:Paired (T2 H3) xs (RM.aU hs n):=aH (fun _ _ z=>z.SD b3 hD) pr;have s3:a9 H H3:=But.same b3 s2 Ac;refine⟨_,rfl,la,rfl,⟨_,SqL.of uz⟩,fun D hD0=>gH (K:=K) (a:=la) (xs:=xs)
    (fun i H4=>a9 H3 H4/\∃ps:List Addr,H4 D=some (.lst (ps.map V.ref))/\Paired (fun p (q:PI)=>∃a,H4 p=some (.tup [.ref a,.bl true])/\H4 a=some (.tup [.int q.1,.int q.2])) ps ((RM.aU hs n).take i)) ⟨a9.upd hD0,[],a7,.nil⟩ (fun i H4 _ ⟨s4,_⟩=>s4.seq (SqL.of uz)) ?_ ?_⟩
   ·rintro i x H4 hx ⟨s4,ps,h4,pp⟩;obtain⟨p,hp,tp⟩:=pairs_at oa hx;obtain⟨a,rfl,ha⟩:=tp.mono s4;have lp:=pairs_len pp;rw[bu]at lp;have ph:=pT hp;refine⟨rfl,_,rfl,(by show 2<=sizeLine;decide),fun t ht=>?_⟩;have s5:a9 H4 (upd H4 t (.tup [.ref a,.bl true])):=a9.upd ht;have h5:=s5 _ _ h4;have kT:∀b ys,(upd H4 t (.tup [.ref a,.bl true])) b=some (.tup ys)->(upd (upd H4 t (.tup [.ref a,.bl true])) D (.lst (ps.map V.ref++[.ref t]))) b=some (.tup ys):=fun b ys e=>by rw[aA (eX e h5 (by intro z;cases z))];exact e
    refine⟨_,h5,by rw[ai];exact few (m:=2000) (by omega),a9.put (a9.trans s4 s5) hD0,ps++[t],by rw[a7,cg];rfl,?_⟩;rw[RM.take_snoc hp];exact aW (R:=fun p' (q:PI)=>∃a',(upd (upd H4 t (.tup [.ref a,.bl true])) D (.lst (ps.map V.ref++[.ref t]))) p'=some (.tup [.ref a',.bl true])/\(upd (upd H4 t (.tup [.ref a,.bl true])) D (.lst (ps.map V.ref++[.ref t]))) a'=some (.tup [.int q.1,.int q.2]))
     ⟨a,kT _ _ a7,kT _ _ (s5 _ _ ha)⟩ (aH (fun p' q ⟨a',e1,e2⟩=>⟨a',kT _ _ (s5 _ _ e1),kT _ _ (s5 _ _ e2)⟩) pp)
   ·rintro H4 ⟨s4,ps,h4,pp⟩;rw[lx,bc (au _)]at pp;have pk:Paired (fun p (kv:List Key×V)=>∃q,H4 p=some (.tup [.ref q,kv.2])/\H4 q=some (.tup (kv.1.map kV))) ps (kvF k2 (KS (RM.aU hs n))):=by
     clear uz oa lx lL uw ku xa pr hD h4;generalize RM.aU hs n=L at pp;induction pp with
     |nil=>exact .nil
     |cons h _ ih=>exact .cons h ih
    refine⟨D,ps,_,rfl,SqL.of h4,pk,fun ab zi=>?_⟩;rw[E9 uw];have s5:a9 H4 (upd H4 ab (.dT (kvF k2 (KS (RM.aU hs n))))):=a9.upd zi;have hA5:D2 (upd H4 ab (.dT (kvF k2 (KS (RM.aU hs n))))) ab (KS (RM.aU hs n)):=a7;have we:a9 H3 (upd H4 ab (.dT (kvF k2 (KS (RM.aU hs n))))):=a9.trans s4 s5;generalize (upd H4 ab (.dT (kvF k2 (KS (RM.aU hs n)))))=H5 at s5 hA5 we ⊢;have Bw:=we _ _ uz;refine⟨_,rfl,la,rfl,⟨_,SqL.of Bw⟩,fun D2' Cp=>gH (K:=K) (a:=la) (xs:=xs)
     (fun i H6=>a9 H5 H6/\∃ys,H6 D2'=some (.lst ys)/\Paired (T2 H6) ys (((RM.aU hs n).take i).filter fun p=>(RM.f7 p).all fun q=>(RM.aU hs n).contains q)) ⟨a9.upd Cp,[],a7,.nil⟩ (fun i H6 _ ⟨s6,_⟩=>s6.seq (SqL.of Bw)) ?_ ?_⟩
    ·rintro i x H6 hx ⟨s6,ys,h6,py⟩;obtain⟨p,hp,tp⟩:=pairs_at oa hx;have tp6:=tp.mono (a9.trans we s6);have ly:=pairs_len py;have lf:=fy (fun p=>(RM.f7 p).all fun q=>(RM.aU hs n).contains q) ((RM.aU hs n).take i);rw[bu]at lf;refine⟨rfl,_,rfl,_,rfl,x,p,ab,RM.aU hs n,rfl,tp6,R2.mono s6 hA5.rd,fun H7 s7=>⟨_,rfl,?_⟩⟩;have h7:=s7 _ _ h6;refine cG (fun c1=>?_) (fun c1=>?_)
     ·refine⟨_,rfl,ys,h7,few (m:=2000) (df (ik ly) (df lf (by omega))),a9.put (a9.trans s6 s7) Cp,ys++[x],a7,?_⟩;rw[RM.take_snoc hp,gb,List.filter_cons_of_pos (by exact c1),List.filter_nil];exact aW ((tp6.mono s7).upd h7) (aH (fun _ _ z=>(z.mono s7).upd h7) py)
     ·refine⟨a9.trans s6 s7,ys,h7,?_⟩;rw[RM.take_snoc hp,gb,List.filter_cons_of_neg (by exact c1),List.filter_nil,dj];exact aH (fun _ _ z=>z.mono s7) py
    ·rintro H6 ⟨s6,ys,h6,py⟩;rw[lx,bc (au _)]at py;have s36:a9 H3 H6:=a9.trans we s6;refine⟨_,rfl,_,_,rfl,rfl,⟨n+1,D2',_,_,rfl,a9.trans s3 s36,⟨D2',ys,rfl,h6,py⟩,s36 _ _ ku⟩,?_⟩;show 100 - ((n:Int)+1).toNat<100 - ((n:Int)).toNat
     omega
 ·have e:xs=[]:=by
   cases xs with
   |nil=>rfl
   |cons _ _=>exact absurd rfl cq
  subst e;have en:RM.aU hs n=[]:=by
   cases h:RM.aU hs n with
   |nil=>rfl
   |cons _ _=>rw[h]at pr;cases pr
  have n0:0<n:=by apply Nat.pos_of_ne_zero;intro z;subst z;exact hne0 en
  rw[hdep n n0 en]at hD;exact⟨_,rfl,k d0 H2 s2 Ac hD⟩
abbrev s_ho:Stmt:=(top 53)
theorem sc_ho:aJ ["point","depths","step"] ["point","depths"] (aG s_ho):=fS
noncomputable def sp_ho(K:W.Frag)(d:Adr):Sp:=fun vs H Q _=>∃(v:V)(p:PI)(dA:Addr)(h:List Nat),vs=[v,.ref dA]/\T2 H v p/\R2 H dA (IV (RM.bQ h))/\∀m H',a9 H H'->m∈RM.dU h p->(∀x∈RM.dU h p,m<=x)->Q (.int m) H'
theorem ok_ho(F:Fun K "height_over" "height_over" s_ho f fd)(T:Txt K mg base d)(D_m:aO P w K mg base CX0 1 "moved" ["place","step"] (sp_m K d)):bJ P w K mg base CX0 2 f fd ["point","depths"] (sp_ho K d):=by
 refine F.ok sc_ho (fun vs H Q E h=>by obtain⟨v,p,dA,h,rfl,_⟩:=h;rfl) (fun _ _ _ _ H _ Q E hr h=>?_);have hu:=bB hr;obtain⟨aHALVES_AT_A_POINT,dX,c_HALVES_AT_A_POINT⟩:=T.dX;obtain⟨v,p,dA,h,rfl,hv,hA,k⟩:=h;refine⟨_,(aD (aP (bG (MZ rfl) (by rfl) T.min (by rfl) (a8 (sP (own:=[("step",2)]) rfl sc_ho.nd (kB (fK dX rfl)) (cZ (by first|decide+kernel|kernel_rfl)) (fun _ _ _ _ _=>(pgN (i:=2) sc_ho.nd)) (fun _ _ _ _ _=>hO) (fun _ _ _ _ _=>(cI fY (sQ hu (pv 1) (aS D_m (hm hr) aV rfl (a8 (pv 0) (a8 (pv 2) aC))) (LB G9 aL) ⟨rfl,rfl,rfl,rfl⟩) aL))) aC)))),?_⟩;obtain⟨qs,rb,wg⟩:=c_HALVES_AT_A_POINT;have e4:qs.length=4:=pairs_len wg;refine⟨_,rfl,⟨_,rb _⟩,fun D hD=>MG (K:=K) (a:=aHALVES_AT_A_POINT) (xs:=qs)
  (fun i H2=>a9 H H2/\H2 D=some (.lst (((RM.dU h p).take i).map V.int))) ⟨a9.upd hD,a7⟩ (fun i H2 _ _=>rb H2) ?_ ?_⟩
 ·rintro i x H2 hx ⟨s2,h2⟩;obtain⟨z,hz,cz⟩:=pairs_at wg hx;have hat:=RM.L1 h p hz;refine⟨rfl,_,rfl,dA,rfl,.inr ⟨_,hA.mono s2⟩,_,rfl,_,rfl,v,x,p,z,rfl,(hv.mono s2).c,cz _,fun n H3 s3 t3=>?_⟩;obtain⟨na,rfl,pb⟩:=t3;have h3:=s3 _ _ h2;have eg:(RM.aK (IV (RM.bQ h)) (p.1+z.1,p.2+z.2)).getD (V.int (-1))=V.int (RM.cY h (p.1+z.1,p.2+z.2)):=by rw[fB,<- RM.IT];cases RM.aK (RM.bQ h) (p.1+z.1,p.2+z.2)<;>rfl
  refine⟨_,rfl,_,R2.get (p:=(p.1+z.1,p.2+z.2)) (hA.mono (a9.trans s2 s3)) pb,RM.cY h (p.1+z.1,p.2+z.2),1,eg,rfl,_,h3,?_,a9.put (a9.trans s2 s3) hD,?_⟩
  ·rw[ai,bu];have:(RM.dU h p).length=4:=rfl;exact few (m:=10) (by omega)
  ·rw[a7,RM.take_snoc hat];simp
 ·rintro H2 ⟨s2,h2⟩;rw[e4]at h2;have h2:H2 D=some (.lst ((RM.dU h p).map V.int)):=h2;exact⟨D,RM.dU h p,rfl,SqL.of h2,by show 0<4;decide,fun m hm oo=>k m H2 s2 hm oo⟩
abbrev s_ho2:Stmt:=(top 54)
theorem sc_ho2:aJ ["depths","heights","half","side","point"] ["depths"] (aG s_ho2):=fS
noncomputable def sp_ho2(K:W.Frag)(d:Adr):Sp:=fun vs H Q _=>∃(dA:Addr)(h:List Nat),vs=[.ref dA]/\D2 H dA (IV (RM.bQ h))/\(∀r∈h,RM.okR r)/\h.length<=1024/\∀r ht H',a9 H H'->H r=none->D2 H' r (IV ht)->RM.G2 h ht->Q (.ref r) H'
theorem ok_ho2(F:Fun K "heights_of" "heights_of" s_ho2 f fd)(T:Txt K mg base d)(D_ss:aO P w K mg base CX0 2 "side_start" ["square","side"] (sp_ss K d))(D_ho:aO P w K mg base CX0 2 "height_over" ["point","depths"] (sp_ho K d)):bJ P w K mg base CX0 3 f fd ["depths"] (sp_ho2 K d):=by
 refine F.ok sc_ho2 (fun vs H Q E h=>by obtain⟨dA,h,rfl,_⟩:=h;rfl) (fun _ _ _ _ H _ Q E hr h=>?_);have hu:=bB hr;obtain⟨aALL_SIDES,bF,c_ALL_SIDES⟩:=T.bF;obtain⟨dA,h,rfl,hA,hok,hl,k⟩:=h;refine⟨_,(aB (psN (i:=1) sc_ho2.nd dG)
   (aB (jA (bV PassesOwn.never rfl (n6 (pv 0)) (pgN (i:=2) sc_ho2.nd) (aD (bV PassesOwn.never rfl (kB (fK bF rfl)) (pgN (i:=3) sc_ho2.nd) (aB (psN (i:=4) sc_ho2.nd (aS D_ss (hm hr) aV rfl (a8 (pv 2) (a8 (pv 3) aC))))
   (aD (cK (fD (d5 hu (pv 4) (pv 1))) (aD (eS hu (pv 1) (pv 4) (aS D_ho (hm hr) aV rfl (a8 (pv 4) (a8 (pv 0) aC))) rfl)) bD)))))))
   (aD (aP (pv 1))))),?_⟩
 refine fun f hf=>?_
 have nc:dA≠f:=aI hA hf;have kj:∀od,(upd H dA (.frz od (.dT (kvF k2 (IV (RM.bQ h)))))) f=none:=fun od=>fF hA hf
 have Cw:(IV (RM.bQ h)).map (·.1)=h.map RM.hP:=by rw[xT];unfold RM.bQ;rw[RM.gQ]
 refine⟨dA,.dT (kvF k2 (IV (RM.bQ h))),by rw[aA nc];exact hA,trivial,fun od=>⟨_,rfl,dA,od,rfl,.inr ⟨_,a7,nU (d:=dA) (od:=od) (kvs:=kvF k2 (IV (RM.bQ h)))
  (fun i σ H2=>∃(ht:List (PI×Int))(v2 v3 v4:Option V),σ=[some (.ref dA),some (.ref f),v2,v3,v4]/\a9 (upd H dA (.frz od (.dT (kvF k2 (IV (RM.bQ h)))))) H2/\D2 H2 f (IV ht)/\RM.gE h ht i 0)
  ⟨[],none,none,none,rfl,a9.both (a9.upd hf),by unfold D2;rw[aA nc.symm,a7];rfl,RM.gE.start h⟩ (fun i σ H2 ⟨_,_,_,_,_,s2,_⟩=>s2 _ _ a7) ?_ ?_⟩⟩⟩
 ·rintro i kk vv q σ H2 hi hq ⟨ht,v2,v3,v4,rfl,s2,hD,pre⟩;obtain⟨p,hp,rfl⟩:=pM hi;have hp2:(h.map RM.hP)[i]? =some p:=by have:=congrArg (Option.map Prod.fst) hp;rw[<- ba,Cw]at this;exact this
  obtain⟨r,hr,rfl⟩:∃r,h[i]? =some r/\p=RM.hP r:=by
   rw[ba]at hp2;cases e:h[i]? with
   |none=>rw[e]at hp2;cases hp2
   |some r=>rw[e]at hp2;exact⟨r,rfl,(Option.some.inj hp2).symm⟩
  have ph:=pT hr;refine⟨_,rfl,⟨_,c_ALL_SIDES _⟩,jL (K:=K) (a:=aALL_SIDES) (xs:=[.int 0,.int 1,.int 2,.int 3]) (fun j σ H3=>∃(ht:List (PI×Int))(v3 v4:Option V),σ=[some (.ref dA),some (.ref f),some (.ref q),v3,v4]/\a9 (upd H dA (.frz od (.dT (kvF k2 (IV (RM.bQ h)))))) H3/\T2 H3 (.ref q) (RM.hP r)/\D2 H3 f (IV ht)/\RM.gE h ht i j)
   ⟨ht,v3,v4,rfl,s2,⟨q,rfl,hq⟩,hD,pre⟩ (fun i σ H2 _ _=>c_ALL_SIDES H2) ?_ ?_⟩
  ·rintro j x σ H3 hx ⟨ht,v3,v4,rfl,s3,tq,hD,pre⟩;obtain⟨hj,rfl⟩:=mW hx;refine⟨_,rfl,_,rfl,.ref q,RM.hP r,j,rfl,tq.c,hj,fun n H4 s4 t4=>?_⟩;obtain⟨na,rfl,pb⟩:=t4;have ka:D2 H4 f (IV ht):=s4 _ _ hD;refine⟨_,rfl,_,rfl,f,_,rfl,R2.get (p:=RM.aM (RM.hP r) j) ka.rd pb,_,rfl,?_⟩;rw[J8];refine cG (fun c1=>?_) (fun c1=>?_)
   ·refine⟨_,rfl,_,rfl,.ref na,RM.aM (RM.hP r) j,dA,h,rfl,⟨na,rfl,pb⟩,.inr ⟨od,(a9.trans s3 s4) _ _ a7⟩,fun m H5 s5 hm oo=>?_⟩;have em:=RM.KC hok (az hr) hm oo;subst em;have lr:D2 H5 f (IV ht):=s5 _ _ ka;have lp:=pre.len;refine⟨_,rfl,_,rfl,f,_,rfl,D2.put lr (s5 _ _ pb) _ (by rw[dY];exact few (m:=5000) (by omega)),_,_,_,rfl,a9.put (a9.trans s3 (a9.trans s4 s5)) (kj od),T2.rC (tq.mono (a9.trans s4 s5)) lr (by intro _ z;cases z),?_,pre.put hr⟩;unfold D2;rw[a7,lE]
   ·have c1:(RM.aK ht (RM.aM (RM.hP r) j)).isSome=true:=by
     cases e:(RM.aK ht (RM.aM (RM.hP r) j)).isSome with
     |true=>rfl
     |false=>rw[e]at c1;exact absurd rfl c1
    exact⟨ht,_,_,rfl,a9.trans s3 s4,tq.mono s4,ka,pre.keep hr c1⟩
  ·rintro σ H3 ⟨ht,v3,v4,rfl,s3,tq,hD,pre⟩;exact⟨ht,_,_,_,rfl,s3,hD,pre.next⟩
 ·rintro σ H2 ⟨ht,v2,v3,v4,rfl,s2,hD,pre⟩;have el:(kvF k2 (IV (RM.bQ h))).length=h.length:=by rw[eZ,dY];unfold RM.bQ;rw[ai,ai]
  rw[el]at pre;exact⟨s2 _ _ a7,_,rfl,k f ht _ (a9.unlock hA s2) hf (by unfold D2;rw[aA nc.symm];exact hD) pre.done⟩
abbrev s_fo2:Stmt:=(top 57)
theorem sc_fo2:aJ ["half","side","depth","heights","start_is_low","end_is_low"] ["half","side","depth","heights"] (aG s_fo2):=fS
noncomputable def sp_fo2(K:W.Frag)(d:Adr):Sp:=fun vs H Q _=>∃(v:V)(r s0:Nat)(h:List Nat)(hA:Addr)(ht:List (PI×Int)),vs=[v,.int (s0:Nat),.int (RM.cY h (RM.hP r)),.ref hA]/\T2 H v (RM.hP r)/\s0<4/\r∈h/\R2 H hA (IV ht)/\RM.G2 h ht/\∀H',a9 H H'->Q (.int (RM.tO h ((RM.hP r).1,(RM.hP r).2,(s0:Int)))) H'
theorem ok_fo2(F:Fun K "facing_of" "facing_of" s_fo2 f fd)(T:Txt K mg base d)(D_ss:aO P w K mg base CX0 2 "side_start" ["square","side"] (sp_ss K d))(D_se:aO P w K mg base CX0 3 "side_end" ["square","side"] (sp_se K d))(D_lo:aO P w K mg base CX0 1 "left_of" ["direction"] (sp_lo K d))(D_ro:aO P w K mg base CX0 1 "right_of" ["direction"] (sp_ro K d))(D_o:aO P w K mg base CX0 1 "opposite" ["direction"] (sp_o K d)):bJ P w K mg base CX0 4 f fd ["half","side","depth","heights"] (sp_fo2 K d):=by
 refine F.ok sc_fo2 (fun vs H Q E h=>by obtain⟨v,r,s0,h,hA,ht,rfl,_⟩:=h;rfl) (fun _ _ _ _ H _ Q E hr h=>?_);have hu:=bB hr;obtain⟨v,r,s0,h,hA,ht,rfl,hv,hs,hrm,hT,ok,k⟩:=h;have g1:=ok.all r hrm s0 hs;have ec:RM.aM (RM.hP r) ((s0+1)%4)=RM.aM (RM.hP r) (s0+1):=by unfold RM.aM;rw[Nat.mod_mod]
 have g2:RM.aK ht (RM.aM (RM.hP r) (s0+1))=some (RM.hgt h (RM.aM (RM.hP r) (s0+1))):=by rw[<- ec];exact ok.all r hrm ((s0+1)%4) (by omega)
 have ef:RM.tO h ((RM.hP r).1,(RM.hP r).2,(s0:Int))=RM.IM s0 (RM.hgt h (RM.aM (RM.hP r) s0)) (RM.hgt h (RM.aM (RM.hP r) (s0+1))) (RM.cY h (RM.hP r)):=by unfold RM.tO;simp
 rw[ef]at k;generalize RM.hgt h (RM.aM (RM.hP r) s0)=u at*;generalize RM.hgt h (RM.aM (RM.hP r) (s0+1))=w at*;generalize RM.cY h (RM.hP r)=dd at*;refine⟨_,(aB (psN (i:=4) sc_fo2.nd (n8 iX (lI hu (pv 3) (aS D_ss (hm hr) aV rfl (a8 (pv 0) (a8 (pv 1) aC))) (fun _ _=>rfl)) (pv 2) (c6 _)))
   (aB (psN (i:=5) sc_fo2.nd (n8 iX (lI hu (pv 3) (aS D_se (hm hr) aV rfl (a8 (pv 0) (a8 (pv 1) aC))) (fun _ _=>rfl)) (pv 2) (c6 _)))
   (aB (cK (PW.pt (p8 (iE (pv 4) (fun _=>rfl)) (mY (iE (pv 5) (fun _=>rfl))))) (aD (aP (pv 1))) bD)
   (aB (cK (iE (pv 5) (fun _=>rfl)) (aD (aP (aS D_lo (hm hr) aV rfl (a8 (pv 1) aC)))) bD)
   (aB (cK (iE (pv 4) (fun _=>rfl)) (aD (aP (aS D_ro (hm hr) aV rfl (a8 (pv 1) aC)))) bD)
   (aD (aP (aS D_o (hm hr) aV rfl (a8 (pv 1) aC))))))))),?_⟩
 refine⟨_,rfl,_,rfl,_,rfl,v,RM.hP r,s0,rfl,hv.c,hs,fun n H1 s1 t1=>?_⟩;obtain⟨na,rfl,pb⟩:=t1;have d1:lF H1 hA (.ref na) (some (.int u)):=by have:=(hT.mono s1).get (p:=RM.aM (RM.hP r) s0) pb;rw[fB,g1]at this;exact this
 refine⟨hA,_,rfl,d1,_,rfl,rfl,?_⟩;refine⟨_,rfl,_,rfl,_,rfl,v,RM.hP r,s0,rfl,(hv.mono s1).c,hs,fun n H2 s2 t2=>?_⟩;obtain⟨ma,rfl,hma⟩:=t2;have d2:lF H2 hA (.ref ma) (some (.int w)):=by have:=(hT.mono (a9.trans s1 s2)).get (p:=RM.aM (RM.hP r) (s0+1)) hma;rw[fB,g2]at this;exact this
 refine⟨hA,_,rfl,d2,_,rfl,rfl,?_⟩;have k:=k H2 (a9.trans s1 s2);unfold RM.IM at k;have du:decide (V.int u=V.int dd)=true↔u=dd:=by rw[decide_eq_true_iff];exact⟨V.int.inj,fun z=>by rw[z]⟩
 have dw:decide (V.int w=V.int dd)=true↔w=dd:=by rw[decide_eq_true_iff];exact⟨V.int.inj,fun z=>by rw[z]⟩
 by_cases cu:u=dd
 ·by_cases cw:w=dd
  ·rw[ah ⟨cu,cw⟩]at k;rw[du.mpr cu,dw.mpr cw];exact⟨_,rfl,_,rfl,_,rfl,_,rfl,_,rfl,k⟩
  ·rw[ag (fun z=>cw z.2),ag cw,ah cu]at k;have e2:decide (V.int w=V.int dd)=false:=by rw[iz];exact fun z=>cw (dw.mp z)
   rw[du.mpr cu,e2];exact⟨_,rfl,_,rfl,_,rfl,_,rfl,_,rfl,_,rfl,_,rfl,_,rfl,_,rfl,_,rfl,k⟩
 ·by_cases cw:w=dd
  ·rw[ag (fun z=>cu z.1),ah cw]at k;have e1:decide (V.int u=V.int dd)=false:=by rw[iz];exact fun z=>cu (du.mp z)
   rw[e1,dw.mpr cw];exact⟨_,rfl,_,rfl,_,rfl,_,rfl,_,rfl,_,rfl,k⟩
  ·rw[ag (fun z=>cu z.1),ag cw,ag cu]at k;have e1:decide (V.int u=V.int dd)=false:=by rw[iz];exact fun z=>cu (du.mp z)
   have e2:decide (V.int w=V.int dd)=false:=by rw[iz];exact fun z=>cw (dw.mp z)
   rw[e1,e2];exact⟨_,rfl,_,rfl,_,rfl,_,rfl,_,rfl,_,rfl,_,rfl,_,rfl,k⟩
abbrev s_fo3:Stmt:=(top 58)
theorem sc_fo3:aJ ["depths","heights","facings","half","depth","side"] ["depths","heights"] (aG s_fo3):=fS
theorem KR{h:List Nat}{i:Nat}{p:PI}{v:V}(hp:(IV (RM.bQ h))[i]? =some (p,v)):∃r,h[i]? =some r/\p=RM.hP r/\v=.int (RM.cY h (RM.hP r)):=by
 unfold IV RM.bQ at hp;rw[ba,ba,ba]at hp;cases e:h[i]? with
 |none=>rw[e]at hp;cases hp
 |some r=>rw[e]at hp;cases hp;exact⟨r,rfl,rfl,rfl⟩
noncomputable def sp_fo3(K:W.Frag)(d:Adr):Sp:=fun vs H Q _=>∃(dA hA:Addr)(h:List Nat)(ht:List (PI×Int)),vs=[.ref dA,.ref hA]/\D2 H dA (IV (RM.bQ h))/\D2 H hA (IV ht)/\dA≠hA/\RM.G2 h ht/\(h.map RM.hP).Nodup/\h.length<=1024/\∀r H',a9 H H'->H r=none->D3 H' r (IV (RM.cS h))->Q (.ref r) H'
theorem ok_fo3(F:Fun K "facings_of" "facings_of" s_fo3 f fd)(T:Txt K mg base d)(D_fo2:aO P w K mg base CX0 4 "facing_of" ["half","side","depth","heights"] (sp_fo2 K d)):bJ P w K mg base CX0 5 f fd ["depths","heights"] (sp_fo3 K d):=by
 refine F.ok sc_fo3 (fun vs H Q E h=>by obtain⟨dA,hA,h,ht,rfl,_⟩:=h;rfl) (fun _ _ _ _ H _ Q E hr h=>?_);have hu:=bB hr;obtain⟨aALL_SIDES,bF,c_ALL_SIDES⟩:=T.bF;obtain⟨dA,hA,h,ht,rfl,hD,hT,nAT,ok,qh,hl,k⟩:=h;refine⟨_,(aB (psN (i:=2) sc_fo3.nd dG)
   (aB (jA (bV PassesOwn.never rfl (pC (pv 0)) (gO rfl (aT (pgN (i:=3) sc_fo3.nd) (aT (pgN (i:=4) sc_fo3.nd) d9))) (aD (bV PassesOwn.never rfl (kB (fK bF rfl)) (pgN (i:=5) sc_fo3.nd) (aD (eS hu (pv 2) (d7 (a8 (cD c7 (pv 3) aL (fun _ _=>rfl)) (a8 (cD c7 (pv 3) aL (fun _ _=>rfl)) (a8 (pv 5) aC)))) (aS D_fo2 (hm hr) aV rfl (a8 (pv 3) (a8 (pv 5) (a8 (pv 4) (a8 (pv 1) aC))))) rfl))))))
   (aD (aP (pv 2))))),?_⟩
 refine fun f hf=>?_
 have nc:dA≠f:=aI hD hf;have kj:∀od,(upd H dA (.frz od (.dT (kvF k2 (IV (RM.bQ h)))))) f=none:=fun od=>fF hD hf
 have Az:∀od,D2 (upd H dA (.frz od (.dT (kvF k2 (IV (RM.bQ h)))))) hA (IV ht):=fun od=>by unfold D2;rw[aA nAT.symm];exact hT
 refine⟨dA,.dT (kvF k2 (IV (RM.bQ h))),by rw[aA nc];exact hD,trivial,fun od=>⟨_,rfl,dA,od,_,rfl,a7,pW (d:=dA) (od:=od) (kvs:=kvF k2 (IV (RM.bQ h)))
  (fun i σ H2=>∃(v3 v4 v5:Option V),σ=[some (.ref dA),some (.ref hA),some (.ref f),v3,v4,v5]/\a9 (upd H dA (.frz od (.dT (kvF k2 (IV (RM.bQ h)))))) H2/\D3 H2 f (IV ((RM.fO ((h.map RM.hP).take i)).map fun t=>(t,RM.tO h t))))
  ⟨none,none,none,rfl,a9.both (a9.upd hf),by unfold D3;rw[aA nc.symm,a7];rfl⟩ (fun i σ H2 ⟨_,_,_,_,s2,_⟩=>s2 _ _ a7) ?_ ?_⟩⟩
 ·rintro i kk vv q T2' σ H2 hi hq xh ⟨v3,v4,v5,rfl,s2,hF⟩;obtain⟨p,hp,rfl⟩:=pM hi;obtain⟨r,hr',rfl,rfl⟩:=KR hp;have hp2:(h.map RM.hP)[i]? =some (RM.hP r):=by rw[ba,hr'];rfl
  have ph:=pT hr';have s3:a9 H2 (upd H2 T2' (.tup [.ref q,.int (RM.cY h (RM.hP r))])):=a9.upd xh;refine⟨T2',_,rfl,SqT.of a7,rfl,_,_,rfl,_,_,rfl,rfl,?_⟩;have hF3:D3 (upd H2 T2' (.tup [.ref q,.int (RM.cY h (RM.hP r))])) f _:=s3 _ _ hF;have uv:=s3 _ _ hq;have tj:=a9.trans s2 s3;generalize (upd H2 T2' (.tup [.ref q,.int (RM.cY h (RM.hP r))]))=H3 at s3 hF3 uv tj ⊢;refine⟨_,rfl,⟨_,c_ALL_SIDES _⟩,jL (K:=K) (a:=aALL_SIDES) (xs:=[.int 0,.int 1,.int 2,.int 3]) (fun j σ H4=>∃(v5:Option V),σ=[some (.ref dA),some (.ref hA),some (.ref f),some (.ref q),some (.int (RM.cY h (RM.hP r))),v5]/\a9 (upd H dA (.frz od (.dT (kvF k2 (IV (RM.bQ h)))))) H4/\T2 H4 (.ref q) (RM.hP r)/\D3 H4 f (IV ((RM.fO ((h.map RM.hP).take i)++(RM.wL (RM.hP r)).take j).map fun t=>(t,RM.tO h t))))
   ⟨v5,rfl,tj,⟨q,rfl,uv⟩,by rw[take_zero,dj];exact hF3⟩ (fun i σ H2 _ _=>c_ALL_SIDES H2) ?_ ?_⟩
  ·rintro j x σ H4 hx ⟨v5,rfl,s4,tq,hF⟩;obtain⟨hj,rfl⟩:=mW hx;refine⟨_,rfl,_,rfl,_,rfl,_,rfl,.ref q,r,j,h,hA,ht,rfl,tq,hj,az hr',R2.mono s4 (Az od).rd,ok,fun H5 s5=>?_⟩;obtain⟨_,e,hq5⟩:=tq.mono s5;cases e;refine⟨_,rfl,_,rfl,q,_,_,_,rfl,rfl,SqT.of hq5,bI (by decide) rfl,_,rfl,q,_,_,_,rfl,rfl,SqT.of hq5,bI (by decide) rfl,_,rfl,(by show 3<=sizeLine;decide),fun t qz=>?_⟩;have s6:a9 H5 (upd H5 t (.tup [.int (RM.hP r).1,.int (RM.hP r).2,.int (j:Int)])):=a9.upd qz;have Co:D3 (upd H5 t (.tup [.int (RM.hP r).1,.int (RM.hP r).2,.int (j:Int)])) f (IV ((RM.fO ((h.map RM.hP).take i)++(RM.wL (RM.hP r)).take j).map fun t=>(t,RM.tO h t))):=s6 _ _ (s5 _ _ hF);refine⟨f,_,rfl,D3.put (p:=((RM.hP r).1,(RM.hP r).2,(j:Int))) Co a7 _ ?_,_,rfl,a9.put (a9.trans s4 (a9.trans s5 s6)) (kj od),T2.rC (tq.mono (a9.trans s5 s6)) Co (by intro _ z;cases z),?_⟩
   ·rw[dY,ai,aq,bu];have h1:=RM.DU (h.map RM.hP) i;rw[ai]at h1;have h2:(RM.wL (RM.hP r)).length=4:=rfl;exact few (m:=5000) (by omega)
   ·unfold D3;rw[a7,lE,RM.fU,RM.DW (RM.hP r) hj]
    ·simp
    ·rw[RM.gQ];exact RM.DV qh hp2 hj
  ·rintro σ H4 ⟨v5,rfl,s4,tq,hF⟩;refine⟨_,_,_,rfl,s4,?_⟩;rw[RM.AM hp2];exact hF
 ·rintro σ H2 ⟨v3,v4,v5,rfl,s2,hF⟩;have el:(kvF k2 (IV (RM.bQ h))).length=(h.map RM.hP).length:=by rw[eZ,dY];unfold RM.bQ;rw[ai]
  rw[el,bc (au _)]at hF;exact⟨s2 _ _ a7,_,rfl,k f _ (a9.unlock hD s2) hf (by unfold D3;rw[aA nc.symm];exact hF)⟩
abbrev s_ta:Stmt:=(top 59)
theorem sc_ta:aJ ["triangle","across","i","j","side"] ["triangle"] (aG s_ta):=fS
noncomputable def sp_ta(K:W.Frag)(d:Adr):Sp:=fun vs H Q _=>∃(v:V)(t:PI3),vs=[v]/\T3 H v t/\0<=t.2.2/\t.2.2<4/\∀r H',a9 H H'->T3 H' r ((RM.aN (t.1,t.2.1) t.2.2.toNat).1,(RM.aN (t.1,t.2.1) t.2.2.toNat).2,(t.2.2+2)%4)->Q r H'
theorem ok_ta(F:Fun K "triangle_across" "triangle_across" s_ta f fd)(T:Txt K mg base d)(D_b:aO P w K mg base CX0 2 "beyond" ["place","direction"] (sp_b K d))(D_o:aO P w K mg base CX0 1 "opposite" ["direction"] (sp_o K d)):bJ P w K mg base CX0 3 f fd ["triangle"] (sp_ta K d):=by
 refine F.ok sc_ta (fun vs H Q E h=>by obtain⟨v,t,rfl,_⟩:=h;rfl) (fun _ _ _ _ H _ Q E hr h=>?_);have hu:=bB hr;obtain⟨v,t,rfl,⟨a,rfl,ha⟩,h0,h4,k⟩:=h;refine⟨_,(aB (pA (pv 0) (gO rfl (aT (pgN (i:=2) sc_ta.nd) (aT (pgN (i:=3) sc_ta.nd) (aT (pgN (i:=4) sc_ta.nd) d9)))))
   (aB (psN (i:=1) sc_ta.nd (aS D_b (hm hr) aV rfl (a8 (d7 (a8 (pv 2) (a8 (pv 3) aC))) (a8 (pv 4) aC))))
   (aD (aP (d7 (a8 (cD c7 (pv 1) aL (fun _ _=>rfl)) (a8 (cD c7 (pv 1) aL (fun _ _=>rfl)) (a8 (aS D_o (hm hr) aV rfl (a8 (pv 4) aC)) aC)))))))),?_⟩
 refine⟨_,rfl,a,_,rfl,SqT.of ha,rfl,_,_,rfl,_,_,rfl,_,_,rfl,rfl,?_⟩;refine⟨_,rfl,_,rfl,(by show 2<=sizeLine;decide),fun b hb=>?_⟩;have s1:a9 H (upd H b (.tup [.int t.1,.int t.2.1])):=a9.upd hb;refine⟨_,rfl,.ref b,(t.1,t.2.1),t.2.2.toNat,congrArg (fun z=>[V.ref b,V.int z]) (fu h0).symm,T2.c ⟨b,rfl,a7⟩,by omega,fun n H2 s2 t2=>?_⟩;obtain⟨na,rfl,pb⟩:=t2;refine⟨_,rfl,na,_,_,_,rfl,rfl,SqT.of pb,bI (by decide) rfl,_,rfl,na,_,_,_,rfl,rfl,SqT.of pb,bI (by decide) rfl,_,rfl,_,rfl,(by show 3<=sizeLine;decide),fun c hc=>?_⟩;exact k _ _ (a9.trans s1 (a9.trans s2 (a9.upd hc))) ⟨c,rfl,a7⟩
abbrev s_tol:Stmt:=(top 60)
theorem sc_tol:aJ ["triangle","i","j","side"] ["triangle"] (aG s_tol):=fS
noncomputable def sp_tol(K:W.Frag)(d:Adr):Sp:=fun vs H Q _=>∃(v:V)(t:PI3),vs=[v]/\T3 H v t/\∀r H',a9 H H'->T3 H' r (t.1,t.2.1,(t.2.2+1)%4)->Q r H'
theorem ok_tol(F:Fun K "triangle_on_left" "triangle_on_left" s_tol f fd)(T:Txt K mg base d)(D_lo:aO P w K mg base CX0 1 "left_of" ["direction"] (sp_lo K d)):bJ P w K mg base CX0 2 f fd ["triangle"] (sp_tol K d):=by
 refine F.ok sc_tol (fun vs H Q E h=>by obtain⟨v,t,rfl,_⟩:=h;rfl) (fun _ _ _ _ H _ Q E hr h=>?_);have hu:=bB hr;obtain⟨v,t,rfl,⟨a,rfl,ha⟩,k⟩:=h;refine⟨_,(aB (pA (pv 0) (gO rfl (aT (pgN (i:=1) sc_tol.nd) (aT (pgN (i:=2) sc_tol.nd) (aT (pgN (i:=3) sc_tol.nd) d9)))))
   (aD (aP (d7 (a8 (pv 1) (a8 (pv 2) (a8 (aS D_lo (hm hr) aV rfl (a8 (pv 3) aC)) aC))))))),?_⟩
 refine⟨_,rfl,a,_,rfl,SqT.of ha,rfl,_,_,rfl,_,_,rfl,_,_,rfl,rfl,?_⟩;refine⟨_,rfl,_,rfl,_,rfl,_,rfl,(by show 3<=sizeLine;decide),fun c hc=>?_⟩;exact k _ _ (a9.upd hc) ⟨c,rfl,a7⟩
abbrev s_tor:Stmt:=(top 61)
theorem sc_tor:aJ ["triangle","i","j","side"] ["triangle"] (aG s_tor):=fS
noncomputable def sp_tor(K:W.Frag)(d:Adr):Sp:=fun vs H Q _=>∃(v:V)(t:PI3),vs=[v]/\T3 H v t/\∀r H',a9 H H'->T3 H' r (t.1,t.2.1,(t.2.2+3)%4)->Q r H'
theorem ok_tor(F:Fun K "triangle_on_right" "triangle_on_right" s_tor f fd)(T:Txt K mg base d)(D_ro:aO P w K mg base CX0 1 "right_of" ["direction"] (sp_ro K d)):bJ P w K mg base CX0 2 f fd ["triangle"] (sp_tor K d):=by
 refine F.ok sc_tor (fun vs H Q E h=>by obtain⟨v,t,rfl,_⟩:=h;rfl) (fun _ _ _ _ H _ Q E hr h=>?_);have hu:=bB hr;obtain⟨v,t,rfl,⟨a,rfl,ha⟩,k⟩:=h;refine⟨_,(aB (pA (pv 0) (gO rfl (aT (pgN (i:=1) sc_tor.nd) (aT (pgN (i:=2) sc_tor.nd) (aT (pgN (i:=3) sc_tor.nd) d9)))))
   (aD (aP (d7 (a8 (pv 1) (a8 (pv 2) (a8 (aS D_ro (hm hr) aV rfl (a8 (pv 3) aC)) aC))))))),?_⟩
 refine⟨_,rfl,a,_,rfl,SqT.of ha,rfl,_,_,rfl,_,_,rfl,_,_,rfl,rfl,?_⟩;refine⟨_,rfl,_,rfl,_,rfl,_,rfl,(by show 3<=sizeLine;decide),fun c hc=>?_⟩;exact k _ _ (a9.upd hc) ⟨c,rfl,a7⟩
abbrev s_nf:Stmt:=(top 62)
theorem sc_nf:aJ ["first","number","facings","numbers","facing","waiting","triangle"] ["first","number","facings","numbers"] (aG s_nf):=fS
noncomputable def sp_nf(K:W.Frag)(d:Adr):Sp:=fun vs H Q _=>∃(v:V)(n:Int)(fA nA:Addr)(fac jx:List (PI3×Int))(t0:PI3),vs=[v,.int n,.ref fA,.ref nA]/\T3 H v t0/\R3 H fA (IV fac)/\D3 H nA (IV jx)/\fA≠nA/\(∀t z,RM.aK fac t=some z->0<=t.2.2/\t.2.2<4)/\(RM.aK fac t0).isSome=true/\RM.aK jx t0=none/\fac.length<=4096/\(jx.map (·.1)).Nodup/\(∀t∈jx.map (·.1),t∈fac.map (·.1))/\∀(N:List PI3)(H':Hp),But nA H H'->D3 H' nA (IV (jx++N.map fun p=>(p,n)))->N.Nodup->(∀p,p∈N↔RM.Rch (RM.okT (RM.aK fac) t0) RM.nbP (RM.isN (RM.aK jx)) t0 p)->Q .non H'
theorem ok_nf(F:Fun K "number_face" "number_face" s_nf f fd)(T:Txt K mg base d)(D_tol:aO P w K mg base CX0 2 "triangle_on_left" ["triangle"] (sp_tol K d))(D_tor:aO P w K mg base CX0 2 "triangle_on_right" ["triangle"] (sp_tor K d))(D_ta:aO P w K mg base CX0 3 "triangle_across" ["triangle"] (sp_ta K d)):bJ P w K mg base CX0 4 f fd ["first","number","facings","numbers"] (sp_nf K d):=by
 refine F.ok sc_nf (fun vs H Q E h=>by obtain⟨v,n,fA,nA,fac,jx,t0,rfl,_⟩:=h;rfl) (fun _ _ _ _ H _ Q E hr h=>?_);have hu:=bB hr;obtain⟨v,n,fA,nA,fac,jx,t0,rfl,⟨a0,rfl,ha0⟩,hF,hN,nFN,Bf,h0s,h0n,jt,nnd,nsub,k⟩:=h;obtain⟨fz,hfz⟩:∃fz,RM.aK fac t0=some fz:=by
  cases e:RM.aK fac t0 with
  |none=>rw[e]at h0s;cases h0s
  |some z=>exact⟨z,rfl⟩
 have hFb:∀H',But nA H H'->R3 H' fA (IV fac):=fun H' e=>by
  rcases hF with h|⟨o,h⟩
  ·exact .inl (e _ _ nFN h)
  ·exact .inr ⟨o,e _ _ nFN h⟩
 have d0:lF H fA (.ref a0) (some (.int fz)):=by have:=hF.get (p:=t0) ha0;rw[fB,hfz]at this;exact this
 refine⟨_,(aB (psN (i:=4) sc_nf.nd (lI hu (pv 2) (pv 0) (fun _ _=>rfl)))
   (aB (psN (i:=5) sc_nf.nd (eU (a8 (pv 0) aC)))
   (aD (mZ PassesOwn.never (sO (pv 5) (fun _=>rfl)) (aB (psN (i:=6) sc_nf.nd (AZ PySem.F.plainAttrs_list PySem.F.slot_list_pop PySem.F.type_list_pop B8 (pv 5)))
   (aD (cK (PW.pt (p8 (bX iX (HE hu (pv 2) (pv 6) ⟨rfl,rfl,rfl,rfl⟩) (pv 4) (c6 _)) (mY (fD (d5 hu (pv 6) (pv 3)))))) (aB (eS hu (pv 3) (pv 6) (pv 1) rfl)
   (aB (cT (hV PySem.F.plainAttrs_list PySem.F.slot_list_append PySem.F.type_list_append cF (pv 5) (a8 (aS D_tol (hm hr) aV rfl (a8 (pv 6) aC)) aC)))
   (aB (cT (hV PySem.F.plainAttrs_list PySem.F.slot_list_append PySem.F.type_list_append cF (pv 5) (a8 (aS D_tor (hm hr) aV rfl (a8 (pv 6) aC)) aC)))
   (aD (cT (hV PySem.F.plainAttrs_list PySem.F.slot_list_append PySem.F.type_list_append cF (pv 5) (a8 (aS D_ta (hm hr) aV rfl (a8 (pv 6) aC)) aC))))))) bD))))))),?_⟩
 refine⟨_,rfl,_,rfl,fA,_,rfl,d0,_,rfl,(by show 1<=sizeLine;decide),fun w hw=>?_⟩;have As:w≠nA:=(aI hN hw).symm;have s1:a9 H (upd H w (.lst [.ref a0])):=a9.upd hw;dsimp only[j2,GH,AR,tC];refine mP (fun σ H2=>∃(xs:List V)(ws N:List PI3)(v6:Option V),σ=[some (.ref a0),some (.int n),some (.ref fA),some (.ref nA),some (.int fz),some (.ref w),v6]/\But nA H H2/\H2 w=some (.lst xs)/\Paired (T3 H2) xs ws/\D3 H2 nA (IV (jx++N.map fun p=>(p,n)))/\RM.gJ (RM.okT (RM.aK fac) t0) RM.nbP (RM.isN (RM.aK jx)) t0 N ws/\N.Nodup/\(∀p∈N,(RM.aK fac p).isSome=true/\RM.aK jx p=none)/\xs.length<=1+3*N.length)
  (fun _ H2=>uF H2 w+4*(10000 - lX H2 nA))
  ⟨[.ref a0],[t0],[],none,rfl,a9.but s1,a7,.cons ⟨a0,rfl,s1 _ _ ha0⟩ .nil,by rw[ie,dj];exact s1 _ _ hN,RM.gJ.first,gw,fun p hp=>(by cases hp),by simp⟩ ?_ (fun _ _ _ _ f ⟨v,e,k,t,q⟩=>⟨v,e,k,t,f _ _ q⟩)
 rintro σ H2 ⟨xs,ws,N,v6,rfl,b2,h2,pr,hD,sr,Nnd,Nin,lxs⟩;have wq:(jx++N.map fun p=>(p,n)).map (·.1)=jx.map (·.1)++N:=by rw[cg];congr 1;rw[dq];exact map_id N
 have tot:jx.length+N.length<=4096:=by
  have hnd2:(jx.map (·.1)++N).Nodup:=by rw[cv];exact⟨nnd,Nnd,fun a ha b hb e=>RM.lV.mp (Nin b hb).2 (e▸ha)⟩
  have:=RM.bS hnd2 (b:=fac.map (·.1)) fun p hp=>by
   rcases ay.mp hp with hp|hp
   ·exact nsub p hp
   ·exact(RM.aQ p fac).mp (Nin p hp).1
  rw[aq,ai,ai]at this;omega
 refine⟨_,rfl,_,.inl ⟨_,SqL.of h2,rfl⟩,?_⟩;refine cG (fun cq=>?_) (fun cq=>?_)
 ·have jl:xs≠[]:=by intro z;rw[z]at cq;cases cq
  have hpos:0<xs.length:=fh.mpr jl;obtain⟨y,hy⟩:∃y,xs[xs.length - 1]? =some y:=⟨_,bq (by omega)⟩
  obtain⟨q,hq,ty⟩:=pairs_at pr hy;have ews:=K3 (pairs_len pr).symm hq;refine⟨_,rfl,.inl ⟨rfl,_,SqL.of h2⟩,w,xs,y,rfl,rfl,h2,hy,?_⟩;have b4:But nA H (upd H2 w (.lst xs.dropLast)):=b2.put hw;have uj:Paired (T3 (upd H2 w (.lst xs.dropLast))) xs.dropLast ws.dropLast:=aH (fun _ _ z=>z.upd h2) (eV pr);have ka:D3 (upd H2 w (.lst xs.dropLast)) nA (IV (jx++N.map fun p=>(p,n))):=by unfold D3;rw[aA As.symm];exact hD
  have Ak:T3 (upd H2 w (.lst xs.dropLast)) y q:=ty.upd h2;have h4:(upd H2 w (.lst xs.dropLast)) w=some (.lst xs.dropLast):=a7;have ml:uF H2 w=xs.length:=lO h2;have mt:lX H2 nA=jx.length+N.length:=by rw[HU hD,dY,aq,ai]
  generalize (upd H2 w (.lst xs.dropLast))=H4 at b4 uj ka Ak h4 ⊢;rw[ews]at sr;obtain⟨ya,rfl,um⟩:=Ak;have ld:xs.dropLast.length=xs.length - 1:=gc ..;have less:uF H4 w+4*(10000 - lX H4 nA)<uF H2 w+4*(10000 - lX H2 nA):=by rw[ml,mt,lO h4,HU ka,dY,aq,ai,ld];omega
  have o0:RM.okT (RM.aK fac) t0 t0:=rfl;have u0:¬RM.isN (RM.aK jx) t0:=by unfold RM.isN;rw[h0n];intro z;cases z
  have skip:(¬RM.okT (RM.aK fac) t0 q\/RM.isN (RM.aK jx) q\/q∈N)->∃(qd:List V)(ws' N':List PI3)(v6':Option V),([some (.ref a0),some (.int n),some (.ref fA),some (.ref nA),some (.int fz),some (.ref w),some (.ref ya)]:List (Option V))=[some (.ref a0),some (.int n),some (.ref fA),some (.ref nA),some (.int fz),some (.ref w),v6']/\But nA H H4/\H4 w=some (.lst qd)/\Paired (T3 H4) qd ws'/\D3 H4 nA (IV (jx++N'.map fun p=>(p,n)))/\RM.gJ (RM.okT (RM.aK fac) t0) RM.nbP (RM.isN (RM.aK jx)) t0 N' ws'/\N'.Nodup/\(∀p∈N',(RM.aK fac p).isSome=true/\RM.aK jx p=none)/\qd.length<=1+3*N'.length:=
   fun z=>⟨xs.dropLast,ws.dropLast,N,some (.ref ya),rfl,b4,h4,uj,ka,sr.pop o0 u0 z,Nnd,Nin,by omega⟩
  have gq:=(hFb H4 b4).get (p:=q) um;rw[fB]at gq;cases eq:RM.aK fac q with
  |none=>rw[eq]at gq;refine⟨_,rfl,fA,rfl,.inr ⟨_,hFb H4 b4⟩,_,rfl,_,gq,_,rfl,rfl,_,rfl,?_⟩;refine⟨skip (.inl fun z=>?_),less⟩;have z:RM.aK fac q=RM.aK fac t0:=z;rw[eq,hfz]at z;cases z
  |some z=>
   rw[eq]at gq;refine⟨_,rfl,fA,rfl,.inr ⟨_,hFb H4 b4⟩,_,rfl,_,gq,_,rfl,rfl,_,rfl,?_⟩;refine cG (fun c1=>?_) (fun c1=>HZ ⟨skip (.inl fun z'=>c1 (decide_eq_true ?_)),less⟩)
   ·have c1:z=fz:=V.int.inj (bp c1);have okq:RM.okT (RM.aK fac) t0 q:=by
     show RM.aK fac q=RM.aK fac t0
     rw[eq,hfz,c1]
    refine⟨_,rfl,_,rfl,nA,_,rfl,R3.get (p:=q) ka.rd um,_,rfl,?_⟩;rw[J8];refine cG (fun c2=>?_) (fun c2=>?_)
    ·have c2:q∉ (jx++N.map fun p=>(p,n)).map (·.1):=fun z=>by rw[(RM.aQ q _).mpr z]at c2;cases c2
     have c3:q∉jx.map (·.1)/\q∉N:=by rw[wq]at c2;exact⟨fun z=>c2 (cc _ z),fun z=>c2 (bh _ z)⟩
     have nq:=RM.lV.mpr c3.1;have uq:¬RM.isN (RM.aK jx) q:=by unfold RM.isN;rw[nq];intro z;cases z
     have sr5:=sr.push okq uq;obtain⟨sd0,sd4⟩:=Bf q z eq;refine⟨_,rfl,_,rfl,_,rfl,nA,_,rfl,D3.put ka um _ (by rw[dY,aq,ai];exact few (m:=5000) (by omega)),?_⟩;rw[lE,RM.fU _ c2];have eN:jx++N.map (fun p=>(p,n))++[(q,n)]=jx++(N++[q]).map fun p=>(p,n):=by simp
     rw[eN];have wa:H4 nA=some (.dT (kvF k3 (IV (jx++N.map fun p=>(p,n))))):=ka;have tK:∀{v:V}{p:PI3},T3 H4 v p->T3 (upd H4 nA (.dT (kvF k3 (IV (jx++(N++[q]).map fun p=>(p,n)))))) v p:=fun t=>t.rC wa (by intro _ z;cases z)
     have b5:But nA H (upd H4 nA (.dT (kvF k3 (IV (jx++(N++[q]).map fun p=>(p,n)))))):=b4.here;have h5:(upd H4 nA (.dT (kvF k3 (IV (jx++(N++[q]).map fun p=>(p,n)))))) w=some (.lst xs.dropLast):=by rw[aA As];exact h4
     have wj:=aH (fun _ _ t=>tK t) uj;have ty5:=tK ⟨ya,rfl,um⟩;have lr:D3 (upd H4 nA (.dT (kvF k3 (IV (jx++(N++[q]).map fun p=>(p,n)))))) nA (IV (jx++(N++[q]).map fun p=>(p,n))):=a7;generalize (upd H4 nA (.dT (kvF k3 (IV (jx++(N++[q]).map fun p=>(p,n))))))=H5 at b5 h5 wj ty5 lr ⊢;refine⟨_,rfl,.inl ⟨rfl,_,SqL.of h5⟩,_,rfl,.ref ya,q,rfl,ty5,fun r1 H6 s6 t6=>?_⟩;have h6:=s6 _ _ h5;refine⟨w,xs.dropLast,r1,rfl,rfl,h6,few (m:=20000) (by omega),?_⟩;have b7:But nA H (upd H6 w (.lst (xs.dropLast++[r1]))):=(b5.trans (a9.but s6)).put hw;have pr7:Paired (T3 (upd H6 w (.lst (xs.dropLast++[r1])))) (xs.dropLast++[r1]) (ws.dropLast++[(q.1,q.2.1,(q.2.2+1)%4)]):=aW (t6.upd h6) (aH (fun _ _ t=>(t.mono s6).upd h6) wj);have ty7:T3 (upd H6 w (.lst (xs.dropLast++[r1]))) (.ref ya) q:=(ty5.mono s6).upd h6;have Ag:D3 (upd H6 w (.lst (xs.dropLast++[r1]))) nA (IV (jx++(N++[q]).map fun p=>(p,n))):=by unfold D3;rw[aA As.symm];exact s6 _ _ lr
     have h7:(upd H6 w (.lst (xs.dropLast++[r1]))) w=some (.lst (xs.dropLast++[r1])):=a7;generalize (upd H6 w (.lst (xs.dropLast++[r1])))=H7 at b7 pr7 ty7 Ag h7 ⊢;refine⟨_,rfl,.inl ⟨rfl,_,SqL.of h7⟩,_,rfl,.ref ya,q,rfl,ty7,fun r2 H8 s8 t8=>?_⟩;have h8:=s8 _ _ h7;refine⟨w,_,r2,rfl,rfl,h8,few (m:=20000) (by rw[aq];simp;omega),?_⟩;have b9:But nA H (upd H8 w (.lst (xs.dropLast++[r1]++[r2]))):=(b7.trans (a9.but s8)).put hw;have pr9:=aW (t8.upd (o:=.lst (xs.dropLast++[r1]++[r2])) h8) (aH (fun _ _ t=>(t.mono s8).upd h8) pr7);have ty9:T3 (upd H8 w (.lst (xs.dropLast++[r1]++[r2]))) (.ref ya) q:=(ty7.mono s8).upd h8;have Af:D3 (upd H8 w (.lst (xs.dropLast++[r1]++[r2]))) nA (IV (jx++(N++[q]).map fun p=>(p,n))):=by unfold D3;rw[aA As.symm];exact s8 _ _ Ag
     have h9:(upd H8 w (.lst (xs.dropLast++[r1]++[r2]))) w=some (.lst (xs.dropLast++[r1]++[r2])):=a7;generalize (upd H8 w (.lst (xs.dropLast++[r1]++[r2])))=H9 at b9 pr9 ty9 Af h9 ⊢;refine⟨_,rfl,.inl ⟨rfl,_,SqL.of h9⟩,_,rfl,.ref ya,q,rfl,ty9,sd0,sd4,fun r3 HA sA tA=>?_⟩;have hA:=sA _ _ h9;have hDA:D3 (upd HA w (.lst (xs.dropLast++[r1]++[r2]++[r3]))) nA (IV (jx++(N++[q]).map fun p=>(p,n))):=by unfold D3;rw[aA As.symm];exact sA _ _ Af
     refine⟨w,_,r3,rfl,rfl,hA,few (m:=20000) (by rw[aq,aq];simp;omega),⟨_,_,N++[q],_,rfl,(b9.trans (a9.but sA)).put hw,a7,aW (tA.upd hA) (aH (fun _ _ t=>(t.mono sA).upd hA) pr9),hDA,?_,?_,?_,?_⟩,?_⟩
     ·have e:ws.dropLast++RM.nbP q=ws.dropLast++[(q.1,q.2.1,(q.2.2+1)%4)]++[(q.1,q.2.1,(q.2.2+3)%4)]++[((RM.aN (q.1,q.2.1) q.2.2.toNat).1,(RM.aN (q.1,q.2.1) q.2.2.toNat).2,(q.2.2+2)%4)]:=by unfold RM.nbP;simp
      rw[e]at sr5;exact sr5
     ·rw[cv];exact⟨Nnd,by simp,fun a ha b hb e=>c3.2 (by simp at hb;rw[<- hb,<- e];exact ha)⟩
     ·intro p hp;rcases ay.mp hp with hp|hp
      ·exact Nin p hp
      ·have:p=q:=by simpa using hp
       rw[this];exact⟨by rw[eq];rfl,nq⟩
     ·simp only[aq,bo,dt];omega
     ·rw[ml,mt,lO a7,HU hDA,dY];simp only[aq,ai,bo,dt];omega
    ·have c2:q∈jx.map (·.1)++N:=by
      rw[<- wq];refine(RM.aQ q _).mp ?_;cases e:(RM.aK (jx++N.map fun p=>(p,n)) q).isSome with
      |true=>rfl
      |false=>rw[e]at c2;exact absurd rfl c2
     refine⟨skip (.inr ?_),less⟩;rcases ay.mp c2 with z|z
     ·exact .inl ((RM.aQ q jx).mpr z)
     ·exact .inr z
   ·have z':RM.aK fac q=RM.aK fac t0:=z';rw[eq,hfz]at z';rw[Option.some.inj z'];rfl
 ·have e:xs=[]:=by
   cases xs with
   |nil=>rfl
   |cons _ _=>exact absurd rfl cq
  subst e;cases pr;exact k N H2 b2 hD Nnd fun p=>sr.done p
abbrev s_no:Stmt:=(top 63)
theorem sc_no:aJ ["facings","numbers","count","triangle"] ["facings"] (aG s_no):=fS
noncomputable def sp_no(K:W.Frag)(d:Adr):Sp:=fun vs H Q _=>∃(fA:Addr)(h:List Nat),vs=[.ref fA]/\D3 H fA (IV (RM.cS h))/\(∀r∈h,RM.okR r)/\h.length<=1024/\∀r Ns H',a9 H H'->H r=none->D3 H' r (IV (RM.aE 0 Ns))->RM.Numbering h (Roof.trianglesOf h).length Ns->Q (.ref r) H'
theorem ok_no(F:Fun K "numbers_of" "numbers_of" s_no f fd)(T:Txt K mg base d)(D_nf:aO P w K mg base CX0 4 "number_face" ["first","number","facings","numbers"] (sp_nf K d)):bJ P w K mg base CX0 5 f fd ["facings"] (sp_no K d):=by
 refine F.ok sc_no (fun vs H Q E h=>by obtain⟨fA,h,rfl,_⟩:=h;rfl) (fun _ _ _ _ H _ Q E hr h=>?_);have hu:=bB hr;obtain⟨fA,h,rfl,hF,hok,hl,k⟩:=h;have tl:=RM.yA h;have jw:(Roof.trianglesOf h).length<Roof.NONE:=by unfold Roof.NONE;omega
 have fl:(RM.cS h).length<=4096:=by have:=congrArg List.length (RM.lR h);rw[ai,ai]at this;omega
 refine⟨_,(aB (psN (i:=1) sc_no.nd dG)
   (aB (psN (i:=2) sc_no.nd aL)
   (aB (jA (bV PassesOwn.never rfl (n6 (pv 0)) (pgN (i:=3) sc_no.nd) (aD (cK (fD (d5 hu (pv 3) (pv 1))) (aB (cT (aS D_nf (hm hr) aV rfl (a8 (pv 3) (a8 (pv 2) (a8 (pv 0) (a8 (pv 1) aC))))))
   (aD (GV (i:=2) sc_no.nd rfl (Or.inl rfl) aL IC))) bD))))
   (aD (aP (pv 1)))))),?_⟩
 refine fun f hf=>?_
 have nc:fA≠f:=aI hF hf;have kj:∀od,(upd H fA (.frz od (.dT (kvF k3 (IV (RM.cS h)))))) f=none:=fun od=>fF hF hf
 refine⟨fA,.dT (kvF k3 (IV (RM.cS h))),by rw[aA nc];exact hF,trivial,fun od=>⟨_,rfl,fA,od,rfl,.inr ⟨_,a7,nU (d:=fA) (od:=od) (kvs:=kvF k3 (IV (RM.cS h)))
  (fun i σ H2=>∃(Ns:List (List PI3))(v3:Option V),σ=[some (.ref fA),some (.ref f),some (.int (Ns.length:Nat)),v3]/\a9 (upd H fA (.frz od (.dT (kvF k3 (IV (RM.cS h)))))) H2/\D3 H2 f (IV (RM.aE 0 Ns))/\RM.Numbering h i Ns)
  ⟨[],none,rfl,a9.both (a9.upd hf),by unfold D3;rw[aA nc.symm,a7];rfl,RM.Numbering.start hok⟩ (fun i σ H2 ⟨_,_,_,s2,_⟩=>s2 _ _ a7) ?_ ?_⟩⟩⟩
 ·rintro i kk vv q σ H2 hi hq ⟨Ns,v3,rfl,s2,hD,R⟩;obtain⟨t,ht,rfl⟩:=HV hi;obtain⟨tn,htn,rfl⟩:∃tn,(Roof.trianglesOf h)[i]? =some tn/\t=RM.tP tn:=by
   have:=congrArg (Option.map Prod.fst) ht;rw[<- ba,xT,RM.lR,ba]at this;cases e:(Roof.trianglesOf h)[i]? with
   |none=>rw[e]at this;cases this
   |some tn=>rw[e]at this;exact⟨tn,rfl,(Option.some.inj this).symm⟩
  have hm:=az htn;refine⟨_,rfl,_,rfl,f,_,rfl,R3.get (p:=RM.tP tn) hD.rd hq,_,rfl,?_⟩;rw[J8];refine cG (fun c1=>?_) (fun c1=>?_)
  ·have c1:RM.aK (RM.aE 0 Ns) (RM.tP tn)=none:=by
    cases e:RM.aK (RM.aE 0 Ns) (RM.tP tn)with
    |none=>rfl
    |some z=>rw[e]at c1;cases c1
   obtain⟨lab,firsts,O,_,_⟩:=R.ex;have ze:=RM.D7 hok tn hm;refine⟨_,rfl,_,rfl,_,rfl,_,rfl,.ref q,(Ns.length:Int),fA,f,RM.cS h,RM.aE 0 Ns,RM.tP tn,rfl,⟨q,rfl,hq⟩,.inr ⟨od,s2 _ _ a7⟩,hD,nc,fun t z e=>RM.FC e,by rw[ze];rfl,c1,fl,by rw[RM.b8];exact O.nd,fun t ht=>by rw[RM.b8]at ht;rw[RM.lR];exact O.sub t ht,fun N H3 b3 ku nd3 hN=>?_⟩;have s3:a9 (upd H fA (.frz od (.dT (kvF k3 (IV (RM.cS h)))))) H3:=But.same b3 s2 (kj od);refine⟨_,rfl,_,_,rfl,rfl,Ns++[N],some (.ref q),?_,s3,by rw[RM.iY];exact ku,R.face hok (fun t ht=>RM.D7 hok t ht) (fun p hp=>RM.zY h p hp) jw htn c1 hN nd3⟩;have el:((Ns++[N]).length:Int)=(Ns.length:Int)+1:=by rw[aq];simp
   rw[el];rfl
  ·have c1:(RM.aK (RM.aE 0 Ns) (RM.tP tn)).isSome=true:=by
    cases e:(RM.aK (RM.aE 0 Ns) (RM.tP tn)).isSome with
    |true=>rfl
    |false=>rw[e]at c1;exact absurd rfl c1
   exact⟨Ns,_,rfl,s2,hD,R.skip htn c1⟩
 ·rintro σ H2 ⟨Ns,v3,rfl,s2,hD,R⟩;have el:(kvF k3 (IV (RM.cS h))).length=(Roof.trianglesOf h).length:=by have:=congrArg List.length (RM.lR h);rw[ai,ai]at this;rw[eZ,dY,this]
  rw[el]at R;exact⟨s2 _ _ a7,_,rfl,k f Ns _ (a9.unlock hF s2) hf (by unfold D3;rw[aA nc.symm];exact hD) R⟩
abbrev s_fo:Stmt:=(top 64)
theorem sc_fo:aJ ["numbers","faces","triangle","number"] ["numbers"] (aG s_fo):=fS
noncomputable def sp_fo(K:W.Frag)(d:Adr):Sp:=fun vs H Q _=>∃(nA:Addr)(Ns:List (List PI3)),vs=[.ref nA]/\D3 H nA (IV (RM.aE 0 Ns))/\(∀N∈Ns,N≠[])/\(RM.aE 0 Ns).length<=4096/\∀r H',a9 H H'->H r=none->LLS H' r Ns->Q (.ref r) H'
theorem ok_fo(F:Fun K "faces_of" "faces_of" s_fo f fd)(T:Txt K mg base d):bJ P w K mg base CX0 1 f fd ["numbers"] (sp_fo K d):=by
 refine F.ok sc_fo (fun vs H Q E h=>by obtain⟨nA,Ns,rfl,_⟩:=h;rfl) (fun _ _ _ _ H _ Q E hr h=>?_);have hu:=bB hr;obtain⟨nA,Ns,rfl,hN,jl,hl,k⟩:=h;refine⟨_,(aB (psN (i:=1) sc_fo.nd (eU aC))
   (aB (jA (bV PassesOwn.never rfl (pC (pv 0)) (gO rfl (aT (pgN (i:=2) sc_fo.nd) (aT (pgN (i:=3) sc_fo.nd) d9))) (aB (cK (bX iX (pv 3) (bG bP (by rfl) T.len PySem.boot_len (a8 (pv 1) aC)) (c6 _)) (aD (cT (hV PySem.F.plainAttrs_list PySem.F.slot_list_append PySem.F.type_list_append cF (pv 1) (a8 (eU aC) aC)))) bD)
   (aD (cT (hV PySem.F.plainAttrs_list PySem.F.slot_list_append PySem.F.type_list_append cF (cD lP (pv 1) (pv 3) (fun _ _=>rfl)) (a8 (pv 2) aC)))))))
   (aD (aP (pv 1))))),?_⟩
 refine⟨cn _,fun f hf=>?_⟩;have nc:nA≠f:=aI hN hf;have kj:∀od,(upd H nA (.frz od (.dT (kvF k3 (IV (RM.aE 0 Ns)))))) f=none:=fun od=>fF hN hf
 refine⟨nA,.dT (kvF k3 (IV (RM.aE 0 Ns))),by rw[aA nc];exact hN,trivial,fun od=>⟨_,rfl,nA,od,_,rfl,a7,pW (d:=nA) (od:=od) (kvs:=kvF k3 (IV (RM.aE 0 Ns)))
  (fun i σ H2=>∃(bs:List Addr)(Fs:List (List PI3))(v2 v3:Option V),σ=[some (.ref nA),some (.ref f),v2,v3]/\a9 (upd H nA (.frz od (.dT (kvF k3 (IV (RM.aE 0 Ns)))))) H2/\H2 f=some (.lst (bs.map V.ref))/\Paired (LS H2) bs Fs/\(f::bs).Nodup/\(∀b∈bs,(upd H nA (.frz od (.dT (kvF k3 (IV (RM.aE 0 Ns)))))) b=none)/\RM.qD Ns i Fs)
  ⟨[],[],none,none,rfl,a9.both (a9.upd hf),by rw[aA nc.symm,a7];rfl,.nil,by simp,fun b hb=>(by cases hb),RM.qD.start Ns⟩ (fun i σ H2 ⟨_,_,_,_,_,s2,_⟩=>s2 _ _ a7) ?_ ?_⟩⟩
 ·rintro i kk vv q T' σ H2 hi hq hT' ⟨bs,Fs,v2,v3,rfl,s2,hf2,pr,nd,fr,pre⟩;obtain⟨t,ht,rfl⟩:=HV hi;obtain⟨m,hm,rfl⟩:∃m,(RM.aE 0 Ns)[i]? =some (t,m)/\vv=.int m:=by
   unfold IV at ht;rw[ba]at ht;cases e:(RM.aE 0 Ns)[i]? with
   |none=>rw[e]at ht;cases ht
   |some x=>rw[e]at ht;cases ht;exact⟨x.2,rfl,rfl⟩
  have s3:a9 H2 (upd H2 T' (.tup [.ref q,.int m])):=a9.upd hT';refine⟨T',_,rfl,SqT.of a7,rfl,_,_,rfl,_,_,rfl,rfl,?_⟩;have tj:=a9.trans s2 s3;have zg:=s3 _ _ hf2;have zq:T3 (upd H2 T' (.tup [.ref q,.int m])) (.ref q) t:=⟨q,rfl,s3 _ _ hq⟩;have oa:=aH (fun _ _ z=>LS.mono s3 z) pr;generalize (upd H2 T' (.tup [.ref q,.int m]))=H3 at s3 tj zg zq oa ⊢;have ph:=pT hm;have lb:=pairs_len pr;have lFs:Fs.length<=4096:=by have h1:=RM.kM pre.ne;have h2:=congrArg List.length (RM.b8 Fs 0);rw[ai,pre.eq,bu]at h2;omega
  have fin:∀(H5:Hp)(cs:List Addr)(b:Addr)(F:List (List PI3))(L:List PI3),a9 (upd H nA (.frz od (.dT (kvF k3 (IV (RM.aE 0 Ns)))))) H5->H5 f=some (.lst ((cs++[b]).map V.ref))->Paired (LS H5) cs F->LS H5 b L->(f::(cs++[b])).Nodup->(∀c∈cs++[b],(upd H nA (.frz od (.dT (kvF k3 (IV (RM.aE 0 Ns)))))) c=none)->T3 H5 (.ref q) t->m=(F.length:Int)->RM.qD Ns (i+1) (F++[L++[t]]) ->
    ∃ys,H5 b=some (.lst ys)/\ys.length<=4096/\((cs++[b]).map V.ref)[m.toNat]? =some (.ref b)/\∃(bs:List Addr)(Fs:List (List PI3))(v2 v3:Option V),([some (.ref nA),some (.ref f),some (.ref q),some (.int m)]:List (Option V))=[some (.ref nA),some (.ref f),v2,v3]/\a9 (upd H nA (.frz od (.dT (kvF k3 (IV (RM.aE 0 Ns)))))) (upd H5 b (.lst (ys++[.ref q])))/\(upd H5 b (.lst (ys++[.ref q]))) f=some (.lst (bs.map V.ref))/\Paired (LS (upd H5 b (.lst (ys++[.ref q])))) bs Fs/\(f::bs).Nodup/\(∀b∈bs,(upd H nA (.frz od (.dT (kvF k3 (IV (RM.aE 0 Ns)))))) b=none)/\RM.qD Ns (i+1) Fs:=by
   intro H5 cs b F L s5 hf5 pF pL nd5 fr5 tq5 em qt;obtain⟨ys,hb5,py⟩:=pL;have hat:((cs++[b]).map V.ref)[m.toNat]? =some (.ref b):=by
    have e1:m.toNat=F.length:=by omega
    have e2:=pairs_len pF;rw[e1,<- e2,cg,dc (by simp)];simp
   have ly:=pairs_len py;have lL:L.length<=4096:=by have h2:=congrArg List.length qt.eq;have h3:=congrArg List.length (RM.b8 (F++[L++[t]]) 0);rw[ai]at h3;rw[bu]at h2;rw[ib,aq]at h3;simp at h3;omega
   have ndp:=bx.mp nd5;have nbf:b≠f:=fun z=>ndp.1 (z▸bh _ bb)
   have ncb:∀c∈cs,c≠b:=fun c hc=>(cv.mp ndp.2).2.2 c hc b bb
   refine⟨ys,hb5,by omega,hat,cs++[b],F++[L++[t]],_,_,rfl,a9.put s5 (fr5 b (bh _ bb)),by rw[aA nbf.symm];exact hf5,?_,nd5,fr5,qt⟩;exact aW ⟨ys++[.ref q],a7,aW (tq5.upd hb5) (aH (fun _ _ z=>z.upd hb5) py)⟩ (aH (fun c G ⟨hc,_,z⟩=>z.upd hb5 (ncb c hc)) (lJ pF))
  refine⟨_,rfl,_,rfl,f,_,rfl,.inl (SqL.of zg),rfl,_,rfl,?_⟩;rw[ai,lb];rcases pre.step jl hm with⟨em,qt⟩|⟨F,L,eF,em,qt⟩
  ·refine cG (fun c1=>?_) (fun c1=>absurd (decide_eq_true (by rw[em])) c1);refine⟨_,rfl,.inl ⟨rfl,_,SqL.of zg⟩,cn _,fun l qx=>?_⟩;have s4:a9 H3 (upd H3 l (.lst [])):=a9.upd qx;have hf4:=s4 _ _ zg;have nlf:l≠f:=fun z=>by rw[z,zg]at qx;cases qx
   refine⟨f,_,.ref l,rfl,rfl,hf4,by rw[ai,lb];exact few (m:=4096) lFs,?_⟩;have nlb:∀b∈bs,b≠l:=fun b hb z=>by obtain⟨j,hj⟩:=di.mp hb;obtain⟨_,_,⟨ys,hy,_⟩⟩:=pairs_at oa hj;rw[z,qx]at hy;cases hy
   have nbf:∀b∈bs,b≠f:=fun b hb z=>(bx.mp nd).1 (z▸hb)
   have eb:bs.map V.ref++[V.ref l]=(bs++[l]).map V.ref:=by simp
   rw[eb];have hf5:(upd (upd H3 l (.lst [])) f (.lst ((bs++[l]).map V.ref))) f=some (.lst ((bs++[l]).map V.ref)):=a7;obtain⟨ys,y1,y2,y3,y4⟩:=fin (upd (upd H3 l (.lst [])) f (.lst ((bs++[l]).map V.ref))) bs l Fs [] (a9.put (a9.trans tj s4) (kj od)) hf5 (aH (fun b F ⟨hb,_,z⟩=>(LS.mono s4 z).upd hf4 (nbf b hb)) (lJ oa)) ⟨[],by rw[aA nlf,a7],.nil⟩ (by
     rw[bx]at nd ⊢;refine⟨fun z=>?_,?_⟩
     ·rcases ay.mp z with z|z
      ·exact nd.1 z
      ·exact nlf (gk.mp z).symm
     ·rw[cv];exact⟨nd.2,by simp,fun a ha b hb e=>nlb a ha (by simp at hb;rw[e,hb])⟩) (by
     intro c hc;rcases ay.mp hc with hc|hc
     ·exact fr c hc
     ·have:c=l:=by simpa using hc
      rw[this];exact tj.free qx) ((zq.mono s4).upd hf4) em qt
   exact⟨_,rfl,_,rfl,f,_,_,_,rfl,rfl,SqL.of hf5,bI (by omega) y3,.inl ⟨rfl,_,SqL.of y1⟩,_,rfl,l,ys,.ref q,rfl,rfl,y1,few y2,y4⟩
  ·refine cG (fun c1=>?_) (fun c1=>?_)
   ·have c1:=V.int.inj (bp c1);rw[eF,aq]at c1;simp at c1;omega
   ·subst eF;obtain⟨cs,b,eb,p1,p2⟩:=qO oa;subst eb;obtain⟨ys,y1,y2,y3,y4⟩:=fin _ cs b F L tj zg p1 p2 nd fr zq em qt;exact⟨_,rfl,_,rfl,f,_,_,_,rfl,rfl,SqL.of zg,bI (by omega) y3,.inl ⟨rfl,_,SqL.of y1⟩,_,rfl,b,ys,.ref q,rfl,rfl,y1,few y2,y4⟩
 ·rintro σ H2 ⟨bs,Fs,v2,v3,rfl,s2,hf2,pr,nd,fr,pre⟩;have el:(kvF k3 (IV (RM.aE 0 Ns))).length=(RM.aE 0 Ns).length:=by rw[eZ,dY]
  rw[el]at pre;have e:=pre.done jl;subst e;have hN2:H2 nA=some (.frz od (.dT (kvF k3 (IV (RM.aE 0 Fs))))):=s2 _ _ a7;refine⟨hN2,_,rfl,k f _ (a9.unlock hN s2) hf ⟨bs,by rw[aA nc.symm];exact hf2,aH (fun b F ⟨xs,h1,h2⟩=>⟨xs,?_,aH (fun _ _ z=>z.rC hN2 (by intro _ z;cases z)) h2⟩) pr⟩⟩;rw[aA (eX h1 hN2 (by intro z;cases z))];exact h1
abbrev s_i:Stmt:=(inClass (top 56) 0)
theorem sc_i:aJ ["self","cells"] ["self","cells"] (aG s_i):=fS
structure mL(C:List (Nat×Nat))(R:Addr)(H:Hp)(x:Addr)(cA dA hA fA nA gA:Addr)(ht:List (PI×Int))(Ns:List (List PI3)):Prop where
 ins:∃dx fs,H x=some (.ins R dx fs)/\fs.lookup ("cells" : Str)=some (.ref cA)/\fs.lookup ("depths" : Str)=some (.ref dA)/\fs.lookup ("heights" : Str)=some (.ref hA)/\fs.lookup ("facings" : Str)=some (.ref fA)/\fs.lookup ("numbers" : Str)=some (.ref nA)/\fs.lookup ("faces" : Str)=some (.ref gA)
 cells:D2 H cA (CS C)
 MV:D2 H dA (IV (RM.bQ (Roof.halvesOf C)))
 KD:D2 H hA (IV ht)
 hok:RM.G2 (Roof.halvesOf C) ht
 KL:D3 H fA (IV (RM.cS (Roof.halvesOf C)))
 SI:D3 H nA (IV (RM.aE 0 Ns))
 nok:RM.Numbering (Roof.halvesOf C) (Roof.trianglesOf (Roof.halvesOf C)).length Ns
 faces:LLS H gA Ns
 apart:[cA,dA,hA,fA,nA,gA].Nodup
theorem LLS.SJ{H:Hp}{a x:Addr}{Fs:List (List PI3)}{C dx:Addr}{fs:List (Str×V)}{o:HO}(h:LLS H a Fs)(hx:H x=some (.ins C dx fs)):LLS (upd H x o) a Fs:=by obtain⟨bs,h1,h2⟩:=h;refine⟨bs,by rw[aA (eX h1 hx (by intro z;cases z))];exact h1,aH (fun b F ⟨xs,e1,e2⟩=>⟨xs,by rw[aA (eX e1 hx (by intro z;cases z))];exact e1,aH (fun _ _ z=>z.rC hx (by intro _ z;cases z)) e2⟩) h2⟩
noncomputable def sp_i(K:W.Frag)(d:Adr):Sp:=fun vs H Q _=>∃(x dx cA:Addr)(C:List (Nat×Nat)),vs=[.ref x,.ref cA]/\H x=some (.ins d.Roof dx [])/\D2 H cA (CS C)/\C.Nodup/\(∀c∈C,c.1<64/\c.2<64)/\C.length<=256/\C≠[]/\∀dA hA fA nA gA ht Ns H',(∀b o,H b=some o->b≠x->H' b=some o)->mL C d.Roof H' x cA dA hA fA nA gA ht Ns->Q .non H'
theorem ok_i(F:Fun K "__init__" "Roof.__init__" s_i f fd)(T:Txt K mg base d)(D_do:aO P w K mg base CX0 6 "depths_of" ["cells"] (sp_do K d))(D_ho2:aO P w K mg base CX0 3 "heights_of" ["depths"] (sp_ho2 K d))(D_fo3:aO P w K mg base CX0 5 "facings_of" ["depths","heights"] (sp_fo3 K d))(D_no:aO P w K mg base CX0 5 "numbers_of" ["facings"] (sp_no K d))(D_fo:aO P w K mg base CX0 1 "faces_of" ["numbers"] (sp_fo K d)):bJ P w K mg base CX0 7 f fd ["self","cells"] (sp_i K d):=by
 refine F.ok sc_i (fun vs H Q E h=>by obtain⟨x,dx,cA,C,rfl,_⟩:=h;rfl) (fun _ _ _ _ H _ Q E hr h=>?_);have hu:=bB hr;obtain⟨x,dx,cA,C,rfl,hx,hC,nd,bd,mf,jl,k⟩:=h;have hok:=RM.dR bd;have hhl:=RM.iL C;have hl:(Roof.halvesOf C).length<=1024:=by omega
 have qh:((Roof.halvesOf C).map RM.hP).Nodup:=RM.d6 ((RM.fL nd bd).imp fun{a b} h e=>by omega) fun a ha b hb e=>RM.pS (hok a ha) (hok b hb) e
 refine⟨_,(aB (p9 (pv 0) (pv 1) rfl)
   (aB (p9 (pv 0) (aS D_do (hm hr) aV rfl (a8 (pv 1) aC)) rfl)
   (aB (p9 (pv 0) (aS D_ho2 (hm hr) aV rfl (a8 (kC (pv 0) rfl) aC)) rfl)
   (aB (p9 (pv 0) (aS D_fo3 (hm hr) aV rfl (a8 (kC (pv 0) rfl) (a8 (kC (pv 0) rfl) aC))) rfl)
   (aB (p9 (pv 0) (aS D_no (hm hr) aV rfl (a8 (kC (pv 0) rfl) aC)) rfl)
   (aD (p9 (pv 0) (aS D_fo (hm hr) aV rfl (a8 (kC (pv 0) rfl) aC)) rfl))))))),?_⟩
 refine⟨_,rfl,_,rfl,x,d.Roof,dx,[],rfl,hx,T.cX,T.JZ,by decide,?_⟩;have yd:cA≠x:=eX hC hx (by intro z;cases z);have c1:But x H (upd H x (.ins d.Roof dx (bR "cells" (.ref cA) []))):=(But.refl x H).here;have x1:(upd H x (.ins d.Roof dx (bR "cells" (.ref cA) []))) x=some (.ins d.Roof dx (bR "cells" (.ref cA) [])):=a7;have l1:=dH "cells" (.ref cA) [];generalize e1:bR "cells" (V.ref cA) []=fs1 at c1 x1 l1 ⊢;have q1:fs1.lookup ("cells" : Str)=some (.ref cA):=by rw[<- e1,bM,ah rfl]
 generalize (upd H x (.ins d.Roof dx fs1))=H1 at c1 x1 ⊢;have hC1:D2 H1 cA (CS C):=c1 _ _ yd hC;refine⟨_,rfl,cA,C,rfl,hC1,nd,bd,mf,jl,fun dA H2 s2 fd2 Cp=>?_⟩;refine⟨_,rfl,x,d.Roof,dx,fs1,rfl,s2 _ _ x1,T.cX,T.kE,by simp at l1;omega,?_⟩;have c2:But x H (upd H2 x (.ins d.Roof dx (bR "depths" (.ref dA) fs1))):=(c1.trans (a9.but s2)).here;have x2:(upd H2 x (.ins d.Roof dx (bR "depths" (.ref dA) fs1))) x=some (.ins d.Roof dx (bR "depths" (.ref dA) fs1)):=a7;have wo:dA≠x:=eX Cp (s2 _ _ x1) (by intro z;cases z);have ku:D2 (upd H2 x (.ins d.Roof dx (bR "depths" (.ref dA) fs1))) dA (IV (RM.bQ (Roof.halvesOf C))):=by unfold D2;rw[aA wo];exact Cp
 have l2:=dH "depths" (.ref dA) fs1;have a2:∀g,g≠("depths" : Str)->(bR "depths" (.ref dA) fs1).lookup g=fs1.lookup g:=fun g hg=>by rw[bM,ag hg]
 have q2:(bR "depths" (.ref dA) fs1).lookup ("depths" : Str)=some (.ref dA):=by rw[bM,ah rfl]
 have ncd:cA≠dA:=fun z=>by have:=hC1;unfold D2 at this;rw[z,fd2]at this;cases this
 generalize bR "depths" (V.ref dA) fs1=fs2 at*;generalize (upd H2 x (.ins d.Roof dx fs2))=H3 at c2 x2 ku ⊢;refine⟨_,rfl,x,d.Roof,dx,fs2,_,rfl,x2,T.cX,T.kE,q2,?_⟩;refine⟨dA,Roof.halvesOf C,rfl,ku,hok,hl,fun hA ht H4 s4 fh4 hH4 Bd=>?_⟩;refine⟨_,rfl,x,d.Roof,dx,fs2,rfl,s4 _ _ x2,T.cX,T.vN,by simp at l1;omega,?_⟩;have c3:But x H (upd H4 x (.ins d.Roof dx (bR "heights" (.ref hA) fs2))):=(c2.trans (a9.but s4)).here;have x3:(upd H4 x (.ins d.Roof dx (bR "heights" (.ref hA) fs2))) x=some (.ins d.Roof dx (bR "heights" (.ref hA) fs2)):=a7;have nhx:hA≠x:=eX hH4 (s4 _ _ x2) (by intro z;cases z);have hH5:D2 (upd H4 x (.ins d.Roof dx (bR "heights" (.ref hA) fs2))) hA (IV ht):=by unfold D2;rw[aA nhx];exact hH4
 have lr:D2 (upd H4 x (.ins d.Roof dx (bR "heights" (.ref hA) fs2))) dA (IV (RM.bQ (Roof.halvesOf C))):=by unfold D2;rw[aA wo];exact s4 _ _ ku
 have l3:=dH "heights" (.ref hA) fs2;have a3:∀g,g≠("heights" : Str)->(bR "heights" (.ref hA) fs2).lookup g=fs2.lookup g:=fun g hg=>by rw[bM,ag hg]
 have q3:(bR "heights" (.ref hA) fs2).lookup ("heights" : Str)=some (.ref hA):=by rw[bM,ah rfl]
 have yf:cA≠hA:=fun z=>by have:=c2 _ _ yd hC;rw[z,fh4]at this;cases this
 have ndh:dA≠hA:=fun z=>by have:=ku;unfold D2 at this;rw[z,fh4]at this;cases this
 generalize bR "heights" (V.ref hA) fs2=fs3 at*;generalize (upd H4 x (.ins d.Roof dx fs3))=H5 at c3 x3 hH5 lr ⊢;have q32:fs3.lookup ("depths" : Str)=some (.ref dA):=by rw[a3 _ (by decide)];exact q2
 refine⟨_,rfl,x,d.Roof,dx,fs3,_,rfl,x3,T.cX,T.kE,q32,_,rfl,x,d.Roof,dx,fs3,_,rfl,x3,T.cX,T.vN,q3,?_⟩;refine⟨dA,hA,Roof.halvesOf C,ht,rfl,lr,hH5,ndh,Bd,qh,hl,fun fA H6 s6 ff6 Co=>?_⟩;refine⟨_,rfl,x,d.Roof,dx,fs3,rfl,s6 _ _ x3,T.cX,T.pH,by simp at l1;omega,?_⟩;have c4:But x H (upd H6 x (.ins d.Roof dx (bR "facings" (.ref fA) fs3))):=(c3.trans (a9.but s6)).here;have x4:(upd H6 x (.ins d.Roof dx (bR "facings" (.ref fA) fs3))) x=some (.ins d.Roof dx (bR "facings" (.ref fA) fs3)):=a7;have nfx:fA≠x:=eX Co (s6 _ _ x3) (by intro z;cases z);have hF7:D3 (upd H6 x (.ins d.Roof dx (bR "facings" (.ref fA) fs3))) fA (IV (RM.cS (Roof.halvesOf C))):=by unfold D3;rw[aA nfx];exact Co
 have hH7:D2 (upd H6 x (.ins d.Roof dx (bR "facings" (.ref fA) fs3))) hA (IV ht):=by unfold D2;rw[aA nhx];exact s6 _ _ hH5
 have Ag:D2 (upd H6 x (.ins d.Roof dx (bR "facings" (.ref fA) fs3))) dA (IV (RM.bQ (Roof.halvesOf C))):=by unfold D2;rw[aA wo];exact s6 _ _ lr
 have l4:=dH "facings" (.ref fA) fs3;have a4:∀g,g≠("facings" : Str)->(bR "facings" (.ref fA) fs3).lookup g=fs3.lookup g:=fun g hg=>by rw[bM,ag hg]
 have q4:(bR "facings" (.ref fA) fs3).lookup ("facings" : Str)=some (.ref fA):=by rw[bM,ah rfl]
 have ncf:cA≠fA:=fun z=>by have:=c3 _ _ yd hC;rw[z,ff6]at this;cases this
 have ndf:dA≠fA:=fun z=>by have:=lr;unfold D2 at this;rw[z,ff6]at this;cases this
 have nhf:hA≠fA:=fun z=>by have:=hH5;unfold D2 at this;rw[z,ff6]at this;cases this
 generalize bR "facings" (V.ref fA) fs3=fs4 at*;generalize (upd H6 x (.ins d.Roof dx fs4))=H7 at c4 x4 hF7 hH7 Ag ⊢;refine⟨_,rfl,x,d.Roof,dx,fs4,_,rfl,x4,T.cX,T.pH,q4,?_⟩;refine⟨fA,Roof.halvesOf C,rfl,hF7,hok,hl,fun nA Ns H8 s8 fn8 hN8 nok=>?_⟩;refine⟨_,rfl,x,d.Roof,dx,fs4,rfl,s8 _ _ x4,T.cX,T.vM,by simp at l1;omega,?_⟩;have c5:But x H (upd H8 x (.ins d.Roof dx (bR "numbers" (.ref nA) fs4))):=(c4.trans (a9.but s8)).here;have x5:(upd H8 x (.ins d.Roof dx (bR "numbers" (.ref nA) fs4))) x=some (.ins d.Roof dx (bR "numbers" (.ref nA) fs4)):=a7;have nnx:nA≠x:=eX hN8 (s8 _ _ x4) (by intro z;cases z);have hN9:D3 (upd H8 x (.ins d.Roof dx (bR "numbers" (.ref nA) fs4))) nA (IV (RM.aE 0 Ns)):=by unfold D3;rw[aA nnx];exact hN8
 have hF9:D3 (upd H8 x (.ins d.Roof dx (bR "numbers" (.ref nA) fs4))) fA (IV (RM.cS (Roof.halvesOf C))):=by unfold D3;rw[aA nfx];exact s8 _ _ hF7
 have hH9:D2 (upd H8 x (.ins d.Roof dx (bR "numbers" (.ref nA) fs4))) hA (IV ht):=by unfold D2;rw[aA nhx];exact s8 _ _ hH7
 have Af:D2 (upd H8 x (.ins d.Roof dx (bR "numbers" (.ref nA) fs4))) dA (IV (RM.bQ (Roof.halvesOf C))):=by unfold D2;rw[aA wo];exact s8 _ _ Ag
 have l5:=dH "numbers" (.ref nA) fs4;have a5:∀g,g≠("numbers" : Str)->(bR "numbers" (.ref nA) fs4).lookup g=fs4.lookup g:=fun g hg=>by rw[bM,ag hg]
 have q5:(bR "numbers" (.ref nA) fs4).lookup ("numbers" : Str)=some (.ref nA):=by rw[bM,ah rfl]
 have ncn:cA≠nA:=fun z=>by have:=c4 _ _ yd hC;rw[z,fn8]at this;cases this
 have ndn:dA≠nA:=fun z=>by have:=Ag;unfold D2 at this;rw[z,fn8]at this;cases this
 have nhn:hA≠nA:=fun z=>by have:=hH7;unfold D2 at this;rw[z,fn8]at this;cases this
 have nfn:fA≠nA:=fun z=>by have:=hF7;unfold D3 at this;rw[z,fn8]at this;cases this
 generalize bR "numbers" (V.ref nA) fs4=fs5 at*;generalize (upd H8 x (.ins d.Roof dx fs5))=H9 at c5 x5 hN9 hF9 hH9 Af ⊢;obtain⟨lab,firsts,O,_,_⟩:=nok.ex;have tl:=RM.yA (Roof.halvesOf C);have nl:(RM.aE 0 Ns).length<=4096:=by have h1:=congrArg List.length (RM.b8 Ns 0);have h2:=RM.bS O.nd O.sub;rw[ai]at h1 h2;omega
 refine⟨_,rfl,x,d.Roof,dx,fs5,_,rfl,x5,T.cX,T.vM,q5,?_⟩;refine⟨nA,Ns,rfl,hN9,O.ne,nl,fun gA HA sA Cv hG=>?_⟩;refine⟨_,rfl,x,d.Roof,dx,fs5,rfl,sA _ _ x5,T.cX,T.CT,by simp at l1;omega,?_⟩;have a6:∀g,g≠("faces" : Str)->(bR "faces" (.ref gA) fs5).lookup g=fs5.lookup g:=fun g hg=>by rw[bM,ag hg]
 have q6:(bR "faces" (.ref gA) fs5).lookup ("faces" : Str)=some (.ref gA):=by rw[bM,ah rfl]
 have xA:=sA _ _ x5;have ncg:cA≠gA:=fun z=>by have:=c5 _ _ yd hC;rw[z,Cv]at this;cases this
 have ndg:dA≠gA:=fun z=>by have:=Af;unfold D2 at this;rw[z,Cv]at this;cases this
 have nhg:hA≠gA:=fun z=>by have:=hH9;unfold D2 at this;rw[z,Cv]at this;cases this
 have nfg:fA≠gA:=fun z=>by have:=hF9;unfold D3 at this;rw[z,Cv]at this;cases this
 have nng:nA≠gA:=fun z=>by have:=hN9;unfold D3 at this;rw[z,Cv]at this;cases this
 refine k dA hA fA nA gA ht Ns _ (fun b o e nb=>by rw[aA nb];exact sA _ _ (c5 b o nb e)) ⟨⟨dx,_,a7,?_,?_,?_,?_,?_,q6⟩,?_,?_,?_,Bd,?_,?_,nok,LLS.SJ hG xA,?_⟩
 ·rw[a6 _ (by decide),a5 _ (by decide),a4 _ (by decide),a3 _ (by decide),a2 _ (by decide)];exact q1
 ·rw[a6 _ (by decide),a5 _ (by decide),a4 _ (by decide)];exact q32
 ·rw[a6 _ (by decide),a5 _ (by decide),a4 _ (by decide)];exact q3
 ·rw[a6 _ (by decide),a5 _ (by decide)];exact q4
 ·rw[a6 _ (by decide)];exact q5
 ·unfold D2;rw[aA yd];exact sA _ _ (c5 _ _ yd hC)
 ·unfold D2;rw[aA wo];exact sA _ _ Af
 ·unfold D2;rw[aA nhx];exact sA _ _ hH9
 ·unfold D3;rw[aA nfx];exact sA _ _ hF9
 ·unfold D3;rw[aA nnx];exact sA _ _ hN9
 ·simp only[bx,ao,gp,or_false,not_or,not_false_eq_true,gw,and_true];exact⟨⟨ncd,yf,ncf,ncn,ncg⟩,⟨ndh,ndf,ndn,ndg⟩,⟨nhf,nhn,nhg⟩,⟨nfn,nfg⟩,nng⟩
abbrev s_rt:Stmt:=(top 77)
theorem sc_rt:aJ ["t"] ["t"] (aG s_rt):=fS
structure AD(h:List Nat)(R:Addr)(H:Hp)(x:Addr):Prop where
 ex:∃dx fs dA hA fA ht,H x=some (.ins R dx fs)/\fs.lookup ("depths" : Str)=some (.ref dA)/\fs.lookup ("heights" : Str)=some (.ref hA)/\fs.lookup ("facings" : Str)=some (.ref fA)/\R2 H dA (IV (RM.bQ h))/\R2 H hA (IV ht)/\RM.G2 h ht/\R3 H fA (IV (RM.cS h))
theorem AD.mono{h:List Nat}{R:Addr}{H H':Hp}{x:Addr}(r:AD h R H x)(e:a9 H H'):AD h R H' x:=
 let⟨dx,fs,dA,hA,fA,ht,h1,q1,q2,q3,h2,h3,h4,h5⟩:=r.ex
 ⟨dx,fs,dA,hA,fA,ht,e _ _ h1,q1,q2,q3,h2.mono e,h3.mono e,h4,h5.mono e⟩
theorem mL.l{C:List (Nat×Nat)}{R:Addr}{H:Hp}{x cA dA hA fA nA gA:Addr}{ht:List (PI×Int)}{Ns:List (List PI3)}(r:mL C R H x cA dA hA fA nA gA ht Ns):AD (Roof.halvesOf C) R H x:=
 let⟨dx,fs,h1,_,q2,q3,q4,_⟩:=r.ins
 ⟨dx,fs,dA,hA,fA,ht,h1,q2,q3,q4,r.MV.rd,r.KD.rd,r.hok,r.KL.rd⟩
noncomputable def sp_rt(K:W.Frag)(d:Adr):Sp:=fun vs H Q E=>∃(a:Addr)(ns:List Int),vs=[.ref a]/\SqL K H a (ns.map V.int)/\ns.length<=4096/\RM.inB ns/\(∀F,Roof.houseOf (RoofBNeutral.text ns)=some (RM.aR F)->Roof.isHouse (RM.aR F)=true->∀x cA dA hA fA nA gA ht Ns H',a9 H H'->mL (RM.aR F) d.Roof H' x cA dA hA fA nA gA ht Ns->Q (.ref x) H')/\(Roof.houseOf (RoofBNeutral.text ns)=none->E (.ref d.bZ) none H)
theorem ok_rt(F:Fun K "roof_told" "roof_told" s_rt f fd)(T:Txt K mg base d)(D_ht:aO P w K mg base CXf 6 "house_told" ["t"] (sp_ht K d)){fI:Addr}{fdI:FuncData}(mw:Mk K d.Roof fI)(D_i:bJ P w K mg base CX0 7 fI fdI ["self","cells"] (sp_i K d))(Dc:Binds K fdI ["self","cells"] []):bJ P w K mg base CXf 9 f fd ["t"] (sp_rt K d):=by
 refine okX F sc_rt (fun vs H Q E h=>by obtain⟨a,ns,rfl,_⟩:=h;rfl) (fun _ _ _ _ H _ Q E hr hok h=>?_);have hu:=bB hr;obtain⟨a,ns,rfl,hS,hl,hB,k1,k2⟩:=h;refine⟨_,(aD (aP (JS mw D_i (hm hr) rfl T.MQ Dc .nil aV (a8 (aS D_ht (hm hr) (yQ hok) rfl (a8 (pv 0) aC)) aC)))),?_⟩;refine⟨_,rfl,a,ns,rfl,hS,hl,hB,fun F hF hH cA H1 s1 fc hC=>?_,k2⟩;obtain⟨mf,qw,jl⟩:=iK hH;refine fun x dx nx wo nex=>?_
 have hxx:(upd (upd H1 dx (.own x)) x (.ins d.Roof dx [])) x=some (.ins d.Roof dx []):=a7;refine⟨x,dx,cA,RM.aR F,rfl,hxx,by unfold D2;rw[aA (aI hC nx),aA (aI hC wo)];exact hC,kW F,fun c hc=>⟨(RM.gW.mp hc).1,(RM.gW.mp hc).2.1⟩,mf,jl,fun dA hA fA nA gA ht Ns H2 kp ra=>⟨rfl,k1 F hF hH x cA dA hA fA nA gA ht Ns H2 (a9.trans s1 (a9.made nx wo kp)) ra⟩⟩
abbrev s_re:Stmt:=(top 68)
theorem sc_re:aJ ["facing"] ["facing"] (aG s_re):=fS
noncomputable def sp_re(K:W.Frag)(d:Adr):Sp:=fun vs H Q _=>∃x:Int,vs=[.int x]/\Q (.bl (decide (x%2=0))) H
theorem ok_re(F:Fun K "runs_eastward" "runs_eastward" s_re f fd)(T:Txt K mg base d):bJ P w K mg base CX0 1 f fd ["facing"] (sp_re K d):=by
 refine F.ok sc_re (fun vs H Q E h=>by obtain⟨x,rfl,_⟩:=h;rfl) (fun _ _ _ _ H _ Q E hr h=>?_);have hu:=bB hr;obtain⟨x,rfl,k⟩:=h;refine⟨_,(aD (aP (n8 iX (cI pG (pv 0) aL) aL (c6 _)))),?_⟩;refine⟨_,rfl,_,_,rfl,rfl,(by show(0:Int)<2;decide),rfl,?_⟩;have e3:(x%2==0)=decide (x%2=0):=by rw[ck,beq_iff_eq,decide_eq_true_iff]
 rw[oB,e3];exact k
abbrev s_po:Stmt:=(top 69)
theorem sc_po:aJ ["face","roof","places","triangle","along","place","i","j","side"] ["face","roof"] (aG s_po):=fS
noncomputable def sp_po(K:W.Frag)(d:Adr):Sp:=fun vs H Q _=>∃(b x:Addr)(N:List PI3)(h:List Nat),vs=[.ref b,.ref x]/\LS H b N/\AD h d.Roof H x/\(∀t∈N,0<=t.2.2/\t.2.2<4/\(t.1,t.2.1)∈h.map RM.hP)/\N.length<=4096/\∀r jj H',a9 H H'->H r=none->D2 H' r (IV jj)->RM.c9 jj (N.map (RM.bH h))->Q (.ref r) H'
theorem ok_po(F:Fun K "places_on" "places_on" s_po f fd)(T:Txt K mg base d)(D_re:aO P w K mg base CX0 1 "runs_eastward" ["facing"] (sp_re K d)):bJ P w K mg base CX0 2 f fd ["face","roof"] (sp_po K d):=by
 refine F.ok sc_po (fun vs H Q E h=>by obtain⟨b,x,N,h,rfl,_⟩:=h;rfl) (fun _ _ _ _ H _ Q E hr h=>?_);have hu:=bB hr;obtain⟨b,x,N,h,rfl,⟨xs,hb,pr⟩,hx,hs,hl,k⟩:=h;obtain⟨dx,fs,dA,hA,fA,ht,x1,x2,x3,x4,x5,x6,x7,x8⟩:=hx.ex;have lx:=pairs_len pr;refine⟨_,(aB (psN (i:=2) sc_po.nd dG)
   (aB (bV PassesOwn.never rfl (cP (pv 0)) (pgN (i:=3) sc_po.nd) (aB (pA (pv 3) (gO rfl (aT (pgN (i:=6) sc_po.nd) (aT (pgN (i:=7) sc_po.nd) (aT (pgN (i:=8) sc_po.nd) d9)))))
   (aB (psN (i:=4) sc_po.nd (HC (iE (aS D_re (hm hr) aV rfl (a8 (lI hu (kC (pv 1) rfl) (pv 3) (fun _ _=>rfl)) aC)) (fun _=>rfl)) (pv 6) (pv 7)))
   (aB (psN (i:=5) sc_po.nd (d7 (a8 (lI hu (kC (pv 1) rfl) (d7 (a8 (pv 6) (a8 (pv 7) aC))) (fun _ _=>rfl)) (a8 (pv 4) aC))))
   (aD (eS hu (pv 2) (pv 5) (cI fY (sQ hu (pv 2) (pv 5) aL ⟨rfl,rfl,rfl,rfl⟩) aL) rfl))))))
   (aD (aP (pv 2))))),?_⟩
 refine fun f hf=>?_
 have s1:a9 H (upd H f (.dT (kvF k2 (IV [])))):=a9.upd hf;refine⟨_,rfl,b,rfl,⟨_,SqL.of (s1 _ _ hb)⟩,gV (K:=K) (a:=b) (xs:=xs)
  (fun i σ H2=>∃(jj:List (PI×Int))(v3 v4 v5 v6 v7 v8:Option V),σ=[some (.ref b),some (.ref x),some (.ref f),v3,v4,v5,v6,v7,v8]/\a9 H H2/\D2 H2 f (IV jj)/\RM.c9 jj ((N.take i).map (RM.bH h)))
  ⟨[],none,none,none,none,none,none,rfl,s1,a7,RM.c9.start⟩ (fun i σ H2 _ ⟨_,_,_,_,_,_,_,_,s2,_⟩=>s2.seq (SqL.of hb)) ?_ ?_⟩
 ·rintro i v σ H2 hv ⟨jj,v3,v4,v5,v6,v7,v8,rfl,s2,hD,C⟩;obtain⟨t,qz,⟨q,rfl,hq⟩⟩:=pairs_at pr hv;have ph:=pT qz;obtain⟨t0,t4,mem⟩:=hs t (az qz);have hq:=s2 _ _ hq;have gF:=(x8.mono s2).get (p:=t) hq;rw[fB,RM.FA t0 t4 mem]at gF;have lC:=C.len;rw[ai,bu]at lC;refine⟨_,rfl,q,_,rfl,SqT.of hq,rfl,_,_,rfl,_,_,rfl,_,_,rfl,rfl,?_⟩;refine⟨_,rfl,x,d.Roof,dx,fs,_,rfl,s2 _ _ x1,T.cX,T.pH,x4,_,rfl,fA,_,rfl,gF,_,rfl,_,rfl,?_⟩;refine cG (fun c=>?_) (fun c=>?_)
  ·skip
   refine⟨_,rfl,_,rfl,x,d.Roof,dx,fs,_,rfl,s2 _ _ x1,T.cX,T.kE,x2,_,rfl,_,rfl,(by show 2<=sizeLine;decide),fun t1 h1=>?_⟩;have s3:a9 H (upd H2 t1 (.tup [.int t.1,.int t.2.1])):=a9.trans s2 (a9.upd h1);have Be:(upd H2 t1 (.tup [.int t.1,.int t.2.1])) t1=some (.tup [.int t.1,.int t.2.1]):=a7;have ku:D2 (upd H2 t1 (.tup [.int t.1,.int t.2.1])) f (IV jj):=a9.upd (o:=.tup [.int t.1,.int t.2.1]) h1 _ _ hD;generalize (upd H2 t1 (.tup [.int t.1,.int t.2.1]))=H3 at s3 Be ku ⊢;have gD:=(x5.mono s3).get (p:=(t.1,t.2.1)) Be;rw[fB,RM.vX mem]at gD;refine⟨dA,_,rfl,gD,_,rfl,(by show 2<=sizeLine;decide),fun t2 h2=>?_⟩;have ep:RM.bH h t=(RM.cY h (t.1,t.2.1),t.1):=by unfold RM.bH;rw[ah (bp c)]
   have s4:a9 H (upd H3 t2 (.tup [.int (RM.cY h (t.1,t.2.1)),.int t.1])):=a9.trans s3 (a9.upd h2);have qm:(upd H3 t2 (.tup [.int (RM.cY h (t.1,t.2.1)),.int t.1])) t2=some (.tup [.int (RM.bH h t).1,.int (RM.bH h t).2]):=by rw[ep];exact a7
   have ka:D2 (upd H3 t2 (.tup [.int (RM.cY h (t.1,t.2.1)),.int t.1])) f (IV jj):=a9.upd (o:=.tup [.int (RM.cY h (t.1,t.2.1)),.int t.1]) h2 _ _ ku;generalize (upd H3 t2 (.tup [.int (RM.cY h (t.1,t.2.1)),.int t.1]))=H4 at s4 qm ka ⊢;have eg:(RM.aK (IV jj) (RM.bH h t)).getD (V.int 0)=V.int ((RM.aK jj (RM.bH h t)).getD 0):=by rw[fB];cases RM.aK jj (RM.bH h t)<;>rfl
   refine⟨_,rfl,f,rfl,.inr ⟨_,ka.rd⟩,_,rfl,_,R2.get (p:=RM.bH h t) ka.rd qm,_,_,eg,rfl,?_⟩;refine⟨_,rfl,_,rfl,f,_,rfl,D2.put ka qm _ (by rw[dY];exact few (m:=5000) (by omega)),RM.cR jj (RM.bH h t) ((RM.aK jj (RM.bH h t)).getD 0+1),_,_,_,_,_,_,rfl,a9.put s4 hf,?_,?_⟩
   ·unfold D2;rw[a7,<- lE]
   ·rw[RM.take_snoc qz,cg];exact C.step (RM.bH h t)
  ·skip
   refine⟨_,rfl,_,rfl,x,d.Roof,dx,fs,_,rfl,s2 _ _ x1,T.cX,T.kE,x2,_,rfl,_,rfl,(by show 2<=sizeLine;decide),fun t1 h1=>?_⟩;have s3:a9 H (upd H2 t1 (.tup [.int t.1,.int t.2.1])):=a9.trans s2 (a9.upd h1);have Be:(upd H2 t1 (.tup [.int t.1,.int t.2.1])) t1=some (.tup [.int t.1,.int t.2.1]):=a7;have ku:D2 (upd H2 t1 (.tup [.int t.1,.int t.2.1])) f (IV jj):=a9.upd (o:=.tup [.int t.1,.int t.2.1]) h1 _ _ hD;generalize (upd H2 t1 (.tup [.int t.1,.int t.2.1]))=H3 at s3 Be ku ⊢;have gD:=(x5.mono s3).get (p:=(t.1,t.2.1)) Be;rw[fB,RM.vX mem]at gD;refine⟨dA,_,rfl,gD,_,rfl,(by show 2<=sizeLine;decide),fun t2 h2=>?_⟩;have ep:RM.bH h t=(RM.cY h (t.1,t.2.1),t.2.1):=by unfold RM.bH;rw[ag (fun z=>c (decide_eq_true z))]
   have s4:a9 H (upd H3 t2 (.tup [.int (RM.cY h (t.1,t.2.1)),.int t.2.1])):=a9.trans s3 (a9.upd h2);have qm:(upd H3 t2 (.tup [.int (RM.cY h (t.1,t.2.1)),.int t.2.1])) t2=some (.tup [.int (RM.bH h t).1,.int (RM.bH h t).2]):=by rw[ep];exact a7
   have ka:D2 (upd H3 t2 (.tup [.int (RM.cY h (t.1,t.2.1)),.int t.2.1])) f (IV jj):=a9.upd (o:=.tup [.int (RM.cY h (t.1,t.2.1)),.int t.2.1]) h2 _ _ ku;generalize (upd H3 t2 (.tup [.int (RM.cY h (t.1,t.2.1)),.int t.2.1]))=H4 at s4 qm ka ⊢;have eg:(RM.aK (IV jj) (RM.bH h t)).getD (V.int 0)=V.int ((RM.aK jj (RM.bH h t)).getD 0):=by rw[fB];cases RM.aK jj (RM.bH h t)<;>rfl
   refine⟨_,rfl,f,rfl,.inr ⟨_,ka.rd⟩,_,rfl,_,R2.get (p:=RM.bH h t) ka.rd qm,_,_,eg,rfl,?_⟩;refine⟨_,rfl,_,rfl,f,_,rfl,D2.put ka qm _ (by rw[dY];exact few (m:=5000) (by omega)),RM.cR jj (RM.bH h t) ((RM.aK jj (RM.bH h t)).getD 0+1),_,_,_,_,_,_,rfl,a9.put s4 hf,?_,?_⟩
   ·unfold D2;rw[a7,<- lE]
   ·rw[RM.take_snoc qz,cg];exact C.step (RM.bH h t)
 ·rintro σ H2 ⟨jj,v3,v4,v5,v6,v7,v8,rfl,s2,hD,C⟩;rw[lx,bc (au _)]at C;exact⟨_,rfl,k f jj H2 s2 hf hD C⟩
abbrev s_pbf:Stmt:=(top 72)
theorem sc_pbf:aJ ["roof","face"] ["roof"] (aG s_pbf):=fS
noncomputable def LDs(H:Hp)(r:Addr)(Ls:List (List PI)):Prop:=∃bs:List Addr,H r=some (.lst (bs.map V.ref))/\Paired (fun b L=>∃jj,D2 H b (IV jj)/\RM.c9 jj L) bs Ls
theorem LDs.mono{H H':Hp}{r:Addr}{Ls:List (List PI)}(e:a9 H H')(h:LDs H r Ls):LDs H' r Ls:=let⟨bs,h1,h2⟩:=h;⟨bs,e _ _ h1,aH (fun _ _ ⟨jj,q,c⟩=>⟨jj,e _ _ q,c⟩) h2⟩
theorem pI{α β:Type}{f:α->β}{l:List α}{i:Nat}{y:β}(h:(l.map f)[i]? =some y):∃x,l[i]? =some x/\y=f x:=by
 rw[ba]at h;cases e:l[i]? with
 |none=>rw[e]at h;cases h
 |some x=>rw[e]at h;cases h;exact⟨x,rfl,rfl⟩
noncomputable def sp_pbf(K:W.Frag)(d:Adr):Sp:=fun vs H Q _=>∃(x cA dA hA fA nA gA:Addr)(C:List (Nat×Nat))(ht:List (PI×Int))(Ns:List (List PI3)),vs=[.ref x]/\mL C d.Roof H x cA dA hA fA nA gA ht Ns/\C.length<=256/\∀r H',a9 H H'->H r=none->LDs H' r (Ns.map fun N=>N.map (RM.bH (Roof.halvesOf C)))->Q (.ref r) H'
theorem ok_pbf(F:Fun K "places_by_face" "places_by_face" s_pbf f fd)(T:Txt K mg base d)(D_po:aO P w K mg base CX0 2 "places_on" ["face","roof"] (sp_po K d)):bJ P w K mg base CX0 3 f fd ["roof"] (sp_pbf K d):=by
 refine F.ok sc_pbf (fun vs H Q E h=>by obtain⟨x,cA,dA,hA,fA,nA,gA,C,ht,Ns,rfl,_⟩:=h;rfl) (fun _ _ _ _ H _ Q E hr h=>?_);have hu:=bB hr;obtain⟨x,cA,dA,hA,fA,nA,gA,C,ht,Ns,rfl,ra,mf,k⟩:=h;obtain⟨dx,fs,hx,q1,q2,q3,q4,q5,q6⟩:=ra.ins;obtain⟨bs,hg,pr⟩:=ra.faces;obtain⟨m1,m2,m3⟩:=ra.nok.small mf;have lx:=pairs_len pr;refine⟨_,(aD (aP (sP (own:=[("face",1)]) rfl sc_pbf.nd (cP (kC (pv 0) rfl)) (cZ (by first|decide+kernel|kernel_rfl)) (fun _ _ _ _ _=>(pgN (i:=1) sc_pbf.nd)) (fun _ _ _ _ _=>hO) (fun _ _ _ _ _=>(aS D_po (hm hr) aV rfl (a8 (pv 1) (a8 (pv 0) aC))))))),?_⟩;refine⟨_,rfl,x,d.Roof,dx,fs,_,rfl,hx,T.cX,T.CT,q6,gA,rfl,⟨_,SqL.of hg⟩,fun D hD=>gH (K:=K) (a:=gA) (xs:=bs.map V.ref)
  (fun i H2=>a9 H H2/\∃cs:List Addr,H2 D=some (.lst (cs.map V.ref))/\Paired (fun b L=>b≠D/\∃jj,D2 H2 b (IV jj)/\RM.c9 jj L) cs ((Ns.take i).map fun N=>N.map (RM.bH (Roof.halvesOf C)))) ⟨a9.upd hD,[],a7,.nil⟩ (fun i H2 _ ⟨s2,_⟩=>s2.seq (SqL.of hg)) ?_ ?_⟩
 ·rintro i v H2 hv ⟨s2,cs,h2,pc⟩;obtain⟨b,hb,rfl⟩:=pI hv;obtain⟨N,hN,ls⟩:=pairs_at pr hb;have ph:=pT hN;have hm:=az hN;have lc:=pairs_len pc;rw[ai,bu]at lc;refine⟨rfl,_,rfl,_,rfl,b,x,N,_,rfl,LS.mono s2 ls,ra.l.mono s2,fun t qz=>⟨(ra.nok.side N hm t qz).1,(ra.nok.side N hm t qz).2,ra.nok.half N hm t qz⟩,m3 N hm,fun r jj H3 s3 fr hT C3=>?_⟩;have h3:=s3 _ _ h2;have nr:r≠D:=fun z=>by rw[z,h2]at fr;cases fr
  refine⟨_,h3,by rw[ai];exact few (m:=5000) (by omega),a9.put (a9.trans s2 s3) hD,cs++[r],by rw[a7];simp,?_⟩;rw[RM.take_snoc hN,cg];refine aW ⟨nr,jj,by unfold D2;rw[aA nr];exact hT,C3⟩ (aH (fun b L ⟨n1,tb,q,c⟩=>⟨n1,tb,?_,c⟩) pc);unfold D2;rw[aA n1];exact s3 _ _ q
 ·rintro H2 ⟨s2,cs,h2,pc⟩;rw[ai,lx,bc (au _)]at pc;exact k D H2 s2 hD ⟨cs,h2,aH (fun _ _ z=>z.2) pc⟩
abbrev s_to:Stmt:=(top 70)
theorem sc_to:aJ ["places","W","H","tiles","place","count","course","shift","tile"] ["places","W","H"] (aG s_to):=fS
noncomputable def sp_to(K:W.Frag)(d:Adr):Sp:=fun vs H Q _=>∃(a:Addr)(jj:List (PI×Int))(w h:Int),vs=[.ref a,.int w,.int h]/\D2 H a (IV jj)/\0<w/\0<h/\w<=64/\h<=64/\jj.length<=4096/\∀r jm H',a9 H H'->H r=none->D2 H' r (IV jm)->RM.uQ (RM.cH w h) jm jj->Q (.ref r) H'
theorem ok_to(F:Fun K "tiles_over" "tiles_over" s_to f fd)(T:Txt K mg base d):bJ P w K mg base CX0 1 f fd ["places","W","H"] (sp_to K d):=by
 refine F.ok sc_to (fun vs H Q E h=>by obtain⟨a,jj,w,h,rfl,_⟩:=h;rfl) (fun _ _ _ _ H _ Q E hr h=>?_);have hu:=bB hr;obtain⟨a,jj,w,h,rfl,hA,w0,h0,w6,h6,hl,k⟩:=h;have big:(2:Int)^64=18446744073709551616:=by decide
 generalize eK:kvF k2 (IV jj)=KV;have hA:H a=some (.dT KV):=by rw[<- eK];exact hA
 refine⟨_,(aB (psN (i:=3) sc_to.nd dG)
   (aB (jA (bV PassesOwn.never rfl (pC (pv 0)) (gO rfl (aT (pgN (i:=4) sc_to.nd) (aT (pgN (i:=5) sc_to.nd) d9))) (aB (psN (i:=6) sc_to.nd (cI wY (cD c7 (pv 4) aL (fun _ _=>rfl)) (pv 2)))
   (aB (psN (i:=7) sc_to.nd (cI pE (cI wY (pv 1) aL) (cI pG (pv 6) aL)))
   (aB (psN (i:=8) sc_to.nd (d7 (a8 (pv 6) (a8 (cI wY (cI fY (cD c7 (pv 4) aL (fun _ _=>rfl)) (pv 7)) (pv 1)) aC))))
   (aD (eS hu (pv 3) (pv 8) (cI fY (sQ hu (pv 3) (pv 8) aL ⟨rfl,rfl,rfl,rfl⟩) (pv 5)) rfl)))))))
   (aD (aP (pv 3))))),?_⟩
 refine fun f hf=>?_
 have nc:a≠f:=aI hA hf;have kj:∀od,(upd H a (.frz od (.dT KV))) f=none:=fun od=>fF hA hf
 refine⟨a,.dT KV,by rw[aA nc];exact hA,trivial,fun od=>⟨_,rfl,a,od,_,rfl,a7,pW (d:=a) (od:=od) (kvs:=KV)
  (fun i σ H2=>∃(jm:List (PI×Int))(v4 v5 v6 v7 v8:Option V),σ=[some (.ref a),some (.int w),some (.int h),some (.ref f),v4,v5,v6,v7,v8]/\a9 (upd H a (.frz od (.dT KV))) H2/\D2 H2 f (IV jm)/\RM.uQ (RM.cH w h) jm (jj.take i)/\jm.length<=i)
  ⟨[],none,none,none,none,none,rfl,a9.both (a9.upd hf),by unfold D2;rw[aA nc.symm,a7];rfl,RM.uQ.start _,au _⟩ (fun i σ H2 ⟨_,_,_,_,_,_,_,s2,_⟩=>s2 _ _ a7) ?_ ?_⟩⟩
 ·rintro i kk vv q T' σ H2 hi hq hT' ⟨jm,v4,v5,v6,v7,v8,rfl,s2,hD,C,hl2⟩;rw[<- eK]at hi;obtain⟨p,hp,rfl⟩:=pM hi;obtain⟨m,hm,rfl⟩:∃m,jj[i]? =some (p,m)/\vv=.int m:=by
   unfold IV at hp;rw[ba]at hp;cases e:jj[i]? with
   |none=>rw[e]at hp;cases hp
   |some x=>rw[e]at hp;cases hp;exact⟨x.2,rfl,rfl⟩
  have ph:=(ak.mp hm).1;have hq:H2 q=some (.tup [.int p.1,.int p.2]):=hq;have s3:a9 H2 (upd H2 T' (.tup [.ref q,.int m])):=a9.upd hT';refine⟨T',_,rfl,SqT.of a7,rfl,_,_,rfl,_,_,rfl,rfl,?_⟩;have tj:=a9.trans s2 s3;have ku:=s3 _ _ hD;have uv:=s3 _ _ hq;generalize (upd H2 T' (.tup [.ref q,.int m]))=H3 at s3 tj ku uv ⊢;refine⟨_,rfl,q,_,_,_,rfl,rfl,SqT.of uv,bI (by decide) rfl,_,rfl,_,_,rfl,rfl,⟨h0,by omega⟩,?_⟩;refine⟨_,rfl,_,_,rfl,rfl,⟨by decide,by decide⟩,_,rfl,_,_,rfl,rfl,(by show(0:Int)<2;decide),_,_,rfl,rfl,.inl ⟨by omega,by omega⟩,?_⟩;refine⟨_,rfl,_,rfl,q,_,_,_,rfl,rfl,SqT.of uv,bI (by decide) rfl,_,rfl,_,_,rfl,rfl,_,rfl,_,_,rfl,rfl,⟨w0,by omega⟩,(by show 2<=sizeLine;decide),fun t ht=>?_⟩;have s4:a9 H3 (upd H3 t (.tup [.int (RM.cH w h p).1,.int (RM.cH w h p).2])):=a9.upd ht;have qm:(upd H3 t (.tup [.int (RM.cH w h p).1,.int (RM.cH w h p).2])) t=some (.tup [.int (RM.cH w h p).1,.int (RM.cH w h p).2]):=a7;show j2 8 (.ref t) _ (upd H3 t (.tup [.int (RM.cH w h p).1,.int (RM.cH w h p).2])) _
  have ka:D2 (upd H3 t (.tup [.int (RM.cH w h p).1,.int (RM.cH w h p).2])) f (IV jm):=s4 _ _ ku;generalize (upd H3 t (.tup [.int (RM.cH w h p).1,.int (RM.cH w h p).2]))=H4 at s4 qm ka ⊢;have eg:(RM.aK (IV jm) (RM.cH w h p)).getD (V.int 0)=V.int ((RM.aK jm (RM.cH w h p)).getD 0):=by rw[fB];cases RM.aK jm (RM.cH w h p)<;>rfl
  refine⟨_,rfl,f,rfl,.inr ⟨_,ka.rd⟩,_,rfl,_,R2.get (p:=RM.cH w h p) ka.rd qm,_,rfl,_,_,eg,rfl,?_⟩;refine⟨_,rfl,_,rfl,f,_,rfl,D2.put ka qm _ (by rw[dY];exact few (m:=5000) (by omega)),RM.cR jm (RM.cH w h p) ((RM.aK jm (RM.cH w h p)).getD 0+m),_,_,_,_,_,rfl,a9.put (a9.trans tj s4) (kj od),?_,?_,?_⟩
  ·unfold D2;rw[a7,<- lE]
  ·rw[RM.take_snoc hm];exact C.step (p,m)
  ·have:=RM.l8 jm (RM.cH w h p) ((RM.aK jm (RM.cH w h p)).getD 0+m);omega
 ·rintro σ H2 ⟨jm,v4,v5,v6,v7,v8,rfl,s2,hD,C,hl2⟩;have el:KV.length=jj.length:=by rw[<- eK,eZ,dY]
  rw[el,bc (au _)]at C;exact⟨s2 _ _ a7,_,rfl,k f jm _ (a9.unlock hA s2) hf (by unfold D2;rw[aA nc.symm];exact hD) C⟩
abbrev s_wac:Stmt:=(top 71)
theorem sc_wac:aJ ["places","W","H","counts","whole"] ["places","W","H"] (aG s_wac):=fS
noncomputable def sp_wac(K:W.Frag)(d:Adr):Sp:=fun vs H Q _=>∃(a:Addr)(jj:List (PI×Int))(L:List PI)(w h:Int),vs=[.ref a,.int w,.int h]/\D2 H a (IV jj)/\RM.c9 jj L/\L.length<=4096/\0<w/\0<h/\w<=64/\h<=64/\∀r jm H',a9 H H'->H r=none->RM.c9 jm (L.map (RM.cH w h))->H' r=some (.lst ([((jm.map (·.2)).count (4*w*h):Int),(jm.length:Int) - ((jm.map (·.2)).count (4*w*h):Int)].map V.int))->Q (.ref r) H'
theorem ok_wac(F:Fun K "whole_and_cut" "whole_and_cut" s_wac f fd)(T:Txt K mg base d)(D_to:aO P w K mg base CX0 1 "tiles_over" ["places","W","H"] (sp_to K d)):bJ P w K mg base CX0 2 f fd ["places","W","H"] (sp_wac K d):=by
 refine F.ok sc_wac (fun vs H Q E h=>by obtain⟨a,jj,L,w,h,rfl,_⟩:=h;rfl) (fun _ _ _ _ H _ Q E hr h=>?_);have hu:=bB hr;obtain⟨a,jj,L,w,h,rfl,hA,C,hl,w0,h0,w6,h6,k⟩:=h;have big:(2:Int)^64=18446744073709551616:=by decide
 have jw:=C.len;refine⟨_,(aB (psN (i:=3) sc_wac.nd (yO rfl (by rfl) T.list (aS D_to (hm hr) aV rfl (a8 (pv 0) (a8 (pv 1) (a8 (pv 2) aC))))))
   (aB (psN (i:=4) sc_wac.nd (hV PySem.F.plainAttrs_list PySem.F.slot_list_count PySem.F.type_list_count EF (pv 3) (a8 (cI pE (cI pE aL (pv 1)) (pv 2)) aC)))
   (aD (aP (eU (a8 (pv 4) (a8 (cI wX (bG bP (by rfl) T.len PySem.boot_len (a8 (pv 3) aC)) (pv 4)) aC))))))),?_⟩
 refine⟨_,rfl,_,rfl,_,rfl,a,jj,w,h,rfl,hA,w0,h0,w6,h6,by omega,fun r jm H1 s1 fr hD WC=>?_⟩;have C2:=WC.done C;have l2:=C2.len;rw[ai]at l2;refine⟨r,_,rfl,hD.rd,fun l qx=>?_⟩;have ev:(kvF k2 (IV jm)).map (·.2)=(jm.map (·.2)).map V.int:=by unfold kvF IV;rw[dq,dq,dq];rfl
 rw[ev];have s2:a9 H1 (upd H1 l (.lst ((jm.map (·.2)).map V.int))):=a9.upd qx;have hll:(upd H1 l (.lst ((jm.map (·.2)).map V.int))) l=some (.lst ((jm.map (·.2)).map V.int)):=a7;generalize (upd H1 l (.lst ((jm.map (·.2)).map V.int)))=H2 at s2 hll ⊢;refine⟨_,rfl,.inl ⟨rfl,_,SqL.of hll⟩,_,rfl,_,_,rfl,rfl,.inl ⟨by omega,by omega⟩,_,rfl,_,_,rfl,rfl,.inr ⟨by omega,by omega⟩,l,jm.map (·.2),4*w*h,rfl,rfl,SqL.of hll,?_⟩;refine⟨_,rfl,_,rfl,l,_,rfl,.inl (SqL.of hll),_,rfl,_,_,rfl,rfl,(by show 2<=sizeLine;decide),fun p hp=>k p jm _ (a9.trans s1 (a9.trans s2 (a9.upd hp))) (a9.free (a9.trans s1 s2) hp) C2 ?_⟩;rw[a7,ai,ai];rfl
abbrev s_wact:Stmt:=(top 73)
theorem sc_wact:aJ ["faces","W","H","pairs","places","whole","cut"] ["faces","W","H"] (aG s_wact):=fS
noncomputable def sp_wact(K:W.Frag)(d:Adr):Sp:=fun vs H Q _=>∃(r:Addr)(Ls:List (List PI))(w h:Int),vs=[.ref r,.int w,.int h]/\LDs H r Ls/\(∀L∈Ls,L.length<=4096)/\Ls.length<=4096/\0<w/\0<h/\w<=64/\h<=64/\∀p (jy:List (List (PI×Int))) H',a9 H H'->H p=none->jy.length=Ls.length->(∀(k:Nat) jj L,jy[k]? =some jj->Ls[k]? =some L->RM.c9 jj (L.map (RM.cH w h)))->H' p=some (.lst ([(jy.map fun x=>(RM.oP (4*w*h) x).1).sum,(jy.map fun x=>(RM.oP (4*w*h) x).2).sum].map V.int))->Q (.ref p) H'
theorem ok_wact(F:Fun K "whole_and_cut_together" "whole_and_cut_together" s_wact f fd)(T:Txt K mg base d)(D_wac:aO P w K mg base CX0 2 "whole_and_cut" ["places","W","H"] (sp_wac K d)):bJ P w K mg base CX0 3 f fd ["faces","W","H"] (sp_wact K d):=by
 refine F.ok sc_wact (fun vs H Q E h=>by obtain⟨r,Ls,w,h,rfl,_⟩:=h;rfl) (fun _ _ _ _ H _ Q E hr h=>?_);have hu:=bB hr;obtain⟨r,Ls,w,h,rfl,⟨bs,tu,pr⟩,hls,hl,w0,h0,w6,h6,k⟩:=h;have lx:=pairs_len pr;refine⟨_,(aB (yM (i:=3) (own:=[("places",4)]) rfl sc_wact.nd rfl rfl (by exact rH rfl rfl rfl rfl) (cP (pv 0)) (cZ (by first|decide+kernel|kernel_rfl)) (fun _ _ _ _ _=>(pgN (i:=4) sc_wact.nd)) (fun _ _ _ _ _=>hO) (fun _ _ _ _ _=>(aS D_wac (hm hr) aV rfl (a8 (pv 4) (a8 (pv 1) (a8 (pv 2) aC))))))
   (aD (aP (eU (a8 (bG (IW rfl) (by rfl) T.sum (by rfl) (a8 (sP (own:=[("whole",5),("cut",6)]) rfl sc_wact.nd (cP (pv 3)) (cZ (by first|decide+kernel|kernel_rfl)) (fun _ _ _ _ _=>(CN (K:=K) (n:=2) rfl rfl (aT (pgN (i:=5) sc_wact.nd) (aT (pgN (i:=6) sc_wact.nd) d9)))) (fun _ _ _ _ _=>hO) (fun _ _ _ _ _=>(pv 5))) aC)) (a8 (bG (IW rfl) (by rfl) T.sum (by rfl) (a8 (sP (own:=[("whole",5),("cut",6)]) rfl sc_wact.nd (cP (pv 3)) (cZ (by first|decide+kernel|kernel_rfl)) (fun _ _ _ _ _=>(CN (K:=K) (n:=2) rfl rfl (aT (pgN (i:=5) sc_wact.nd) (aT (pgN (i:=6) sc_wact.nd) d9)))) (fun _ _ _ _ _=>hO) (fun _ _ _ _ _=>(pv 6))) aC)) aC)))))),?_⟩
 refine⟨_,rfl,r,rfl,⟨_,SqL.of tu⟩,fun D hD=>gH (K:=K) (a:=r) (xs:=bs.map V.ref)
  (fun i H2=>a9 H H2/\∃(cs:List Addr)(jy:List (List (PI×Int))),H2 D=some (.lst (cs.map V.ref))/\Paired (fun c jj=>c≠D/\H2 c=some (.lst ([(RM.oP (4*w*h) jj).1,(RM.oP (4*w*h) jj).2].map V.int))) cs jy/\jy.length=i/\∀(k:Nat) jj L,jy[k]? =some jj->Ls[k]? =some L->RM.c9 jj (L.map (RM.cH w h))) ⟨a9.upd hD,[],[],a7,.nil,rfl,fun _ _ _ z=>(by cases z)⟩ (fun i H2 _ ⟨s2,_⟩=>s2.seq (SqL.of tu)) ?_ ?_⟩
 ·rintro i v H2 hv ⟨s2,cs,jy,h2,pc,lt,C⟩;obtain⟨b,hb,rfl⟩:=pI hv;obtain⟨L,hL,jj,hT,c0⟩:=pairs_at pr hb;have ph:=pT hL;have hm:=az hL;have lc:=pairs_len pc;refine⟨rfl,_,rfl,_,rfl,_,rfl,b,jj,L,w,h,rfl,s2 _ _ hT,c0,hls L hm,w0,h0,w6,h6,fun p jm H3 s3 fr C2 hp=>?_⟩;have np:p≠D:=fun z=>by rw[z,h2]at fr;cases fr
  refine⟨_,s3 _ _ h2,by rw[ai];exact few (m:=5000) (by omega),a9.put (a9.trans s2 s3) hD,cs++[p],jy++[jm],by rw[a7];simp,aW ⟨np,by rw[aA np];exact hp⟩ (aH (fun c tb ⟨n1,q⟩=>⟨n1,by rw[aA n1];exact s3 _ _ q⟩) pc),by rw[aq,lt];rfl,fun k' tb L' hk Cm=>?_⟩;by_cases e:k'<jy.length
  ·exact C k' tb L' (by rwa [fj e]at hk) Cm
  ·have e2:k'=i:=by have:=(ak.mp hk).1;simp at this;omega
   subst e2;rw[dc (by omega),lt,Nat.sub_self]at hk;rw[hL]at Cm;cases Cm;cases hk;exact C2
 ·rintro H2 ⟨s2,cs,jy,h2,pc,lt,C⟩;rw[ai,lx]at lt;have lc:=pairs_len pc;refine⟨_,rfl,D,rfl,⟨_,SqL.of h2⟩,fun E1 uf=>gH (K:=K) (a:=D) (xs:=cs.map V.ref) (fun i H3=>a9 H2 H3/\H3 E1=some (.lst (((jy.take i).map fun x=>(RM.oP (4*w*h) x).1).map V.int))) ⟨a9.upd uf,a7⟩ (fun i H3 _ ⟨s3,_⟩=>s3.seq (SqL.of h2)) ?_ ?_⟩
  ·rintro i v H3 hv ⟨s3,h3⟩;obtain⟨c,hc,rfl⟩:=pI hv;obtain⟨jj,ht,_,q⟩:=pairs_at pc hc;have ph:=pT ht;refine⟨c,_,rfl,SqL.of (s3 _ _ q),rfl,_,_,rfl,_,_,rfl,rfl,rfl,_,rfl,_,h3,?_,a9.put s3 uf,?_⟩
   ·rw[ai,ai,bu];exact few (m:=5000) (by omega)
   ·rw[a7,RM.take_snoc ht];simp
  ·rintro H3 ⟨s3,h3⟩;rw[ai,lc,bc (au _)]at h3;refine⟨E1,_,rfl,SqL.of h3,_,rfl,D,rfl,⟨_,SqL.of (s3 _ _ h2)⟩,fun E2 xi=>gH (K:=K) (a:=D) (xs:=cs.map V.ref) (fun i H4=>a9 H3 H4/\H4 E2=some (.lst (((jy.take i).map fun x=>(RM.oP (4*w*h) x).2).map V.int))) ⟨a9.upd xi,a7⟩ (fun i H4 _ ⟨s4,_⟩=>s4.seq (SqL.of (s3 _ _ h2))) ?_ ?_⟩
   ·rintro i v H4 hv ⟨s4,h4⟩;obtain⟨c,hc,rfl⟩:=pI hv;obtain⟨jj,ht,_,q⟩:=pairs_at pc hc;have ph:=pT ht;refine⟨c,_,rfl,SqL.of (s4 _ _ (s3 _ _ q)),rfl,_,_,rfl,_,_,rfl,rfl,rfl,_,rfl,_,h4,?_,a9.put s4 xi,?_⟩
    ·rw[ai,ai,bu];exact few (m:=5000) (by omega)
    ·rw[a7,RM.take_snoc ht];simp
   ·rintro H4 ⟨s4,h4⟩;rw[ai,lc,bc (au _)]at h4;exact⟨E2,_,rfl,SqL.of h4,(by show 2<=sizeLine;decide),fun p hp=>k p jy _ (a9.trans s2 (a9.trans s3 (a9.trans s4 (a9.upd hp)))) (a9.free (a9.trans s2 (a9.trans s3 s4)) hp) lt C a7⟩
abbrev s_bsr:Stmt:=(top 74)
theorem sc_bsr:aJ ["roof","sizes","faces","wants","number","size","fewest","fewest_cut","first","whole","cut"] ["roof","sizes"] (aG s_bsr):=fS
theorem WY{y x:Nat×Nat}{j b:Nat}(h:RM.lt3 y j x b):HT.lexLt [((y.1:Nat):Int)+((y.2:Nat):Int),((y.2:Nat):Int),(j:Int)] [((x.1:Nat):Int)+((x.2:Nat):Int),((x.2:Nat):Int),(b:Int)]=true:=by
 unfold RM.lt3 at h;rw[HT.fG];by_cases c:((y.1:Nat):Int)+((y.2:Nat):Int)=((x.1:Nat):Int)+((x.2:Nat):Int)
 ·rw[ah c,HT.fG];by_cases c2:((y.2:Nat):Int)=((x.2:Nat):Int)
  ·rw[ah c2,HT.fG,ag (by omega)];exact decide_eq_true (by omega)
  ·rw[ag c2];exact decide_eq_true (by omega)
 ·rw[ag c];exact decide_eq_true (by omega)
noncomputable def sp_bsr(K:W.Frag)(d:Adr):Sp:=fun vs H Q _=>∃(x cA dA hA fA nA gA:Addr)(C:List (Nat×Nat))(ht:List (PI×Int))(Ns:List (List PI3))(p:Addr)(ps:List PI),vs=[.ref x,.ref p]/\mL C d.Roof H x cA dA hA fA nA gA ht Ns/\C.length<=256/\C.Nodup/\(∀c∈C,c.1<64/\c.2<64)/\LC K H p ps/\ps≠[]/\ps.length<=64/\(∀z∈ps,RM.e7 z.1 z.2=true/\0<=z.1/\0<=z.2)/\∀r (k:Nat) (z:PI) H',a9 H H'->H r=none->ps[k]? =some z->(∀(j:Nat) q,ps[j]? =some q->¬RM.lt3 ((Roof.topOf C).roofTiles (RoofB.sizeOf q.1.toNat q.2.toNat)) j ((Roof.topOf C).roofTiles (RoofB.sizeOf z.1.toNat z.2.toNat)) k)->H' r=some (.lst ([(k:Int),((((Roof.topOf C).roofTiles (RoofB.sizeOf z.1.toNat z.2.toNat)).1:Nat):Int),((((Roof.topOf C).roofTiles (RoofB.sizeOf z.1.toNat z.2.toNat)).2:Nat):Int)].map V.int))->Q (.ref r) H'
theorem ok_bsr(F:Fun K "best_size_row" "best_size_row" s_bsr f fd)(T:Txt K mg base d)(D_pbf:aO P w K mg base CX0 3 "places_by_face" ["roof"] (sp_pbf K d))(D_wact:aO P w K mg base CX0 3 "whole_and_cut_together" ["faces","W","H"] (sp_wact K d)):bJ P w K mg base CX0 4 f fd ["roof","sizes"] (sp_bsr K d):=by
 refine F.ok sc_bsr (fun vs H Q E h=>by obtain⟨x,cA,dA,hA,fA,nA,gA,C,ht,Ns,p,ps,rfl,_⟩:=h;rfl) (fun _ _ _ _ H _ Q E hr h=>?_);have hu:=bB hr;obtain⟨x,cA,dA,hA,fA,nA,gA,C,ht,Ns,p,ps,rfl,ra,mf,hn,hb,⟨as,hp,pr⟩,jl,h64,hz,k⟩:=h;have lx:=pairs_len pr;obtain⟨m1,m2,m3⟩:=ra.nok.small mf;have hls:∀L∈Ns.map (fun N=>N.map (RM.bH (Roof.halvesOf C))),L.length<=4096:=fun L hL=>by obtain⟨N,hN,rfl⟩:=aw.mp hL;rw[ai];exact m3 N hN
 refine⟨_,(aB (psN (i:=2) sc_bsr.nd (aS D_pbf (hm hr) aV rfl (a8 (pv 0) aC)))
   (aB (psN (i:=3) sc_bsr.nd (eU aC))
   (aB (bV PassesOwn.never rfl (CM rfl T.enumerate (a8 (pv 1) aC)) (gO rfl (aT (pgN (i:=4) sc_bsr.nd) (aT (pgN (i:=5) sc_bsr.nd) d9))) (aB (pA (aS D_wact (hm hr) aV rfl (a8 (pv 2) (a8 (cD c7 (pv 5) aL (fun _ _=>rfl)) (a8 (cD c7 (pv 5) aL (fun _ _=>rfl)) aC)))) (GW (n:=2) rfl (aT (pgN (i:=9) sc_bsr.nd) (aT (pgN (i:=10) sc_bsr.nd) d9))))
   (aD (cT (hV PySem.F.plainAttrs_list PySem.F.slot_list_append PySem.F.type_list_append cF (pv 3) (a8 (d7 (a8 (cI fY (pv 9) (pv 10)) (a8 (pv 10) (a8 (pv 4) aC)))) aC))))))
   (aB (pA (bG (KW rfl hu) (by rfl) T.min (by rfl) (a8 (pv 3) aC)) (gO rfl (aT (pgN (i:=6) sc_bsr.nd) (aT (pgN (i:=7) sc_bsr.nd) (aT (pgN (i:=8) sc_bsr.nd) d9)))))
   (aD (aP (eU (a8 (pv 8) (a8 (cI wX (pv 6) (pv 7)) (a8 (pv 7) aC)))))))))),?_⟩
 refine⟨_,rfl,x,cA,dA,hA,fA,nA,gA,C,ht,Ns,rfl,ra,mf,fun r H1 s1 fr ld=>?_⟩;refine⟨cn _,fun wA hw=>?_⟩;have s2:a9 H1 (upd H1 wA (.lst [])):=a9.upd hw;refine⟨_,rfl,p,as.map V.ref,rfl,s2.seq (s1.seq hp),zT (K:=K) (a:=p) (xs:=as.map V.ref) (fun i σ H2=>∃(v4 v5 v6 v7 v8 v9 v10:Option V),σ=[some (.ref x),some (.ref p),some (.ref r),some (.ref wA),v4,v5,v6,v7,v8,v9,v10]/\a9 H1 H2/\∃(qs:List Addr)(ws:List (List Int)),H2 wA=some (.lst (qs.map V.ref))/\Paired (fun q n=>H2 q=some (.tup (n.map V.int))) qs ws/\ws.length=i/\∀(j:Nat) z,j<i->ps[j]? =some z->ws[j]? =some [((((Roof.topOf C).roofTiles (RoofB.sizeOf z.1.toNat z.2.toNat)).1:Nat):Int)+((((Roof.topOf C).roofTiles (RoofB.sizeOf z.1.toNat z.2.toNat)).2:Nat):Int),((((Roof.topOf C).roofTiles (RoofB.sizeOf z.1.toNat z.2.toNat)).2:Nat):Int),(j:Int)])
  ⟨none,none,none,none,none,none,none,rfl,s2,[],[],a7,.nil,rfl,fun j z hj=>absurd hj (Nat.not_lt_zero _)⟩ (fun i σ H2 _ ⟨_,_,_,_,_,_,_,_,s3,_⟩=>s3.seq (s1.seq hp)) ?_ ?_⟩
 ·rintro j v σ H2 Tt hj ⟨v4,v5,v6,v7,v8,v9,v10,rfl,s3,qs,ws,ur,pq,lw,W⟩ hT;obtain⟨a,ha,rfl⟩:=pI hj;obtain⟨z,ql,ca⟩:=pairs_at pr ha;obtain⟨sz,z0,z1⟩:=hz z (az ql);have hjl:=pT ql;have sb:0<z.1/\0<z.2/\z.1<=64/\z.2<=64:=by have s:=sz;unfold RM.e7 at s;simp only[dh,decide_eq_true_eq]at s;omega
  have s4:a9 H1 (upd H2 Tt (.tup [.int (j:Nat),.ref a])):=a9.trans s3 (a9.upd hT);have uo:(upd H2 Tt (.tup [.int (j:Nat),.ref a])) wA=some (.lst (qs.map V.ref)):=a9.upd hT _ _ ur;have pq3:Paired (fun q n=>(upd H2 Tt (.tup [.int (j:Nat),.ref a])) q=some (.tup (n.map V.int))) qs ws:=aH (fun q n e=>a9.upd hT _ _ e) pq;refine⟨Tt,_,rfl,SqT.of a7,rfl,_,_,rfl,_,_,rfl,rfl,?_⟩;generalize (upd H2 Tt (.tup [.int (j:Nat),.ref a]))=H3 at s4 uo pq3 ⊢;have ca3:SqT K H3 a [.int z.1,.int z.2]:=a9.sqT (a9.trans s1 s4) ca;refine⟨_,rfl,_,rfl,a,_,_,_,rfl,rfl,ca3,bI (by decide) rfl,_,rfl,a,_,_,_,rfl,rfl,ca3,bI (by decide) rfl,r,_,z.1,z.2,rfl,ld.mono s4,hls,by rw[ai];exact m2,sb.1,sb.2.1,sb.2.2.1,sb.2.2.2,fun pp jy H4 s5 fp lt C2 Bi=>?_⟩;rw[ai]at lt;obtain⟨e1,e2⟩:=RM.E3 hn hb ra.nok z0 z1 sz lt (fun k' jj N h1 h2=>C2 k' jj _ h1 (by rw[ba,h2];rfl));rw[<- e1,<- e2]at Bi;refine⟨pp,_,rfl,SqL.of Bi,rfl,_,_,rfl,_,_,rfl,rfl,?_⟩;have wu:=s5 _ _ uo;refine⟨_,rfl,.inl ⟨rfl,_,SqL.of wu⟩,_,rfl,_,rfl,_,_,rfl,rfl,_,rfl,_,rfl,by show 3<=sizeLine;decide,fun q hq=>?_⟩;have nq:q≠wA:=fun e=>by rw[e,wu]at hq;cases hq
  have lq:=pairs_len pq3;have hw5:=a9.upd hq (o:=.tup [.int (((((Roof.topOf C).roofTiles (RoofB.sizeOf z.1.toNat z.2.toNat)).1:Nat):Int)+((((Roof.topOf C).roofTiles (RoofB.sizeOf z.1.toNat z.2.toNat)).2:Nat):Int)),.int ((((Roof.topOf C).roofTiles (RoofB.sizeOf z.1.toNat z.2.toNat)).2:Nat):Int),.int (j:Int)]) _ _ wu;refine⟨wA,_,.ref q,rfl,rfl,hw5,by rw[ai];exact few (m:=5000) (by omega),_,_,_,_,_,_,_,rfl,a9.put (a9.trans s4 (a9.trans s5 (a9.upd hq))) hw,qs++[q],ws++[[((((Roof.topOf C).roofTiles (RoofB.sizeOf z.1.toNat z.2.toNat)).1:Nat):Int)+((((Roof.topOf C).roofTiles (RoofB.sizeOf z.1.toNat z.2.toNat)).2:Nat):Int),((((Roof.topOf C).roofTiles (RoofB.sizeOf z.1.toNat z.2.toNat)).2:Nat):Int),(j:Int)]],by rw[a7];simp,aW (by rw[aA nq,a7];rfl) (aH (fun q' n e=>?_) pq3),by simp[lw],fun j' z' xb hz2=>?_⟩
  ·have e5:=a9.upd hq (o:=.tup [.int (((((Roof.topOf C).roofTiles (RoofB.sizeOf z.1.toNat z.2.toNat)).1:Nat):Int)+((((Roof.topOf C).roofTiles (RoofB.sizeOf z.1.toNat z.2.toNat)).2:Nat):Int)),.int ((((Roof.topOf C).roofTiles (RoofB.sizeOf z.1.toNat z.2.toNat)).2:Nat):Int),.int (j:Int)]) _ _ (s5 _ _ e);rw[aA (eX e5 hw5 (fun z=>nomatch z))];exact e5
  ·by_cases c:j'<j
   ·rw[fj (by omega)];exact W j' z' c hz2
   ·have:j'=j:=by omega
    subst this;rw[ql]at hz2;cases hz2;rw[dc (by omega),lw,Nat.sub_self];rfl
 ·rintro σ H2 ⟨v4,v5,v6,v7,v8,v9,v10,rfl,s3,qs,ws,ur,pq,lw,W⟩;rw[ai,pairs_len pr]at lw W;have wne:ws≠[]:=fun c=>jl (cy (by rw[<- lw,c];rfl))
  refine⟨_,rfl,wA,qs,ws,rfl,ur,pq,wne,fun i q n hq pd oo=>?_⟩;have hi:i<ps.length:=by have:=(ak.mp pd).1;omega
  have ql:ps[i]? =some (ps[i]'hi):=bq hi;generalize ps[i]'hi=z at ql;have wz:=W i z hi ql;rw[pd]at wz;cases wz;obtain⟨n,rg,hq2⟩:=pairs_at pq hq;rw[pd]at rg;cases rg;refine⟨q,_,rfl,SqT.of hq2,rfl,_,_,rfl,_,_,rfl,_,_,rfl,rfl,?_⟩;refine⟨_,rfl,_,rfl,_,rfl,_,_,rfl,rfl,_,rfl,by show 3<=sizeLine;decide,fun pp Bi=>k pp i z _ (a9.trans s1 (a9.trans s3 (a9.upd Bi))) (a9.free (a9.trans s1 s3) Bi) ql (fun j q' om l3=>?_) (by rw[a7];dsimp only;rw[Int.add_sub_cancel];rfl)⟩;have:=oo _ (az (W j q' (pT om) om));rw[WY l3]at this;cases this
abbrev s_is:Stmt:=(top 67)
theorem sc_is:aJ ["W","H"] ["W","H"] (aG s_is):=fS
noncomputable def sp_is(K:W.Frag)(d:Adr):Sp:=fun vs H Q _=>∃w h:Int,vs=[.int w,.int h]/\Q (.bl (RM.e7 w h)) H
theorem ok_is(F:Fun K "is_size" "is_size" s_is f fd)(T:Txt K mg base d):bJ P w K mg base CX0 1 f fd ["W","H"] (sp_is K d):=by
 refine F.ok sc_is (fun vs H Q E h=>by obtain⟨w,h,rfl,_⟩:=h;rfl) (fun _ _ _ _ H _ Q E hr h=>?_);have hu:=bB hr;obtain⟨w,h,rfl,k⟩:=h;unfold RM.e7 at k;have e3:(w%2==0)=decide (w%2=0):=by rw[ck,beq_iff_eq,decide_eq_true_iff]
 refine⟨_,(aD (aP (HF (yP CP CP aL (pv 0) (cU T.gT rfl)) (HF (n8 iX (cI pG (pv 0) aL) aL (c6 _)) (M7 (yP CP CP aL (pv 1) (cU T.gT rfl))))))),?_⟩;refine⟨_,rfl,_,_,rfl,rfl,_,rfl,?_⟩;refine cG (fun c1=>?_) (fun c1=>?_)
 ·rw[c1,Bool.true_and]at k;refine⟨_,_,rfl,rfl,_,rfl,?_⟩;refine cG (fun c2=>?_) (fun c2=>?_)
  ·rw[c2,Bool.true_and]at k;refine⟨_,rfl,_,_,rfl,rfl,(by show(0:Int)<2;decide),rfl,_,rfl,?_⟩;rw[oB,e3];refine cG (fun c3=>?_) (fun c3=>?_)
   ·rw[c3,Bool.true_and]at k;refine⟨_,rfl,_,_,rfl,rfl,_,rfl,?_⟩;refine cG (fun c4=>?_) (fun c4=>?_)
    ·rw[c4,Bool.true_and]at k;exact⟨_,_,rfl,rfl,k⟩
    ·rw[not_true c4,Bool.false_and]at k;exact k
   ·rw[not_true c3,Bool.false_and]at k;exact k
  ·rw[not_true c2,Bool.false_and]at k;exact k
 ·rw[not_true c1,Bool.false_and]at k;exact⟨_,rfl,k⟩
abbrev s_cs:Stmt:=(top 76)
theorem sc_cs:aJ ["W","H"] ["W","H"] (aG s_cs):=fS
noncomputable def sp_cs(K:W.Frag)(d:Adr):Sp:=fun vs H Q E=>∃w h:Int,vs=[.int w,.int h]/\(RM.e7 w h=true->Q .non H)/\(RM.e7 w h=false->E (.ref d.bK) none H)
theorem ok_cs(F:Fun K "check_size" "check_size" s_cs f fd)(T:Txt K mg base d)(D_is:aO P w K mg base CX0 1 "is_size" ["W","H"] (sp_is K d)):bJ P w K mg base CXf 2 f fd ["W","H"] (sp_cs K d):=by
 refine okX F sc_cs (fun vs H Q E h=>by obtain⟨w,h,rfl,_⟩:=h;rfl) (fun _ _ _ _ H _ Q E hr hok h=>?_);have hu:=bB hr;obtain⟨w,h,rfl,k1,k2⟩:=h;refine⟨_,(aD (cK (GU (iE (aS D_is (hm hr) aV rfl (a8 (pv 0) (a8 (pv 1) aC))) (fun _=>rfl))) (aD (d4 hok PySem.F.excBase_Exception T.uC rfl)) bD)),?_⟩;refine⟨_,rfl,_,rfl,w,h,rfl,_,rfl,?_⟩;cases e:RM.e7 w h with
 |true=>exact k1 e
 |false=>exact k2 e
abbrev s_rtcf:Stmt:=(top 78)
theorem sc_rtcf:aJ ["pairs","t","told","W","H"] ["pairs","t"] (aG s_rtcf):=fS
noncomputable def sp_rtcf(K:W.Frag)(d:Adr):Sp:=fun vs H Q E=>∃(p a:Addr)(ps:List PI)(ns:List Int),vs=[.ref p,.ref a]/\LC K H p ps/\SqL K H a (ns.map V.int)/\ns.length<=4096/\RM.inB ns/\((∃z∈ps,RM.e7 z.1 z.2=false)->E (.ref d.bK) none H)/\((∀z∈ps,RM.e7 z.1 z.2=true)->(Roof.houseOf (RoofBNeutral.text ns)=none->E (.ref d.bZ) none H)/\∀F,Roof.houseOf (RoofBNeutral.text ns)=some (RM.aR F)->Roof.isHouse (RM.aR F)=true->(ps=[]->E (.ref d.fJ) none H)/\(ps≠[]->∀x cA dA hA fA nA gA ht Ns H',a9 H H'->mL (RM.aR F) d.Roof H' x cA dA hA fA nA gA ht Ns->Q (.ref x) H'))
theorem ok_rtcf(F:Fun K "roof_to_choose_for" "roof_to_choose_for" s_rtcf f fd)(T:Txt K mg base d)(D_cs:aO P w K mg base CXf 2 "check_size" ["W","H"] (sp_cs K d))(D_rt:aO P w K mg base CXf 9 "roof_told" ["t"] (sp_rt K d)):bJ P w K mg base CXf 10 f fd ["pairs","t"] (sp_rtcf K d):=by
 refine okX F sc_rtcf (fun vs H Q E h=>by obtain⟨p,a,ps,ns,rfl,_⟩:=h;rfl) (fun _ _ _ _ H _ Q E hr hok h=>?_);have hu:=bB hr;obtain⟨p,a,ps,ns,rfl,⟨as,hp,pr⟩,hS,hl,hB,k1,k2⟩:=h;have lx:=pairs_len pr;refine⟨_,(aB (bV PassesOwn.leaving rfl (cP (pv 0)) (gO rfl (aT (pgN (i:=3) sc_rtcf.nd) (aT (pgN (i:=4) sc_rtcf.nd) d9))) (aD (cT (aS D_cs (hm hr) (yQ hok) rfl (a8 (pv 3) (a8 (pv 4) aC))))))
   (aB (psN (i:=2) sc_rtcf.nd (aS D_rt (hm hr) (yQ hok) rfl (a8 (pv 1) aC)))
   (aB (cK (bX iX (bG bP (by rfl) T.len PySem.boot_len (a8 (pv 0) aC)) aL (c6 _)) (aD (d4 hok PySem.F.excBase_Exception T.HL rfl)) bD)
   (aD (aP (pv 2)))))),?_⟩
 refine⟨_,rfl,p,rfl,⟨_,hp⟩,gV (K:=K) (a:=p) (xs:=as.map V.ref)
  (fun i σ H2=>∃(v2 v3 v4:Option V),σ=[some (.ref p),some (.ref a),v2,v3,v4]/\H2=H/\∀z∈ps.take i,RM.e7 z.1 z.2=true) ⟨none,none,none,rfl,rfl,fun z hz=>(by cases hz)⟩ (fun i σ H2 _ ⟨_,_,_,_,e,_⟩=>by rw[e];exact hp) ?_ ?_⟩
 ·rintro i v σ H2 hv ⟨v2,v3,v4,rfl,rfl,hi⟩;obtain⟨b,hb,rfl⟩:=pI hv;obtain⟨z,hz,ca⟩:=pairs_at pr hb;refine⟨b,_,rfl,ca,rfl,_,_,rfl,_,_,rfl,rfl,_,rfl,_,rfl,z.1,z.2,rfl,fun sz=>?_,fun sz=>k1 ⟨z,az hz,sz⟩⟩;refine⟨_,_,_,rfl,rfl,fun q hq=>?_⟩;rw[RM.take_snoc hz]at hq;rcases ay.mp hq with hq|hq
  ·exact hi q hq
  ·rw[gk.mp hq];exact sz
 ·rintro σ H2 ⟨v2,v3,v4,rfl,rfl,hi⟩;rw[ai,lx,bc (au _)]at hi;obtain⟨k2,k3⟩:=k2 hi;refine⟨_,rfl,a,ns,rfl,hS,hl,hB,fun F hF hH x cA dA hA fA nA gA ht Ns H1 s1 ra=>?_,k2⟩;obtain⟨k4,k5⟩:=k3 F hF hH;refine⟨_,rfl,p,_,rfl,.inl (s1.seq hp),rfl,_,rfl,?_⟩;rw[oB,ai,lx];refine cG (fun c=>k4 (cy (by simpa using c))) (fun c=>⟨_,rfl,k5 (fun e=>c (by rw[e];rfl)) x cA dA hA fA nA gA ht Ns H1 s1 ra⟩)
abbrev s_ip:Stmt:=(top 79)
theorem sc_ip:aJ ["numbers","n"] ["numbers"] (aG s_ip):=fS
noncomputable def sp_ip(K:W.Frag)(d:Adr):Sp:=fun vs H Q _=>∃(a:Addr)(ns:List Int),vs=[.ref a]/\SqL K H a (ns.map V.int)/\ns.length<=128/\ns.length%2=0/\∀r (as:List Addr) H',a9 H H'->H r=none->H' r=some (.lst (as.map V.ref))->Paired (fun a p=>H' a=some (.tup [.int p.1,.int p.2])) as (RM.fN ns)->(∀b u,H' b=some u->H b=some u\/b=r\/b∈as)->Q (.ref r) H'
theorem ok_ip(F:Fun K "in_pairs" "in_pairs" s_ip f fd)(T:Txt K mg base d):bJ P w K mg base CX0 1 f fd ["numbers"] (sp_ip K d):=by
 refine F.ok sc_ip (fun vs H Q E h=>by obtain⟨a,ns,rfl,_⟩:=h;rfl) (fun _ _ _ _ H _ Q E hr h=>?_);have hu:=bB hr;obtain⟨a,ns,rfl,hS,hl,he,k⟩:=h;obtain⟨m,em⟩:∃m,ns.length=2*m:=⟨ns.length/2,by omega⟩
 have lt:=RM.rS ns;have hm:m<=64:=by omega
 refine⟨_,(aD (aP (sP (own:=[("n",1)]) rfl sc_ip.nd (EA rfl T.range (a8 aL (a8 (bG bP (by rfl) T.len PySem.boot_len (a8 (pv 0) aC)) (a8 aL aC)))) (cZ (by first|decide+kernel|kernel_rfl)) (fun _ _ _ _ _=>(pgN (i:=1) sc_ip.nd)) (fun _ _ _ _ _=>hO) (fun _ _ _ _ _=>(d7 (a8 (cD (zC (K:=K) rfl) (pv 0) (pv 1) (fun _ _=>rfl)) (a8 (cD (zC (K:=K) rfl) (pv 0) (cI fY (pv 1) aL) (fun _ _=>rfl)) aC))))))),?_⟩;refine⟨_,rfl,a,_,rfl,.inl hS,_,_,_,m,rfl,by rw[ai,em];exact M5 hm,fun D hD=>EU (lo:=0) (c:=2) (n:=m)
  (fun i H2=>a9 H H2/\∃as:List Addr,H2 D=some (.lst (as.map V.ref))/\Paired (fun a p=>a≠D/\H2 a=some (.tup [.int p.1,.int p.2])) as ((RM.fN ns).take i)/\∀b u,H2 b=some u->H b=some u\/b=D\/b∈as) ⟨a9.upd hD,[],a7,.nil,fun b u e=>?_⟩ ?_ ?_⟩
 ·by_cases c:b=D
  ·exact .inr (.inl c)
  ·rw[aA c]at e;exact .inl e
 ·rintro i H2 hi ⟨s2,as,h2,pc,fp⟩;have hp:(RM.fN ns)[i]? =some ((RM.fN ns)[i]'(by omega)):=bq (by omega);generalize (RM.fN ns)[i]'(by omega)=p at hp;obtain⟨g1,g2⟩:=RM.rT ns i p hp;have lc:=pairs_len pc;rw[bu]at lc;have hS2:SqL K H2 a (ns.map V.int):=s2.seq hS;have ia:(0:Int)<=0+(i:Nat)*2:=by omega
  refine⟨rfl,_,rfl,_,rfl,a,_,_,_,rfl,rfl,hS2,bI ia (by rw[ba,show(0+((i:Nat):Int)*2).toNat=2*i by omega,g1];rfl),_,rfl,_,rfl,_,_,rfl,rfl,a,_,_,_,rfl,rfl,hS2,bI (by omega) (by rw[ba,show(0+((i:Nat):Int)*2+1).toNat=2*i+1 by omega,g2];rfl),by show 2<=sizeLine;decide,fun q hq=>?_⟩;have nq:q≠D:=fun z=>by rw[z,h2]at hq;cases hq
  refine⟨_,by rw[aA nq.symm];exact h2,by rw[ai];exact few (m:=5000) (by omega),a9.put (a9.trans s2 (a9.upd hq)) hD,as++[q],by rw[a7];simp,?_,fun b u e=>?_⟩
  ·rw[RM.take_snoc hp];exact aW ⟨nq,by rw[aA nq,a7]⟩ (aH (fun a p' ⟨n1,z⟩=>⟨n1,by rw[aA n1];exact a9.upd hq _ _ z⟩) pc)
  ·by_cases c:b=D
   ·exact .inr (.inl c)
   ·rw[aA c]at e;by_cases c2:b=q
    ·exact .inr (.inr (bh _ (by rw[c2];exact bb)))
    ·rw[aA c2]at e;rcases fp b u e with z|z|z
     ·exact .inl z
     ·exact .inr (.inl z)
     ·exact .inr (.inr (cc _ z))
 ·rintro H2 ⟨s2,as,h2,pc,fp⟩;rw[bc (by omega)]at pc;exact k D as H2 s2 hD h2 (aH (fun _ _ z=>z.2) pc) fp
abbrev uW:Stmt:=(top 18)
theorem M0:aJ ["tell"] ["tell"] (aG uW):=fS
noncomputable def hds(d:Adr):List HD:=[⟨"NoHouse",d.bZ,1,⟨35,11,35,18⟩,⟨36,17,36,18⟩,⟨36,16,36,18⟩,⟨36,15,36,19⟩,⟨36,8,36,19⟩,⟨35,4,36,19⟩⟩,⟨"OutOfBounds",d.bK,3,⟨37,11,37,22⟩,⟨38,17,38,18⟩,⟨38,16,38,18⟩,⟨38,15,38,19⟩,⟨38,8,38,19⟩,⟨37,4,38,19⟩⟩,⟨"Outside",d.fM,5,⟨39,11,39,18⟩,⟨40,17,40,18⟩,⟨40,16,40,18⟩,⟨40,15,40,19⟩,⟨40,8,40,19⟩,⟨39,4,40,19⟩⟩,⟨"NoFace",d.iQ,6,⟨41,11,41,17⟩,⟨42,17,42,18⟩,⟨42,16,42,18⟩,⟨42,15,42,19⟩,⟨42,8,42,19⟩,⟨41,4,42,19⟩⟩,⟨"NoSize",d.fJ,7,⟨43,11,43,17⟩,⟨44,17,44,18⟩,⟨44,16,44,18⟩,⟨44,15,44,19⟩,⟨44,8,44,19⟩,⟨43,4,44,19⟩⟩]
theorem N8(d:Adr):f6 uW=[.Try [.Return (some (.Call (.Name "tell" ⟨34,15,34,19⟩) [] [] ⟨34,15,34,21⟩)) ⟨34,8,34,21⟩] ((hds d).map HD.h) [] [] ⟨33,4,44,19⟩]:=rfl
structure Ans(K:W.Frag)(mg:Str->Option Value)(base:Heap)(d:Adr)(fA:Addr)(fdA:FuncData):Prop where
 fn:Fun K "answer_or_refusal" "answer_or_refusal" uW fA fdA
 at_:mg "answer_or_refusal" =some (.ref fA)
 bind:Binds K fdA ["tell"] []
 j5:mg "NoHouse" =some (.ref d.bZ)
 iS:gY base d.bZ
 eD:mg "OutOfBounds" =some (.ref d.bK)
 dZ:gY base d.bK
 j4:mg "Outside" =some (.ref d.fM)
 iR:gY base d.fM
 kZ:mg "NoFace" =some (.ref d.iQ)
 jX:gY base d.iQ
 kY:mg "NoSize" =some (.ref d.fJ)
 jW:gY base d.fJ
 ap:[d.bZ,d.bK,d.fM,d.iQ,d.fJ].Nodup
 bm:NB mg base
theorem Ans.MO{K:W.Frag}{mg:Str->Option Value}{base:Heap}{d:Adr}{fA:Addr}{fdA:FuncData}(A:Ans K mg base d fA fdA):∀h∈hds d,mg h.x=some (.ref h.C)/\(aG uW).names.lookup h.x=some .globalImplicit/\gY base h.C/\(h.x==("__debug__" : Str))=false:=by
 intro h hh;rcases ao.mp hh with rfl|hh
 ·exact⟨A.j5,rfl,A.iS,rfl⟩
 rcases ao.mp hh with rfl|hh
 ·exact⟨A.eD,rfl,A.dZ,rfl⟩
 rcases ao.mp hh with rfl|hh
 ·exact⟨A.j4,rfl,A.iR,rfl⟩
 rcases ao.mp hh with rfl|hh
 ·exact⟨A.kZ,rfl,A.jX,rfl⟩
 rcases ao.mp hh with rfl|hh
 ·exact⟨A.kY,rfl,A.jW,rfl⟩
 exact(nomatch hh)
theorem Ans.BP{K:W.Frag}{mg:Str->Option Value}{base:Heap}{d:Adr}{fA:Addr}{fdA:FuncData}(A:Ans K mg base d fA fdA){H H0:Hp}{Q:VK}(h:∀p,H p=none->Q (.ref p) (upd H p (.lst [.int (-1)]))):XA (hds d) H Q (.ref d.bZ) none H0:=by
 have nd:=A.ap;simp only[bx,ao,gp,or_false,not_or]at nd;refine⟨_,rfl,⟨_,az (i:=0) rfl,rfl⟩,fun e he hC p hp=>?_⟩;rcases ao.mp he with rfl|he
 ·exact h p hp
 rcases ao.mp he with rfl|he
 ·exact absurd hC (by intro z;simp_all)
 rcases ao.mp he with rfl|he
 ·exact absurd hC (by intro z;simp_all)
 rcases ao.mp he with rfl|he
 ·exact absurd hC (by intro z;simp_all)
 rcases ao.mp he with rfl|he
 ·exact absurd hC (by intro z;simp_all)
 exact(nomatch he)
theorem Ans.tH{K:W.Frag}{mg:Str->Option Value}{base:Heap}{d:Adr}{fA:Addr}{fdA:FuncData}(A:Ans K mg base d fA fdA){H H0:Hp}{Q:VK}(h:∀p,H p=none->Q (.ref p) (upd H p (.lst [.int (-3)]))):XA (hds d) H Q (.ref d.bK) none H0:=by
 have nd:=A.ap;simp only[bx,ao,gp,or_false,not_or]at nd;refine⟨_,rfl,⟨_,az (i:=1) rfl,rfl⟩,fun e he hC p hp=>?_⟩;rcases ao.mp he with rfl|he
 ·exact absurd hC (by intro z;simp_all)
 rcases ao.mp he with rfl|he
 ·exact h p hp
 rcases ao.mp he with rfl|he
 ·exact absurd hC (by intro z;simp_all)
 rcases ao.mp he with rfl|he
 ·exact absurd hC (by intro z;simp_all)
 rcases ao.mp he with rfl|he
 ·exact absurd hC (by intro z;simp_all)
 exact(nomatch he)
theorem Ans.F3{K:W.Frag}{mg:Str->Option Value}{base:Heap}{d:Adr}{fA:Addr}{fdA:FuncData}(A:Ans K mg base d fA fdA){H H0:Hp}{Q:VK}(h:∀p,H p=none->Q (.ref p) (upd H p (.lst [.int (-7)]))):XA (hds d) H Q (.ref d.fJ) none H0:=by
 have nd:=A.ap;simp only[bx,ao,gp,or_false,not_or]at nd;refine⟨_,rfl,⟨_,az (i:=4) rfl,rfl⟩,fun e he hC p hp=>?_⟩;rcases ao.mp he with rfl|he
 ·exact absurd hC (by intro z;simp_all)
 rcases ao.mp he with rfl|he
 ·exact absurd hC (by intro z;simp_all)
 rcases ao.mp he with rfl|he
 ·exact absurd hC (by intro z;simp_all)
 rcases ao.mp he with rfl|he
 ·exact absurd hC (by intro z;simp_all)
 rcases ao.mp he with rfl|he
 ·exact h p hp
 exact(nomatch he)
theorem LZ{K:W.Frag}{H:Hp}{tb a:Addr}{xs:List V}{ps qs:Array Value}(h:SqL K H a xs)(ht:H tb=some (.tbl ps)):SqL K (hT H tb qs) a xs:=by
 rcases h with h|h
 ·left;have n:a≠tb:=fun z=>by rcases h with h|⟨o,h⟩<;>(rw[z,ht]at h;cases h)
  rcases h with h|⟨o,h⟩
  ·exact .inl (by unfold hT;rw[aA n];exact h)
  ·exact .inr ⟨o,by unfold hT;rw[aA n];exact h⟩
 ·exact .inr h
abbrev s_f:Stmt:=(top 80)
theorem sc_f:aJ ["t","sizes","pairs"] ["t","sizes"] (aG s_f):=fS
noncomputable def sp_f(K:W.Frag)(tb:Addr):Sp:=fun vs H Q _=>∃(rt:Addr)(nt:List Int)(jv:Addr)(nsizes:List Int),vs=[.ref rt,.ref jv]/\SqL K H rt (nt.map V.int)/\nt.length<=4096/\RM.inB nt/\SqL K H jv (nsizes.map V.int)/\nsizes.length<=128/\inZ nsizes/\xU tb H/\
 ∀p H',H' p=some (.lst ((RoofBNeutral.f [[9],nt,nsizes]).map V.int))->Q (.ref p) H'
noncomputable def JD(K:W.Frag)(d:Adr):XK->Hp->TE:=fun E H=>(CG (sp_bsr K d) [] E0 (yB (CG (sp_rtcf K d) [] (fun c _ _=>E c none H) (yB (GG 2) (yB (GG 0) LR))) (yB (GG 2) LR)))
theorem ok_f{P:Program}{w:World}{K:W.Frag}{mg:Str->Option Value}{base:Heap}{d:Adr}{f fA c tb:Addr}{fd fdA:FuncData}(F:Fun K "size" "size" s_f f fd)(T:Txt K mg base d)(AN:Ans K mg base d fA fdA)(Cd:fd.code=.ref c)(hC:W.CodeHd base c tb)(D_bsr:aO P w K mg base CX0 4 "best_size_row" ["roof","sizes"] (sp_bsr K d))(D_rtcf:aO P w K mg base CXf 10 "roof_to_choose_for" ["pairs","t"] (sp_rtcf K d))(D_ip:aO P w K mg base CX0 1 "in_pairs" ["numbers"] (sp_ip K d)):bJ P w K mg base CXf 13 f fd ["t","sizes"] (sp_f K tb):=by
 obtain⟨oc,od,kV,lg,pm,an,js,ct,mi,rfl,lk,nj⟩:=F.ex;obtain⟨oc2,od2,kV2,doc2,pm2,an2,cdv2,ct2,osl2,e2,lk2,hcd2⟩:=AN.fn.ex;obtain rfl:js=.ref c:=Cd;subst e2;refine II lk nj sc_f (fun vs H Q E h=>by obtain⟨rt,nt,jv,nsizes,rfl,_⟩:=h;rfl) (fun A outer s H vs Q E hr hok h=>?_);obtain⟨rt,nt,jv,nsizes,rfl,hSt,jw,hBt,vx,mj,jq,⟨uf,xi⟩,k⟩:=h;have h0:∀b xs,H b≠some (.tup xs):=fun b xs e=>by
  by_cases n:b=tb
  ·rw[n,uf]at e;cases e
  ·rcases xi b n with q|⟨o,ys,q⟩<;>(rw[q]at e;cases e)
 refine⟨_,aB (AX (i:=2) sc_f.nd rfl (Or.inr rfl) (aS D_ip (hm hr) aV rfl (a8 (pv 1) aC))) (aD (JO h0 (aP (MB (k:=10) (teL:=JD K d) (T:=tb) AN.at_ lk2 hcd2 AN.fn.kp AN.bind M0 rfl (N8 d) rfl AN.MO rfl (by decide) hr (fun _=>rfl) rfl hC AN.bm rfl (fun _ _ _ _=>rfl) rfl rfl rfl (by decide+kernel) (fun y hy=>absurd rfl ((by decide+kernel:∀z∈ _,z.2≠NameKind.local) _ (PySem.mem_of_lookup hy))) (fun y hy he=>(by decide+kernel:∀z:Str×NameKind,z∈(_:List (Str×NameKind))->z.2=NameKind.free->(aG s_f).names.lookup z.1=some NameKind.cell) y hy he)
  (fun fl c' cl A outer s H E hr hok=>(aS D_bsr (hm hr) aV rfl (a8 (aS D_rtcf hr (NX hok) rfl (a8 (pv 2) (a8 (pv 0) aC))) (a8 (pv 2) aC)))))))),?_⟩
 refine⟨_,rfl,jv,nsizes,rfl,vx,mj,jq.2,fun rp as H1 s1 fr Bh pr1 fp=>?_⟩;have pl:Plain H1:=fun b u e=>by
  rcases fp b u e with q|q|q
  ·by_cases n:b=tb
   ·rw[n,uf]at q;cases q;exact .inr (.inr (.inl ⟨_,rfl⟩))
   ·rcases xi b n with z|⟨o,ys,z⟩
    ·rw[z]at q;cases q
    ·rw[z]at q;cases q;exact .inr (.inr (.inr ⟨_,_,rfl⟩))
  ·rw[q,Bh]at e;cases e;exact .inl ⟨_,rfl⟩
  ·obtain⟨j,hj⟩:=di.mp q;obtain⟨p,_,hp⟩:=pairs_at pr1 hj;rw[hp]at e;cases e;exact .inr (.inl ⟨_,rfl⟩)
 refine⟨pl,fun H2 FZ=>?_⟩;have lcp:LC K H2 rp (RM.fN nsizes):=LC.frozen FZ Bh pr1;have xi:∀b,b≠tb->H2 b=none\/∃o u,H2 b=some (.frz o u):=fun b n=>by
  cases q:H1 b with
  |none=>exact .inl (FZ.none b q)
  |some u=>
   rcases pl b u q with⟨xs,rfl⟩|⟨xs,rfl⟩|⟨ps,rfl⟩|⟨o,xs,rfl⟩
   ·obtain⟨o,z⟩:=FZ.lst b xs q;exact .inr ⟨_,_,z⟩
   ·obtain⟨o,z⟩:=FZ.tup b xs q;exact .inr ⟨_,_,z⟩
   ·exfalso;rcases fp b _ q with e|e|e
    ·rcases xi b n with z|⟨o,ys,z⟩<;>(rw[z]at e;cases e)
    ·rw[e,Bh]at q;cases q
    ·obtain⟨j,hj⟩:=di.mp e;obtain⟨p,_,hp⟩:=pairs_at pr1 hj;rw[hp]at q;cases q
   ·exact .inr ⟨_,_,FZ.frz b o _ q⟩
 have uf:=FZ.tbl _ _ (s1 _ _ uf);have hSt:=FZ.sqL (s1.seq hSt);refine⟨[.ref rt,.ref jv,.ref rp],#[],rfl,uf,trivial,rfl,xi,fun more=>?_⟩;have hTb:hT H2 tb (#[]++more) tb≠none:=by unfold hT;rw[a7];intro z;cases z
 have hQ:∀(r:List Int)(H1:Hp)(p:Addr),RoofBNeutral.f [[9],nt,nsizes]=r->p≠tb->H1 p=some (.lst (r.map V.int))->Q (.ref p) (upd H1 tb (.tbl (#[]++more))):=fun r H1 p e n q=>k p _ (by rw[aA n,e];exact q)
 have hX:∀r:Int,RoofBNeutral.f [[9],nt,nsizes]=[r]->∀p,hT H2 tb (#[]++more) p=none->upd (hT H2 tb (#[]++more)) p (.lst [.int r]) tb=some (.frz (W.tabObj (#[]++more)) (.tbl (#[]++more)))->Q (.ref p) (upd (upd (hT H2 tb (#[]++more)) p (.lst [.int r])) tb (.tbl (#[]++more))):=fun r e p hp _=>
  hQ [r] _ p e (fun z=>hTb (z▸hp)) a7
 have vt:hT H2 tb (#[]++more) tb=some (.frz (W.tabObj (#[]++more)) (.tbl (#[]++more))):=by unfold hT;rw[a7]
 have hb:∀F,∀c∈RM.aR F,c.1<64/\c.2<64:=fun F c hc=>⟨(RM.gW.mp hc).1,(RM.gW.mp hc).2.1⟩
 have lcT:LC K (hT H2 tb (#[]++more)) rp (RM.fN nsizes):=by unfold hT;exact lcp.beside uf
 refine⟨_,rfl,_,rfl,rp,rt,RM.fN nsizes,nt,rfl,lcT,LZ hSt uf,jw,hBt,fun⟨z,hz,sz⟩=>AN.tH (hX _ (RM.size_range jq.2 jq.1 hz sz)),fun sz=>⟨fun c=>AN.BP (hX _ (RM.wR jq.2 jq.1 sz c)),fun F hF hH=>⟨fun e=>AN.F3 (hX _ (RM.size_empty jq.2 jq.1 e hF)),fun jl x cA dA hA fA nA gA ht Ns H3 s3 ra=>?_⟩⟩⟩;obtain⟨mf,_,_⟩:=iK hH;refine⟨_,rfl,x,cA,dA,hA,fA,nA,gA,_,ht,Ns,rp,_,rfl,ra,mf,kW F,hb F,lcT.mono s3,jl,by rw[RM.rS];omega,fun z hz=>⟨sz z hz,jq.1 _ (RM.mT hz).1,jq.1 _ (RM.mT hz).2⟩,fun r kk z H4 s4 Bg hk l3 yb=>fun _=>?_⟩;exact hQ _ H4 r (RM.DY jq.2 jq.1 sz hF hk l3) (fun e=>by rw[e,s3 _ _ vt]at Bg;cases Bg) yb
theorem J2{P:Program}{w:World}{K:W.Frag}{mg:Str->Option Value}{base:Heap}{d:Adr}(M:Mod K mg base)(T:Txt K mg base d){fI:Addr}{fdI:FuncData}(mw:Mk K d.Roof fI)(F_init:Fun K "__init__" "Roof.__init__" s_i fI fdI)
  (D_re:aF K "runs_eastward" s_re)
  (D_po:aF K "places_on" s_po)
  (D_pbf:aF K "places_by_face" s_pbf)
  (D_to:aF K "tiles_over" s_to)
  (D_wac:aF K "whole_and_cut" s_wac)
  (D_wact:aF K "whole_and_cut_together" s_wact)
  (D_bsr:aF K "best_size_row" s_bsr)
  (D_is:aF K "is_size" s_is)
  (D_cs:aF K "check_size" s_cs)
  (D_m:aF K "moved" s_m)
  (D_br:aF K "by_row" s_br)
  (D_hco:aF K "half_cells_of" s_hco)
  (D_id:aF K "is_deeper" s_id)
  (D_do:aF K "depths_of" s_do)
  (D_ss:aF K "side_start" s_ss)
  (D_ho:aF K "height_over" s_ho)
  (D_ho2:aF K "heights_of" s_ho2)
  (D_lo:aF K "left_of" s_lo)
  (D_se:aF K "side_end" s_se)
  (D_ro:aF K "right_of" s_ro)
  (D_o:aF K "opposite" s_o)
  (D_fo2:aF K "facing_of" s_fo2)
  (D_fo3:aF K "facings_of" s_fo3)
  (D_tol:aF K "triangle_on_left" s_tol)
  (D_tor:aF K "triangle_on_right" s_tor)
  (D_b:aF K "beyond" s_b)
  (D_ta:aF K "triangle_across" s_ta)
  (D_nf:aF K "number_face" s_nf)
  (D_no:aF K "numbers_of" s_no)
  (D_fo:aF K "faces_of" s_fo)
  (D_pb:aF K "parts_between" s_pb)
  (D_dt:aF K "digit_told" s_dt)
  (D_nt:aF K "number_told" s_nt)
  (D_ct:aF K "corner_told" s_ct)
  (D_wt:aF K "walk_told" s_wt)
  (D_wt2:aF K "walks_told" s_wt2)
  (D_far:aF K "feet_across_rows" s_far)
  (D_cw:aF K "cells_within" s_cw)
  (D_haw:aF K "headings_along_walls" s_haw)
  (D_wf:aF K "walk_from" s_wf)
  (D_wr:aF K "walks_round" s_wr)
  (D_miap:aF K "meets_in_a_point" s_miap)
  (D_ij:aF K "is_joined" s_ij)
  (D_ih:aF K "is_house" s_ih)
  (D_ht:aF K "house_told" s_ht)
  (D_rt:aF K "roof_told" s_rt)
  (D_rtcf:aF K "roof_to_choose_for" s_rtcf)
  (D_ip:aF K "in_pairs" s_ip)
  : aO P w K mg base CX0 4 "best_size_row" ["roof","sizes"] (sp_bsr K d)/\aO P w K mg base CXf 10 "roof_to_choose_for" ["pairs","t"] (sp_rtcf K d)/\aO P w K mg base CX0 1 "in_pairs" ["numbers"] (sp_ip K d):=by
 have E_re:=D_re.ok M (fun _ _ F=>ok_re F T (P:=P) (w:=w)) fun|_,_,_,_,_,_,[_],_=>rfl
 have E_po:=D_po.ok M (fun _ _ F=>ok_po F T E_re) fun|_,_,_,_,_,_,[_,_],_=>rfl
 have E_pbf:=D_pbf.ok M (fun _ _ F=>ok_pbf F T E_po) fun|_,_,_,_,_,_,[_],_=>rfl
 have E_to:=D_to.ok M (fun _ _ F=>ok_to F T (P:=P) (w:=w)) fun|_,_,_,_,_,_,[_,_,_],_=>rfl
 have E_wac:=D_wac.ok M (fun _ _ F=>ok_wac F T E_to) fun|_,_,_,_,_,_,[_,_,_],_=>rfl
 have E_wact:=D_wact.ok M (fun _ _ F=>ok_wact F T E_wac) fun|_,_,_,_,_,_,[_,_,_],_=>rfl
 have E_bsr:=D_bsr.ok M (fun _ _ F=>ok_bsr F T E_pbf E_wact) fun|_,_,_,_,_,_,[_,_],_=>rfl
 have E_is:=D_is.ok M (fun _ _ F=>ok_is F T (P:=P) (w:=w)) fun|_,_,_,_,_,_,[_,_],_=>rfl
 have E_cs:=D_cs.ok M (fun _ _ F=>ok_cs F T E_is) fun|_,_,_,_,_,_,[_,_],_=>rfl
 have E_m:=D_m.ok M (fun _ _ F=>ok_m F T (P:=P) (w:=w)) fun|_,_,_,_,_,_,[_,_],_=>rfl
 have E_br:=D_br.ok M (fun _ _ F=>ok_br F T (P:=P) (w:=w)) fun|_,_,_,_,_,_,[_],_=>rfl
 have E_hco:=D_hco.ok M (fun _ _ F=>ok_hco F T E_m E_br) fun|_,_,_,_,_,_,[_],_=>rfl
 have E_id:=D_id.ok M (fun _ _ F=>ok_id F T E_m) fun|_,_,_,_,_,_,[_,_],_=>rfl
 have E_do:=D_do.ok M (fun _ _ F=>ok_do F T E_hco E_id) fun|_,_,_,_,_,_,[_],_=>rfl
 have E_ss:=D_ss.ok M (fun _ _ F=>ok_ss F T E_m) fun|_,_,_,_,_,_,[_,_],_=>rfl
 have E_ho:=D_ho.ok M (fun _ _ F=>ok_ho F T E_m) fun|_,_,_,_,_,_,[_,_],_=>rfl
 have E_ho2:=D_ho2.ok M (fun _ _ F=>ok_ho2 F T E_ss E_ho) fun|_,_,_,_,_,_,[_],_=>rfl
 have E_lo:=D_lo.ok M (fun _ _ F=>ok_lo F T (P:=P) (w:=w)) fun|_,_,_,_,_,_,[_],_=>rfl
 have E_se:=D_se.ok M (fun _ _ F=>ok_se F T E_ss E_lo) fun|_,_,_,_,_,_,[_,_],_=>rfl
 have E_ro:=D_ro.ok M (fun _ _ F=>ok_ro F T (P:=P) (w:=w)) fun|_,_,_,_,_,_,[_],_=>rfl
 have E_o:=D_o.ok M (fun _ _ F=>ok_o F T (P:=P) (w:=w)) fun|_,_,_,_,_,_,[_],_=>rfl
 have E_fo2:=D_fo2.ok M (fun _ _ F=>ok_fo2 F T E_ss E_se E_lo E_ro E_o) fun|_,_,_,_,_,_,[_,_,_,_],_=>rfl
 have E_fo3:=D_fo3.ok M (fun _ _ F=>ok_fo3 F T E_fo2) fun|_,_,_,_,_,_,[_,_],_=>rfl
 have E_tol:=D_tol.ok M (fun _ _ F=>ok_tol F T E_lo) fun|_,_,_,_,_,_,[_],_=>rfl
 have E_tor:=D_tor.ok M (fun _ _ F=>ok_tor F T E_ro) fun|_,_,_,_,_,_,[_],_=>rfl
 have E_b:=D_b.ok M (fun _ _ F=>ok_b F T E_m) fun|_,_,_,_,_,_,[_,_],_=>rfl
 have E_ta:=D_ta.ok M (fun _ _ F=>ok_ta F T E_b E_o) fun|_,_,_,_,_,_,[_],_=>rfl
 have E_nf:=D_nf.ok M (fun _ _ F=>ok_nf F T E_tol E_tor E_ta) fun|_,_,_,_,_,_,[_,_,_,_],_=>rfl
 have E_no:=D_no.ok M (fun _ _ F=>ok_no F T E_nf) fun|_,_,_,_,_,_,[_],_=>rfl
 have E_fo:=D_fo.ok M (fun _ _ F=>ok_fo F T (P:=P) (w:=w)) fun|_,_,_,_,_,_,[_],_=>rfl
 have b_init:Binds K fdI ["self","cells"] []:=F_init.binds fun _ _ _ _ _ _ us hl=>match us,hl with|[_,_],_=>rfl
 have E_i:bJ P w K mg base CX0 7 fI fdI ["self","cells"] (sp_i K d):=ok_i F_init T E_do E_ho2 E_fo3 E_no E_fo;have E_pb:=D_pb.ok M (fun _ _ F=>ok_pb F T (P:=P) (w:=w)) fun|_,_,_,_,_,_,[_,_],_=>rfl
 have E_dt:=D_dt.ok M (fun _ _ F=>ok_dt F T (P:=P) (w:=w)) fun|_,_,_,_,_,_,[_],_=>rfl
 have E_nt:=D_nt.ok M (fun _ _ F=>ok_nt F T E_dt) fun|_,_,_,_,_,_,[_],_=>rfl
 have E_ct:=D_ct.ok M (fun _ _ F=>ok_ct F T E_pb E_nt) fun|_,_,_,_,_,_,[_],_=>rfl
 have E_wt:=D_wt.ok M (fun _ _ F=>ok_wt F T E_pb E_ct) fun|_,_,_,_,_,_,[_],_=>rfl
 have E_wt2:=D_wt2.ok M (fun _ _ F=>ok_wt2 F T E_pb E_wt) fun|_,_,_,_,_,_,[_],_=>rfl
 have E_far:=D_far.ok M (fun _ _ F=>ok_far F T (P:=P) (w:=w)) fun|_,_,_,_,_,_,[_],_=>rfl
 have E_cw:=D_cw.ok M (fun _ _ F=>ok_cw F T E_far) fun|_,_,_,_,_,_,[_],_=>rfl
 have E_haw:=D_haw.ok M (fun _ _ F=>ok_haw F T E_b E_ss E_lo) fun|_,_,_,_,_,_,[_],_=>rfl
 have E_wf:=D_wf.ok M (fun _ _ F=>ok_wf F T E_b) fun|_,_,_,_,_,_,[_,_,_],_=>rfl
 have E_wr:=D_wr.ok M (fun _ _ F=>ok_wr F T E_haw E_br E_wf) fun|_,_,_,_,_,_,[_],_=>rfl
 have E_miap:=D_miap.ok M (fun _ _ F=>ok_miap F T E_b E_lo) fun|_,_,_,_,_,_,[_,_],_=>rfl
 have E_ij:=D_ij.ok M (fun _ _ F=>ok_ij F T E_b) fun|_,_,_,_,_,_,[_],_=>rfl
 have E_ih:=D_ih.ok M (fun _ _ F=>ok_ih F T E_miap E_ij) fun|_,_,_,_,_,_,[_],_=>rfl
 have E_ht:=D_ht.ok M (fun _ _ F=>ok_ht F T E_wt2 E_cw E_wr E_ih) fun|_,_,_,_,_,_,[_],_=>rfl
 have E_rt:=D_rt.ok M (fun _ _ F=>ok_rt F T E_ht mw E_i b_init) fun|_,_,_,_,_,_,[_],_=>rfl
 have E_rtcf:=D_rtcf.ok M (fun _ _ F=>ok_rtcf F T E_cs E_rt) fun|_,_,_,_,_,_,[_,_],_=>rfl
 have E_ip:=D_ip.ok M (fun _ _ F=>ok_ip F T (P:=P) (w:=w)) fun|_,_,_,_,_,_,[_],_=>rfl
 exact⟨E_bsr,E_rtcf,E_ip⟩
abbrev rwL:W.OpenSpec:=PySem.Challenge.rw_rooftold_s09_size
theorem NT:rwL.wellSaid=true:=by decide+kernel
theorem KP{t z:List Int}{u:Unit}(h:W.Codec.app rwL.args rwL.asked (t,z,u)=true):z.length%2=0:=by have h:(true&& decide (1<=60)&& ((RoofBNeutral.long t 4096 0 255&& RoofBNeutral.long z 128 0 4294967295&& decide (z.length%2=0))&& true))=true:=h;exact bp (gr.mp (gr.mp (gr.mp h).2).1).2
theorem FY{args:List W.WData}(h:rwL.pre args=true):∃(nt:List Int)(nsizes:List Int),nt.length<=4096/\RM.inB nt/\nsizes.length<=128/\inZ nsizes/\args=[.list (nt.map W.WData.int),.list (nsizes.map W.WData.int)]/\
  ∀ds,rwL.claim.post args (.list ((RoofBNeutral.f [[9],nt,nsizes]).map W.WData.int)) ds=true:=by
 obtain⟨a,h1,h2,rfl⟩:=(W.OpenSpec.pre_iff NT args).mp h;clear h;have key:∀a:List Int×List Int×Unit,W.Codec.withinAll rwL.args a=true->W.Codec.app rwL.args rwL.asked a=true->∃(nt:List Int)(nsizes:List Int),nt.length<=4096/\RM.inB nt/\nsizes.length<=128/\inZ nsizes/\W.Codec.encAll rwL.args a=[.list (nt.map W.WData.int),.list (nsizes.map W.WData.int)]/\
   ∀ds,rwL.claim.post (W.Codec.encAll rwL.args a) (.list ((RoofBNeutral.f [[9],nt,nsizes]).map W.WData.int)) ds=true:=by
  rintro⟨nt,nsizes,u'⟩ h1 h2;have w1:((W.Codec.inNat 0 4096 nt.length&& nt.all (W.Codec.inInt 0 255))&& ((W.Codec.inNat 0 128 nsizes.length&& nsizes.all (W.Codec.inInt 0 4294967295))&& true))=true:=h1;simp only[dh,W.Codec.inInt_iff,W.Codec.inNat_iff,ig]at w1;exact⟨nt,nsizes,w1.1.1.2,fun x hx=>w1.1.2 x hx,w1.2.1.1.2,⟨fun x hx=>(w1.2.1.2 x hx).1,KP h2⟩,rfl,fun ds=>(W.OpenSpec.post_iff NT h1 _ ds).mpr rfl⟩
 exact key a h1 h2
theorem DN{K:W.Frag}{w:World}{s1:Shared}{mg mb:Str->Option Value}{q:Program}{loose:List Str}{yh mn:ExcName->Option Value}{cl:Str->Option Addr}{fa f fA fI c tb:Addr}{fd fdA fdI:FuncData}{args:List W.WData}{mq:List Value}{d:Adr}{dr:DefRec}
  (KX:K.In s1.heap) (T:PyProof.Rows.Top q loose yh mg mb s1.heap) (hg:s1.gens=#[]) (hmg:mg "size" =some (.ref fa)) (yw:rwL.pre args=true) (yo:W.WellAll w.params s1.heap mq args)
  (TX:∀{mb2:Str->Option Value}{base:Heap},Mod K mg base->W.TopRead q loose mg mb2 base->Txt K mg base d) (mw:Mk K d.Roof fI) (F_init:Fun K "__init__" "Roof.__init__" s_i fI fdI)
  (D_re:aF K "runs_eastward" s_re)
  (D_po:aF K "places_on" s_po)
  (D_pbf:aF K "places_by_face" s_pbf)
  (D_to:aF K "tiles_over" s_to)
  (D_wac:aF K "whole_and_cut" s_wac)
  (D_wact:aF K "whole_and_cut_together" s_wact)
  (D_bsr:aF K "best_size_row" s_bsr)
  (D_is:aF K "is_size" s_is)
  (D_cs:aF K "check_size" s_cs)
  (D_m:aF K "moved" s_m)
  (D_br:aF K "by_row" s_br)
  (D_hco:aF K "half_cells_of" s_hco)
  (D_id:aF K "is_deeper" s_id)
  (D_do:aF K "depths_of" s_do)
  (D_ss:aF K "side_start" s_ss)
  (D_ho:aF K "height_over" s_ho)
  (D_ho2:aF K "heights_of" s_ho2)
  (D_lo:aF K "left_of" s_lo)
  (D_se:aF K "side_end" s_se)
  (D_ro:aF K "right_of" s_ro)
  (D_o:aF K "opposite" s_o)
  (D_fo2:aF K "facing_of" s_fo2)
  (D_fo3:aF K "facings_of" s_fo3)
  (D_tol:aF K "triangle_on_left" s_tol)
  (D_tor:aF K "triangle_on_right" s_tor)
  (D_b:aF K "beyond" s_b)
  (D_ta:aF K "triangle_across" s_ta)
  (D_nf:aF K "number_face" s_nf)
  (D_no:aF K "numbers_of" s_no)
  (D_fo:aF K "faces_of" s_fo)
  (D_pb:aF K "parts_between" s_pb)
  (D_dt:aF K "digit_told" s_dt)
  (D_nt:aF K "number_told" s_nt)
  (D_ct:aF K "corner_told" s_ct)
  (D_wt:aF K "walk_told" s_wt)
  (D_wt2:aF K "walks_told" s_wt2)
  (D_far:aF K "feet_across_rows" s_far)
  (D_cw:aF K "cells_within" s_cw)
  (D_haw:aF K "headings_along_walls" s_haw)
  (D_wf:aF K "walk_from" s_wf)
  (D_wr:aF K "walks_round" s_wr)
  (D_miap:aF K "meets_in_a_point" s_miap)
  (D_ij:aF K "is_joined" s_ij)
  (D_ih:aF K "is_house" s_ih)
  (D_ht:aF K "house_told" s_ht)
  (D_rt:aF K "roof_told" s_rt)
  (D_rtcf:aF K "roof_to_choose_for" s_rtcf)
  (D_ip:aF K "in_pairs" s_ip)
  (n_face:W.nsIn K mainGlobals "size" =some (some (.ref f))) (F_face:Fun K "size" "size" s_f f fd) (Cd:fd.code=.ref c) (mx:W.tabIn K "size" =some (c,tb)) (yt:(PyProof.Rows.recsOf q).find? (fun e=>e.name==("size" : Str))=some dr) (Cn:K.lookup tb=none)
  (n_ans:W.nsIn K mainGlobals "answer_or_refusal" =some (some (.ref fA))) (F_ans:Fun K "answer_or_refusal" "answer_or_refusal" uW fA fdA)
  (j5:W.nsIn K mainGlobals "NoHouse" =some (some (.ref d.bZ))) (iS:∀{h:Heap},K.In h->gY h d.bZ)
  (eD:W.nsIn K mainGlobals "OutOfBounds" =some (some (.ref d.bK))) (dZ:∀{h:Heap},K.In h->gY h d.bK)
  (j4:W.nsIn K mainGlobals "Outside" =some (some (.ref d.fM))) (iR:∀{h:Heap},K.In h->gY h d.fM)
  (kZ:W.nsIn K mainGlobals "NoFace" =some (some (.ref d.iQ))) (jX:∀{h:Heap},K.In h->gY h d.iQ)
  (kY:W.nsIn K mainGlobals "NoSize" =some (some (.ref d.fJ))) (jW:∀{h:Heap},K.In h->gY h d.fJ)
  (ap:[d.bZ,d.bK,d.fM,d.iQ,d.fJ].Nodup):
  wpAny (model rwL.prog w) callerA (call (.ref fa) mq) (fun v s'=>W.GoodWG rwL.claim cl mn args s1 (.ok (.ret v)) s') (fun e s'=>W.GoodWG rwL.claim cl mn args s1 (.error e) s') s1:=by
 obtain⟨nt,nsizes,jw,hBt,mj,jq,rfl,Bj⟩:=FY yw;have e:=hmg.symm.trans (W.mg_of KX T.g n_face);cases e;obtain⟨hC,ht⟩:=W.tab_of (x:= "size") T KX yt mx;obtain⟨rt,ut,jv,mr,rfl,hOt,hIt,vy,vz⟩:∃rt ut jv mr,mq=[.ref rt,.ref jv]/\s1.heap.get? rt=some (EK ut)/\PyProof.Rows.IntsAre ut nt/\s1.heap.get? jv=some (EK mr)/\PyProof.Rows.IntsAre mr nsizes:=by
  cases yo with
  |cons ht yo=>
   cases yo with
   |cons hsizes yo=>
    cases yo;cases ht with
    |list hot hwt=>
     cases hsizes with
     |list hosizes hwsizes=>exact⟨_,_,_,_,rfl,hot,oO hwt,hosizes,oO hwsizes⟩
 refine wpAny_call (codeAny_mono (EV (P:=rwL.prog) (w:=w) (K:=K) (k:=13) (tb:=tb) (fd:=fd) (ps:=["t","sizes"]) (sp:=sp_f K tb) (LA:=[(rt,ut,nt),(jv,mr,nsizes)]) (vs:=[.ref rt,.ref jv]) (R:=fun r=>r=RoofBNeutral.f [[9],nt,nsizes])
  KX T.g T.b T.builtins T.nolimit hg ?_ ht (FO hC) Cn ⟨rfl,by decide,by decide⟩ (.cons rfl (.cons rfl .nil)) ?_ ?_ ?_) fun r s' h=>?_)
 ·intro p hp;rcases ao.mp hp with rfl|hp
  ·exact⟨hOt,hIt,df jw (by decide)⟩
  rcases ao.mp hp with rfl|hp
  ·exact⟨vy,vz,df mj (by decide)⟩
  exact(nomatch hp)
 ·intro base M kp;obtain⟨mb2,hb1,Ae⟩:=M.blt;have TR:W.TopRead q loose mg mb2 base:=⟨M.glob,hb1,M.nolimit,Ae,T.free⟩;have TX0:=TX M TR;have AN:Ans K mg base d fA fdA:=⟨F_ans,W.mg_of M.kin M.glob n_ans,F_ans.binds (fun _ _ _ _ _ _ us hl=>match us,hl with|[_],_=>rfl),W.mg_of M.kin M.glob j5,iS M.kin,W.mg_of M.kin M.glob eD,dZ M.kin,W.mg_of M.kin M.glob j4,iR M.kin,W.mg_of M.kin M.glob kZ,jX M.kin,W.mg_of M.kin M.glob kY,jW M.kin,ap,KZ T ht kp⟩;obtain⟨E_bsr,E_rtcf,E_ip⟩:=J2 (P:=rwL.prog) (w:=w) M TX0 mw F_init D_re D_po D_pbf D_to D_wac D_wact D_bsr D_is D_cs D_m D_br D_hco D_id D_do D_ss D_ho D_ho2 D_lo D_se D_ro D_o D_fo2 D_fo3 D_tol D_tor D_b D_ta D_nf D_no D_fo D_pb D_dt D_nt D_ct D_wt D_wt2 D_far D_cw D_haw D_wf D_wr D_miap D_ij D_ih D_ht D_rt D_rtcf D_ip;exact ok_f F_face TX0 AN Cd (A5 hC kp) E_bsr E_rtcf E_ip
 ·exact F_face.binds (ps:=["t","sizes"]) (fun _ _ _ _ _ _ us hl=>match us,hl with|[_,_],_=>rfl) s1 _ KX rfl
 ·intro H hA hS;exact⟨rt,nt,jv,nsizes,rfl,hS (rt,ut,nt) (bb),jw,hBt,hS (jv,mr,nsizes) (ar _ bb),mj,jq,hA,fun p H' hp=>⟨p,_,rfl,hp,rfl⟩⟩
 ·obtain⟨⟨p,its,n,ms,rfl,zf,pr,rfl⟩,h2,h3,h4⟩:=h;exact⟨.inl ⟨.ref p,.list ((RoofBNeutral.f [[9],nt,nsizes]).map W.WData.int),_,rfl,fun _=>rfl,.list zf rfl rfl (by simpa using sI pr),Bj _,fun z=>(nomatch z)⟩,h2,h3,h4⟩
structure Facts(K:W.Frag)(d:Adr)(fI:Addr)(fdI:FuncData):Prop where
 txt:∀{p:Program}{loose:List Str}{mg mb:Str->Option Value}{base:Heap},Mod K mg base->W.TopRead p loose mg mb base->Txt K mg base d
 mkR:Mk K d.Roof fI
 init:Fun K "__init__" "Roof.__init__" s_i fI fdI
 j5:W.nsIn K mainGlobals "NoHouse" =some (some (.ref d.bZ))
 iS:∀{h:Heap},K.In h->gY h d.bZ
 eD:W.nsIn K mainGlobals "OutOfBounds" =some (some (.ref d.bK))
 dZ:∀{h:Heap},K.In h->gY h d.bK
 j4:W.nsIn K mainGlobals "Outside" =some (some (.ref d.fM))
 iR:∀{h:Heap},K.In h->gY h d.fM
 kZ:W.nsIn K mainGlobals "NoFace" =some (some (.ref d.iQ))
 jX:∀{h:Heap},K.In h->gY h d.iQ
 kY:W.nsIn K mainGlobals "NoSize" =some (some (.ref d.fJ))
 jW:∀{h:Heap},K.In h->gY h d.fJ
 ap:[d.bZ,d.bK,d.fM,d.iQ,d.fJ].Nodup
theorem IK{K:W.Frag}{km jr kx lz kz kg rALL_SIDES qf rSIDE_STARTS me rHALVES_ABOUT rHALVES_AT_A_POINT fI:Addr}{tLINE_FEED rj rh tDIGIT_ZERO tDIGIT_NINE tGREATEST_NUMBER tMOST_DIGITS tFEWEST_CORNERS tCELLS_IN_A_ROW tMOST_CELLS tGREATEST_MEASURE:Tok}
  {nm0 q0 nm1 q1 nm2 q2 nm3 q3 nm4 q4:Str}{N0 N1 N2 N3 N4:Addr}{bs0 sub0 bs1 sub1 bs2 sub2 bs3 sub3 bs4 sub4:List Value}{Ac ab0 hd1 ab1 vk ab2 hd3 ab3 hd4 ab4:Bool}{sn0 sn1 sn2 sn3 sn4:List Str}{col0 col1 col2 col3 col4:Option Bool}{dd0 dd1 Cy dd3 dd4:Option Addr}{u0 v0 w0 x0 y0 u1 v1 w1 x1 y1 u2 v2 w2 x2 y2 u3 v3 w3 x3 y3 u4 v4 w4 x4 y4:Option Value}{id0 id1 id2 id3 id4:String}
  {oc:Value}{od an:Option Addr}{mi:Array (Option Value)}{kV lg pm js ct:Value}
  (n_ALL_SIDES:W.nsIn K mainGlobals "ALL_SIDES" =some (some (.ref rALL_SIDES)))
  (c_ALL_SIDES:wU K rALL_SIDES=true)
  (n_STEPS:W.nsIn K mainGlobals "STEPS" =some (some (.ref qf)))
  (c_STEPS:tS K qf [(0,-1),(1,0),(0,1),(-1,0)]=true)
  (n_SIDE_STARTS:W.nsIn K mainGlobals "SIDE_STARTS" =some (some (.ref rSIDE_STARTS)))
  (c_SIDE_STARTS:tS K rSIDE_STARTS [(0,0),(1,0),(1,1),(0,1)]=true)
  (n_QUARTERS:W.nsIn K mainGlobals "QUARTERS" =some (some (.ref me)))
  (c_QUARTERS:tS K me [(0,0),(1,0),(0,1),(1,1)]=true)
  (n_HALVES_ABOUT:W.nsIn K mainGlobals "HALVES_ABOUT" =some (some (.ref rHALVES_ABOUT)))
  (c_HALVES_ABOUT:tS K rHALVES_ABOUT [(-1,-1),(0,-1),(1,-1),(-1,0),(1,0),(-1,1),(0,1),(1,1)]=true)
  (n_HALVES_AT_A_POINT:W.nsIn K mainGlobals "HALVES_AT_A_POINT" =some (some (.ref rHALVES_AT_A_POINT)))
  (c_HALVES_AT_A_POINT:tS K rHALVES_AT_A_POINT [(-1,-1),(0,-1),(-1,0),(0,0)]=true)
  (n_LINE_FEED:W.nsIn K mainGlobals "LINE_FEED" =some (some (.int 10 tLINE_FEED)))
  (n_BLANK:W.nsIn K mainGlobals "BLANK" =some (some (.int 32 rj)))
  (n_COMMA:W.nsIn K mainGlobals "COMMA" =some (some (.int 44 rh)))
  (n_DIGIT_ZERO:W.nsIn K mainGlobals "DIGIT_ZERO" =some (some (.int 48 tDIGIT_ZERO)))
  (n_DIGIT_NINE:W.nsIn K mainGlobals "DIGIT_NINE" =some (some (.int 57 tDIGIT_NINE)))
  (n_GREATEST_NUMBER:W.nsIn K mainGlobals "GREATEST_NUMBER" =some (some (.int 64 tGREATEST_NUMBER)))
  (n_MOST_DIGITS:W.nsIn K mainGlobals "MOST_DIGITS" =some (some (.int 2 tMOST_DIGITS)))
  (n_FEWEST_CORNERS:W.nsIn K mainGlobals "FEWEST_CORNERS" =some (some (.int 4 tFEWEST_CORNERS)))
  (n_CELLS_IN_A_ROW:W.nsIn K mainGlobals "CELLS_IN_A_ROW" =some (some (.int 64 tCELLS_IN_A_ROW)))
  (n_MOST_CELLS:W.nsIn K mainGlobals "MOST_CELLS" =some (some (.int 256 tMOST_CELLS)))
  (z_len:W.nsIn K mainGlobals "len" =some none)
  (z_min:W.nsIn K mainGlobals "min" =some none)
  (z_max:W.nsIn K mainGlobals "max" =some none)
  (z_any:W.nsIn K mainGlobals "any" =some none)
  (z_list:W.nsIn K mainGlobals "list" =some none)
  (z_dict:W.nsIn K mainGlobals "dict" =some none)
  (z_sorted:W.nsIn K mainGlobals "sorted" =some none)
  (z_range:W.nsIn K mainGlobals "range" =some none)
  (z_enumerate:W.nsIn K mainGlobals "enumerate" =some none)
  (n_NoHouse:W.nsIn K mainGlobals "NoHouse" =some (some (.ref km)))
  (e_NoHouse:W.excIn K km bmE "Exception.__new__" =true)
  (n_Roof:W.nsIn K mainGlobals "Roof" =some (some (.ref kg)))
  (q_pg:W.plainGet K kg Str.empty=true)
  (q_hd:W.hasDictIn K kg=true)
  (q_po:W.plainOver K kg=true)
  (q_sa:W.findIn K (.ref kg) "__setattr__" =some (some (.builtin "object.__setattr__")))
  (f_cells:W.findIn K (.ref kg) "cells" =some none)
  (f_depths:W.findIn K (.ref kg) "depths" =some none)
  (f_heights:W.findIn K (.ref kg) "heights" =some none)
  (f_facings:W.findIn K (.ref kg) "facings" =some none)
  (f_numbers:W.findIn K (.ref kg) "numbers" =some none)
  (xO:W.findIn K (.ref kg) "faces" =some none)
  (n_GREATEST_MEASURE:W.nsIn K mainGlobals "GREATEST_MEASURE" =some (some (.int 64 tGREATEST_MEASURE)))
  (n_OutOfBounds:W.nsIn K mainGlobals "OutOfBounds" =some (some (.ref jr)))
  (e_OutOfBounds:W.excIn K jr bmE "Exception.__new__" =true)
  (z_sum:W.nsIn K mainGlobals "sum" =some none)
  (n_NoSize:W.nsIn K mainGlobals "NoSize" =some (some (.ref kz)))
  (e_NoSize:W.excIn K kz bmE "Exception.__new__" =true)
  (n_Outside:W.nsIn K mainGlobals "Outside" =some (some (.ref kx)))
  (n_NoFace:W.nsIn K mainGlobals "NoFace" =some (some (.ref lz)))
  (l_NoHouse:K.lookup km=some (excClassObj nm0 q0 km N0 bs0 bmE Ac sn0 sub0 ab0 col0 dd0 u0 v0 w0 x0 y0 id0))
  (l_OutOfBounds:K.lookup jr=some (excClassObj nm1 q1 jr N1 bs1 bmE hd1 sn1 sub1 ab1 col1 dd1 u1 v1 w1 x1 y1 id1))
  (l_Outside:K.lookup kx=some (excClassObj nm2 q2 kx N2 bs2 bmE vk sn2 sub2 ab2 col2 Cy u2 v2 w2 x2 y2 id2))
  (l_NoFace:K.lookup lz=some (excClassObj nm3 q3 lz N3 bs3 bmE hd3 sn3 sub3 ab3 col3 dd3 u3 v3 w3 x3 y3 id3))
  (l_NoSize:K.lookup kz=some (excClassObj nm4 q4 kz N4 bs4 bmE hd4 sn4 sub4 ab4 col4 dd4 u4 v4 w4 x4 y4 id4))
  (ap:[km,jr,kx,lz,kz].Nodup)
  (m_mk:W.makesIn K kg=true)
  (m_in:W.findIn K (.ref kg) "__init__" =some (some (.ref fI)))
  (m_fn:W.isFn K (.ref fI)=true)
  (m_kp:W.keepIn K (.ref kg)=true)
  (i_l:K.lookup fI=some ⟨oc,od,.func (W.fnOf "__init__" "Roof.__init__" (hZ s_i) (f6 s_i) (aG s_i) .none kV lg pm an js ct),mi⟩)
  (i_c:W.codeIn K js "Roof.__init__" =true)
  (i_k:W.keepIn K (.ref fI)=true)
  : ∃d fI fdI,Facts K d fI fdI:=
 ⟨⟨km,jr,kx,lz,kz,kg⟩,fI,_,⟨fun M TR=>⟨⟨rALL_SIDES,W.mg_of M.kin M.glob n_ALL_SIDES,fun H=>GK c_ALL_SIDES H⟩,⟨qf,W.mg_of M.kin M.glob n_STEPS,tR c_STEPS⟩,⟨rSIDE_STARTS,W.mg_of M.kin M.glob n_SIDE_STARTS,tR c_SIDE_STARTS⟩,⟨me,W.mg_of M.kin M.glob n_QUARTERS,tR c_QUARTERS⟩,⟨rHALVES_ABOUT,W.mg_of M.kin M.glob n_HALVES_ABOUT,tR c_HALVES_ABOUT⟩,⟨rHALVES_AT_A_POINT,W.mg_of M.kin M.glob n_HALVES_AT_A_POINT,tR c_HALVES_AT_A_POINT⟩,⟨tLINE_FEED,W.mg_of M.kin M.glob n_LINE_FEED⟩,⟨rj,W.mg_of M.kin M.glob n_BLANK⟩,⟨rh,W.mg_of M.kin M.glob n_COMMA⟩,⟨tDIGIT_ZERO,W.mg_of M.kin M.glob n_DIGIT_ZERO⟩,⟨tDIGIT_NINE,W.mg_of M.kin M.glob n_DIGIT_NINE⟩,⟨tGREATEST_NUMBER,W.mg_of M.kin M.glob n_GREATEST_NUMBER⟩,⟨tMOST_DIGITS,W.mg_of M.kin M.glob n_MOST_DIGITS⟩,⟨tFEWEST_CORNERS,W.mg_of M.kin M.glob n_FEWEST_CORNERS⟩,⟨tCELLS_IN_A_ROW,W.mg_of M.kin M.glob n_CELLS_IN_A_ROW⟩,⟨tMOST_CELLS,W.mg_of M.kin M.glob n_MOST_CELLS⟩,W.mg_none_of M.kin M.glob z_len,W.mg_none_of M.kin M.glob z_min,W.mg_none_of M.kin M.glob z_max,W.mg_none_of M.kin M.glob z_any,W.mg_none_of M.kin M.glob z_list,W.mg_none_of M.kin M.glob z_dict,W.mg_none_of M.kin M.glob z_sorted,W.mg_none_of M.kin M.glob z_range,W.mg_none_of M.kin M.glob z_enumerate,W.own_of_in M.kin TR n_NoHouse e_NoHouse,W.mg_of M.kin M.glob n_Roof,⟨q_pg,q_hd,q_po,q_sa⟩,f_cells,f_depths,f_heights,f_facings,f_numbers,xO,⟨tGREATEST_MEASURE,W.mg_of M.kin M.glob n_GREATEST_MEASURE⟩,W.own_of_in M.kin TR n_OutOfBounds e_OutOfBounds,W.mg_none_of M.kin M.glob z_sum,W.own_of_in M.kin TR n_NoSize e_NoSize⟩,⟨m_mk,m_in,m_fn,m_kp⟩,BR i_l i_c i_k,n_NoHouse,(fun X=>nX X l_NoHouse),n_OutOfBounds,(fun X=>nX X l_OutOfBounds),n_Outside,(fun X=>nX X l_Outside),n_NoFace,(fun X=>nX X l_NoFace),n_NoSize,(fun X=>nX X l_NoSize),ap⟩⟩
theorem KN{K:W.Frag}{f c tb:Addr}{oc oc2:Value}{od od2 an:Option Addr}{mi qe:Array (Option Value)}{vs:Array Value}{kV lg pm js ct:Value}(a:W.nsIn K mainGlobals "size" =some (some (.ref f)))
  (l:K.lookup f=some ⟨oc,od,.func (W.fnOf "size" "size" (hZ s_f) (f6 s_f) (aG s_f) .none kV lg pm an js ct),mi⟩) (e:js=.ref c) (h:W.codeIn K js "size" =true) (k:W.keepIn K (.ref f)=true)
  (l2:K.lookup c=some ⟨oc2,od2,.fields vs,qe⟩) (hv:vs[11]? =some (.ref tb)) (kt:K.lookup tb=none):∃f fd c tb,W.nsIn K mainGlobals "size" =some (some (.ref f))/\Fun K "size" "size" s_f f fd/\fd.code=.ref c/\W.tabIn K "size" =some (c,tb)/\K.lookup tb=none:=
 ⟨f,_,c,tb,a,BR l h k,e,LO a l e l2 hv,kt⟩
end RT
open PySem
set_option maxHeartbeats 0 in
theorem PySem.Challenge.cw_rooftold_s09_size_holds : PySem.Challenge.rw_rooftold_s09_size.Holds := by
 refine W.holds_os (q:=HP.vw) (loose:=[]) (Xt:=HP.xt) (XP:=W.XL HP.vw []) (Yf:=W.Hook.obs (W.kHook HP.hpK HP.as HP.hkE)) (Ya:=W.Hook.val (W.kHook HP.hpK HP.as HP.hkE)) (YP:=W.Hook.says (W.kHook HP.hpK HP.as HP.hkE)) (N:=6416) HP.left (W.Hook.of _) (W.Hook.keeps _) (fun s e=>W.xl_of s (gr.mp e).1) W.XL.keeps (by rfl) (by rfl) (by rfl) (fun s e=>W.recFacts_of (gr.mp e).2) W.os_shapes (by decide+kernel) (by decide+kernel) ⟨rfl,rfl,rfl,rfl,rfl,by decide+kernel⟩ ⟨[.list [],.list []],by decide+kernel,by decide+kernel⟩ ?_;k_fillS;intro w s0 s1 mg mb G Y fa o pm cd lg dV kV ho hd nj hD hmg hg args mq as yw hlay yu yo hlo;have KX:=W.kIn_of Y;have FX:∃d fI fdI,RT.Facts (L2.KOf KX) d fI fdI:=by
  dsimp only[L2.KOf];refine' RT.IK ?n_ALL_SIDES ?c_ALL_SIDES ?n_STEPS ?c_STEPS ?n_SIDE_STARTS ?c_SIDE_STARTS ?n_QUARTERS ?c_QUARTERS ?n_HALVES_ABOUT ?c_HALVES_ABOUT ?n_HALVES_AT_A_POINT ?c_HALVES_AT_A_POINT ?n_LINE_FEED ?n_BLANK ?n_COMMA ?n_DIGIT_ZERO ?n_DIGIT_NINE ?n_GREATEST_NUMBER ?n_MOST_DIGITS ?n_FEWEST_CORNERS ?n_CELLS_IN_A_ROW ?n_MOST_CELLS ?z_len ?z_min ?z_max ?z_any ?z_list ?z_dict ?z_sorted ?z_range ?z_enumerate ?n_NoHouse ?e_NoHouse ?n_Roof ?q_pg ?q_hd ?q_po ?q_sa ?f_cells ?f_depths ?f_heights ?f_facings ?f_numbers ?xO ?n_GREATEST_MEASURE ?n_OutOfBounds ?e_OutOfBounds ?z_sum ?n_NoSize ?e_NoSize ?n_Outside ?n_NoFace ?l_NoHouse ?l_OutOfBounds ?l_Outside ?l_NoFace ?l_NoSize ?ap ?m_mk ?m_in ?m_fn ?m_kp ?i_l ?i_c ?i_k;case n_ALL_SIDES|n_STEPS|n_SIDE_STARTS|n_QUARTERS|n_HALVES_ABOUT|n_HALVES_AT_A_POINT|n_LINE_FEED|n_BLANK|n_COMMA|n_DIGIT_ZERO|n_DIGIT_NINE|n_GREATEST_NUMBER|n_MOST_DIGITS|n_FEWEST_CORNERS|n_CELLS_IN_A_ROW|n_MOST_CELLS|z_len|z_min|z_max|z_any|z_list|z_dict|z_sorted|z_range|z_enumerate|n_NoHouse|n_Roof|q_pg|q_hd|q_po|q_sa|f_cells|f_depths|f_heights|f_facings|f_numbers|xO|n_GREATEST_MEASURE|n_OutOfBounds|z_sum|n_NoSize|n_Outside|n_NoFace|l_NoHouse|l_OutOfBounds|l_Outside|l_NoFace|l_NoSize|m_mk|m_in|m_fn|m_kp|i_l|i_c|i_k=>k_is
  case c_ALL_SIDES|c_STEPS|c_SIDE_STARTS|c_QUARTERS|c_HALVES_ABOUT|c_HALVES_AT_A_POINT=>kernel_rfl
  case e_NoHouse|e_OutOfBounds|e_NoSize=>k_exc
  case ap=>decide
 have FF:∃f fd c tb,W.nsIn (L2.KOf KX) mainGlobals "size" =some (some (.ref f))/\L2.Fun (L2.KOf KX) "size" "size" RT.s_f f fd/\fd.code=.ref c/\W.tabIn (L2.KOf KX) "size" =some (c,tb)/\(L2.KOf KX).lookup tb=none:=by
  dsimp only[L2.KOf];refine' RT.KN ?a ?l ?e ?h ?k ?l2 ?hv ?kt
  (case a=>k_is)
  (case l=>k_is)
  (case e=>rfl)
  (case h=>k_is)
  (case k=>k_is)
  (case l2=>k_is)
  (case hv=>rfl)
  (case kt=>kernel_rfl)
 have D_re:L3.aF (L2.KOf KX) "runs_eastward" RT.s_re:=RT.dI;have D_po:L3.aF (L2.KOf KX) "places_on" RT.s_po:=RT.dI;have D_pbf:L3.aF (L2.KOf KX) "places_by_face" RT.s_pbf:=RT.dI;have D_to:L3.aF (L2.KOf KX) "tiles_over" RT.s_to:=RT.dI;have D_wac:L3.aF (L2.KOf KX) "whole_and_cut" RT.s_wac:=RT.dI;have D_wact:L3.aF (L2.KOf KX) "whole_and_cut_together" RT.s_wact:=RT.dI;have D_bsr:L3.aF (L2.KOf KX) "best_size_row" RT.s_bsr:=RT.dI;have D_is:L3.aF (L2.KOf KX) "is_size" RT.s_is:=RT.dI;have D_cs:L3.aF (L2.KOf KX) "check_size" RT.s_cs:=RT.dI;have D_m:L3.aF (L2.KOf KX) "moved" RT.s_m:=RT.dI;have D_br:L3.aF (L2.KOf KX) "by_row" RT.s_br:=RT.dI;have D_hco:L3.aF (L2.KOf KX) "half_cells_of" RT.s_hco:=RT.dI;have D_id:L3.aF (L2.KOf KX) "is_deeper" RT.s_id:=RT.dI;have D_do:L3.aF (L2.KOf KX) "depths_of" RT.s_do:=RT.dI;have D_ss:L3.aF (L2.KOf KX) "side_start" RT.s_ss:=RT.dI;have D_ho:L3.aF (L2.KOf KX) "height_over" RT.s_ho:=RT.dI;have D_ho2:L3.aF (L2.KOf KX) "heights_of" RT.s_ho2:=RT.dI;have D_lo:L3.aF (L2.KOf KX) "left_of" RT.s_lo:=RT.dI;have D_se:L3.aF (L2.KOf KX) "side_end" RT.s_se:=RT.dI;have D_ro:L3.aF (L2.KOf KX) "right_of" RT.s_ro:=RT.dI;have D_o:L3.aF (L2.KOf KX) "opposite" RT.s_o:=RT.dI;have D_fo2:L3.aF (L2.KOf KX) "facing_of" RT.s_fo2:=RT.dI;have D_fo3:L3.aF (L2.KOf KX) "facings_of" RT.s_fo3:=RT.dI;have D_tol:L3.aF (L2.KOf KX) "triangle_on_left" RT.s_tol:=RT.dI;have D_tor:L3.aF (L2.KOf KX) "triangle_on_right" RT.s_tor:=RT.dI;have D_b:L3.aF (L2.KOf KX) "beyond" RT.s_b:=RT.dI
 have D_ta:L3.aF (L2.KOf KX) "triangle_across" RT.s_ta:=RT.dI;have D_nf:L3.aF (L2.KOf KX) "number_face" RT.s_nf:=RT.dI;have D_no:L3.aF (L2.KOf KX) "numbers_of" RT.s_no:=RT.dI;have D_fo:L3.aF (L2.KOf KX) "faces_of" RT.s_fo:=RT.dI;have D_pb:L3.aF (L2.KOf KX) "parts_between" RT.s_pb:=RT.dI;have D_dt:L3.aF (L2.KOf KX) "digit_told" RT.s_dt:=RT.dI;have D_nt:L3.aF (L2.KOf KX) "number_told" RT.s_nt:=RT.dI;have D_ct:L3.aF (L2.KOf KX) "corner_told" RT.s_ct:=RT.dI;have D_wt:L3.aF (L2.KOf KX) "walk_told" RT.s_wt:=RT.dI;have D_wt2:L3.aF (L2.KOf KX) "walks_told" RT.s_wt2:=RT.dI;have D_far:L3.aF (L2.KOf KX) "feet_across_rows" RT.s_far:=RT.dI;have D_cw:L3.aF (L2.KOf KX) "cells_within" RT.s_cw:=RT.dI;have D_haw:L3.aF (L2.KOf KX) "headings_along_walls" RT.s_haw:=RT.dI;have D_wf:L3.aF (L2.KOf KX) "walk_from" RT.s_wf:=RT.dI;have D_wr:L3.aF (L2.KOf KX) "walks_round" RT.s_wr:=RT.dI;have D_miap:L3.aF (L2.KOf KX) "meets_in_a_point" RT.s_miap:=RT.dI;have D_ij:L3.aF (L2.KOf KX) "is_joined" RT.s_ij:=RT.dI;have D_ih:L3.aF (L2.KOf KX) "is_house" RT.s_ih:=RT.dI;have D_ht:L3.aF (L2.KOf KX) "house_told" RT.s_ht:=RT.dI;have D_rt:L3.aF (L2.KOf KX) "roof_told" RT.s_rt:=RT.dI;have D_rtcf:L3.aF (L2.KOf KX) "roof_to_choose_for" RT.s_rtcf:=RT.dI;have D_ip:L3.aF (L2.KOf KX) "in_pairs" RT.s_ip:=RT.dI;have D_answer_or_refusal:L3.aF (L2.KOf KX) "answer_or_refusal" RT.uW:=RT.dI;obtain⟨d,fI,fdI,FX⟩:=FX;obtain⟨f,fd,c,tb,n_f,F_f,Cd,mx,Cn⟩:=FF;obtain⟨fA,fdA,n_ans,F_ans⟩:=D_answer_or_refusal.ex
 exact RT.DN KX G.T hg hmg yw yo FX.txt FX.mkR FX.init D_re D_po D_pbf D_to D_wac D_wact D_bsr D_is D_cs D_m D_br D_hco D_id D_do D_ss D_ho D_ho2 D_lo D_se D_ro D_o D_fo2 D_fo3 D_tol D_tor D_b D_ta D_nf D_no D_fo D_pb D_dt D_nt D_ct D_wt D_wt2 D_far D_cw D_haw D_wf D_wr D_miap D_ij D_ih D_ht D_rt D_rtcf D_ip n_f F_f Cd mx rfl Cn n_ans F_ans FX.j5 FX.iS FX.eD FX.dZ FX.j4 FX.iR FX.kZ FX.jX FX.kY FX.jW FX.ap
