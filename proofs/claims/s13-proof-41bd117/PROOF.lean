import PyProof.Rows.All
import Wide.All
import OpenK.AllK
import Wide.FinOn
import PyProof.EqAt
import PyProof.EqKinds
import PyProof.TupleCall
import KE.BitLaws
import RoofBuilt
import WqajbzNeutral
import KE.KSortTupG
import KE.KLam
import KE.OsGo
import Open.SpecLaws
import PySem.Challenge.RW_rooftold_s13_free
set_option Elab.async false
set_option linter.all false
set_option genSizeOfSpec false
set_option maxRecDepth 100000
set_option maxHeartbeats 4000000
noncomputable section
open Nat (le_of_lt not_lt mod_mod)
open Int (le_min zero_add le_refl min_assoc min_comm)
open List (of_mem_zip any_cons nodup_nil take_zero any_map nil_append cons_append countP_cons filter_congr map_id cons_ne_nil flatMap_map all_cons all_nil)
open Bool (or_eq_true)
open Array (getElem?_eq_none forIn_toList)
def aa:=@PySem.wpAny_bind
def af:=@if_neg
def ag:=@PySem.wpAny_pure
def ah:=@if_pos
def ai:=@List.length_map
def aj:=@List.length_append
def ak:=@List.mem_cons
def ao:=@PySem.Heap.get?_push_of_some
def aq:=@List.getElem?_eq_some_iff
def ar:=@List.mem_cons_of_mem
def au:=@Nat.le_refl
def aw:=@List.mem_append
def ax:=@List.mem_map
def ay:=@List.mem_of_getElem?
def az:=@PySem.Heap.get?_push_size
def ba:=@of_decide_eq_true
def bb:=@List.mem_cons_self
def bc:=@List.mem_append_right
def bf:=@List.getElem?_map
def bg:=@List.take_of_length_le
def bh:=@List.map_cons
def bj:=@List.size_toArray
def bo:=@List.length_cons
def bp:=@Bool.false_ne_true
def bq:=@PySem.Heap.lt_size
def br:=@List.mem_filter
def bu:=@List.length_take
def bw:=@Nat.lt_of_lt_of_le
def bx:=@List.getElem?_eq_getElem
def bz:=@Nat.zero_le
def cc:=@List.mem_append_left
def cf:=@List.map_append
def cg:=@Bool.and_eq_true
def cj:=@List.mem_flatMap
def cn:=@List.nodup_append
def cv:=@Nat.ne_of_lt
def da:=@List.append_nil
def dc:=@List.nodup_cons
def de:=@Nat.le_trans
def df:=@Array.getD_eq_getD_getElem?
def dh:=@Bool.eq_iff_iff
def di:=@Array.length_toList
def dj:=@List.getElem?_append_right
def dk:=@List.length_filter_le
def dm:=@Bool.false_eq_true
def dq:=@List.not_mem_nil
def dt:=@List.map_congr_left
def dv:=@List.length_nil
def dz:=@List.append_assoc
def fb:=@List.any_eq_true
def fe:=@List.mem_iff_getElem?
def fg:=@List.filterMap_cons
def fh:=@List.map_map
def fi:=@List.all_eq_true
def fj:=@Bool.not_eq_true'
def fk:=@List.filter_append
def fm:=@List.mem_singleton
def fo:=@List.eq_nil_of_length_eq_zero
def ft:=@PySem.Heap.size_push
def fu:=@List.getElem?_take_of_lt
def fx:=@Array.getElem?_eq_getElem
def fy:=@List.length_pos_iff
def gb:=@List.flatMap_cons
def gc:=@List.pairwise_cons
def gd:=@List.lookup_cons
def gf:=@Array.getElem?_eq_some_iff
def gh:=@Int.min_le_right
def gi:=@Int.toNat_of_nonneg
def gj:=@List.length_dropLast
def gk:=@Nat.lt_irrefl
def gm:=@Array.getElem?_toList
def gp:=@List.getElem?_cons_succ
def gr:=@Int.min_le_left
def gu:=@List.mem_range
def gw:=@List.flatten_append
def gx:=@List.contains_iff_mem
def gy:=@List.getElem?_append_left
def gz:=@List.length_drop
def ia:=@Bool.or_eq_false_iff
def ib:=@List.pairwise_map
def ie:=@Nat.le_of_eq
def ig:=@Nat.lt_of_le_of_lt
def ij:=@List.find?_cons
def ik:=@List.flatMap_append
def iq:=@List.filter_sublist
def ir:=@Int.le_trans
def iu:=@List.dropLast_concat_getLast
def iw:=@Int.le_add_of_sub_right_le
def iy:=@List.map_nil
def iz:=@List.range_succ
def ja:=@List.flatten_cons
def jb:=@Bool.eq_false_iff
def jc:=@Array.getElem?_setIfInBounds
def jd:=@Nat.ne_of_gt
def je:=@Int.add_neg_cancel_right
def jf:=@List.getElem?_eq_none_iff
def jg:=@Nat.le_of_succ_le
def jh:=@Nat.lt_succ_of_lt
def ji:=@Int.toNat_natCast
namespace HP
open PySem PySem.W PyProof.Rows
noncomputable section
noncomputable def tp(i:Nat):Stmt:=PySem.Challenge.pw_rooftold_s13_free.main.body.getD i (.Pass ⟨0,0,0,0⟩)
noncomputable def ic(s:Stmt)(j:Nat):Stmt:=match s with
 | .ClassDef _ _ _ body _ _ _ _ _ _ _=>body.getD j (.Pass ⟨0,0,0,0⟩)
 |_=>.Pass ⟨0,0,0,0⟩
noncomputable def dA(s:Stmt):Arguments:=match s with
 | .FunctionDef _ a _ _ _ _ _ _ _ _=>a
 |_=>{posonlyargs:=[],args:=[],vararg:=none,kwonlyargs:=[],kw_defaults:=[],kwarg:=none,defaults:=[]}
noncomputable def dB(s:Stmt):List Stmt:=match s with
 | .FunctionDef _ _ b _ _ _ _ _ _ _=>b
 |_=>[]
noncomputable def dS(s:Stmt):Scope:=match s with
 | .FunctionDef _ _ _ _ _ _ sc _ _ _=>sc
 |_=>{kind:=.function,names:=[],isGenerator:=false,isCoroutine:=false}
abbrev fl:String:= "/claim/cut.py"
noncomputable abbrev vs(s:String)(t:Tok):Value:=.str (Str.ofString s) t
noncomputable abbrev vi(i:Int)(t:Tok):Value:=.int i t
noncomputable abbrev vr(a:Addr):Value:=.ref a
noncomputable abbrev eN(P:Params)(s:String)(t:Tok)(v:Value):DictEntry:={hash:=PyData.keyHash P (Str.ofString s),key:=.str (Str.ofString s) t,val:=v}
noncomputable abbrev oT(l:Array Value):Obj:={cls:=.type "tuple",data:=.seq l}
noncomputable abbrev oK(l:Array Value):Obj:={cls:=.type "code",data:=.fields l}
noncomputable abbrev oC(n:String)(t:Nat)(l c g:Int)(r:Addr)(x:Int)(r1 r2 r3 r4:Addr)(u:Nat):Obj:=oK #[vs n t,vs n (t+1),vs fl (t+2),vi l 0,vi c 0,vi 0 0,vi 0 0,vi g 0,vr r,.bool true,vi x 0,vr r1,.none,vr r2,vr r3,vr r4,vi u 0,vi l 0,vs fl (u+1)]
noncomputable abbrev oF(n q:String)(s:Stmt)(m:String)(t:Tok)(c:Addr):Obj:={cls:=.type "function",data:=.func (fnOf (Str.ofString n) (Str.ofString q) (dA s) (dB s) (dS s) .none .none .none (vs m t) none (.ref c) .none)}
noncomputable abbrev oG(n q:String)(s:Stmt):Obj:={cls:=.none,data:=.func {name:=Str.ofString n,qualname:=Str.ofString q,params:=dA s,body:=.stmts (dB s),scope:=dS s,globals:=0,closure:=[],defaults:=.none,kwdefaults:=.none}}
def o2(P:Params):Obj:={cls:=.none,data:=.dict #[eN P "type.__subclasses__.Exception.0" 292 (vi 91 0),eN P "type.__subclasses__.Exception.n" 293 (vi 5 0),eN P "type.__subclasses__.Exception.1" 312 (vi 104 0),eN P "type.__subclasses__.Exception.2" 332 (vi 117 0),eN P "type.__subclasses__.Exception.3" 352 (vi 130 0),eN P "type.__subclasses__.Exception.4" 372 (vi 143 0)] 6}
def o3(P:Params):Obj:={cls:=.type "dict",data:=.dict #[eN P "__name__" 165 (vs "rooftold.desk" 843),eN P "__doc__" 166 .none,eN P "__package__" 167 .none,eN P "__loader__" 168 (.builtin "__main__.__loader__#opaque"),eN P "__spec__" 169 .none,eN P "__annotations__" 170 (vr 6),eN P "__builtins__" 171 (vr 4),eN P "__file__" 173 (vs "/claim/cut.py" 172),eN P "__cached__" 174 .none,eN P "ALL_SIDES" 193 (vr 15),eN P "STEPS" 204 (vr 20),eN P "SIDE_STARTS" 213 (vr 25),eN P "left_of" 220 (vr 32),eN P "opposite" 227 (vr 39),eN P "right_of" 234 (vr 46),eN P "moved" 242 (vr 53),eN P "beyond" 250 (vr 60),eN P "side_start" 258 (vr 67),eN P "side_end" 266 (vr 74),eN P "by_row" 273 (vr 81),eN P "NoHouse" 295 (vr 91),eN P "OutOfBounds" 315 (vr 104),eN P "Outside" 335 (vr 117),eN P "NoFace" 355 (vr 130),eN P "NoSize" 375 (vr 143),eN P "answer_or_refusal" 382 (vr 153),eN P "LINE_FEED" 386 (vi 10 385),eN P "BLANK" 388 (vi 32 387),eN P "COMMA" 390 (vi 44 389),eN P "DIGIT_ZERO" 392 (vi 48 391),eN P "DIGIT_NINE" 394 (vi 57 393),eN P "GREATEST_NUMBER" 396 (vi 64 395),eN P "MOST_DIGITS" 398 (vi 2 397),eN P "FEWEST_CORNERS" 400 (vi 4 399),eN P "parts_between" 411 (vr 160),eN P "digit_told" 418 (vr 167),eN P "number_told" 427 (vr 174),eN P "corner_told" 433 (vr 179),eN P "walk_told" 439 (vr 184),eN P "walks_told" 445 (vr 189),eN P "CELLS_IN_A_ROW" 449 (vi 64 448),eN P "MOST_CELLS" 451 (vi 256 450),eN P "feet_across_rows" 464 (vr 196),eN P "cells_within" 476 (vr 203),eN P "is_joined" 487 (vr 210),eN P "meets_in_a_point" 498 (vr 217),eN P "is_house" 504 (vr 222),eN P "headings_along_walls" 514 (vr 229),eN P "walk_from" 527 (vr 236),eN P "walks_round" 538 (vr 243),eN P "house_told" 547 (vr 250),eN P "is_in_plan" 556 (vr 257),eN P "cells_to_build" 567 (vr 264),eN P "next_square_about_half" 576 (vr 271),eN P "next_square_about_point" 585 (vr 278),eN P "next_squares_over" 599 (vr 285),eN P "cells_wanting" 611 (vr 292),eN P "cells_that_touch" 623 (vr 299),eN P "free_cells" 629 (vr 304),eN P "QUARTERS" 640 (vr 309),eN P "HALVES_ABOUT" 663 (vr 318),eN P "HALVES_AT_A_POINT" 676 (vr 323),eN P "half_cells_of" 686 (vr 330),eN P "is_deeper" 695 (vr 337),eN P "depths_of" 701 (vr 342),eN P "height_over" 707 (vr 347),eN P "heights_of" 718 (vr 354),eN P "Roof" 754 (vr 371),eN P "facing_of" 766 (vr 382),eN P "facings_of" 778 (vr 389),eN P "triangle_across" 789 (vr 396),eN P "triangle_on_left" 799 (vr 403),eN P "triangle_on_right" 809 (vr 410),eN P "number_face" 822 (vr 417),eN P "numbers_of" 832 (vr 424),eN P "faces_of" 842 (vr 431),eN P "roof_told" 851 (vr 438),eN P "roof_with_face" 860 (vr 445),eN P "free_cells_told" 869 (vr 452),eN P "counted" 878 (vr 459),eN P "free" 888 (vr 466)] 81}
def o11:Obj:=oT #[]
def o12:Obj:={cls:=.none,data:=.fields #[(vi 5 0),(vi 0 0),(vr 31),(vi 7 0),(vi 0 0),(vr 38),(vi 9 0),(vi 0 0),(vr 45),(vi 11 0),(vi 0 0),(vr 52),(vi 13 0),(vi 0 0),(vr 59),(vi 15 0),(vi 0 0),(vr 66),(vi 17 0),(vi 0 0),(vr 73),(vi 19 0),(vi 0 0),(vr 80),(vi 22 0),(vi 0 0),(vr 87),(vi 24 0),(vi 0 0),(vr 100),(vi 26 0),(vi 0 0),(vr 113),(vi 28 0),(vi 0 0),(vr 126),(vi 30 0),(vi 0 0),(vr 139),(vi 32 0),(vi 0 0),(vr 152),(vi 54 0),(vi 0 0),(vr 159),(vi 65 0),(vi 0 0),(vr 166),(vi 69 0),(vi 0 0),(vr 173),(vi 80 0),(vi 0 0),(vr 178),(vi 85 0),(vi 0 0),(vr 183),(vi 90 0),(vi 0 0),(vr 188),(vi 99 0),(vi 0 0),(vr 195),(vi 108 0),(vi 0 0),(vr 202),(vi 119 0),(vi 0 0),(vr 209),(vi 129 0),(vi 0 0),(vr 216),(vi 136 0),(vi 0 0),(vr 221),(vi 142 0),(vi 0 0),(vr 228),(vi 149 0),(vi 0 0),(vr 235),(vi 161 0),(vi 0 0),(vr 242),(vi 169 0),(vi 0 0),(vr 249),(vi 176 0),(vi 0 0),(vr 256),(vi 178 0),(vi 0 0),(vr 263),(vi 188 0),(vi 0 0),(vr 270),(vi 191 0),(vi 0 0),(vr 277),(vi 194 0),(vi 0 0),(vr 284),(vi 202 0),(vi 0 0),(vr 291),(vi 209 0),(vi 0 0),(vr 298),(vi 216 0),(vi 0 0),(vr 303),(vi 223 0),(vi 0 0),(vr 329),(vi 229 0),(vi 0 0),(vr 336),(vi 234 0),(vi 0 0),(vr 341),(vi 245 0),(vi 0 0),(vr 346),(vi 247 0),(vi 0 0),(vr 353),(vi 256 0),(vi 0 0),(vr 360),(vi 265 0),(vi 0 0),(vr 381),(vi 275 0),(vi 0 0),(vr 388),(vi 281 0),(vi 0 0),(vr 395),(vi 285 0),(vi 0 0),(vr 402),(vi 288 0),(vi 0 0),(vr 409),(vi 291 0),(vi 0 0),(vr 416),(vi 301 0),(vi 0 0),(vr 423),(vi 309 0),(vi 0 0),(vr 430),(vi 317 0),(vi 0 0),(vr 437),(vi 319 0),(vi 0 0),(vr 444),(vi 324 0),(vi 0 0),(vr 451),(vi 327 0),(vi 0 0),(vr 458),(vi 332 0),(vi 0 0),(vr 465)]}
def o13:Obj:=oK #[(vs "<module>" 182),(vs "<module>" 183),(vs fl 184),(vi 1 0),(vi 0 0),(vi 0 0),(vi 0 0),(vi 0 0),(vr 11),.bool false,(vi 181 0),(vr 12),.none,.none,.none,.none,(vi 185 0),(vi 1 0),(vs fl 186)]
def o14:Obj:={cls:=.type "frame",slots:=#[some ((vr 13)),some ((vr 3)),some ((vr 3)),none,some ((vs "__main__" 164)),none,some ((vr 0))]}
def o15:Obj:=oT #[(vi 0 189),(vi 1 190),(vi 2 191),(vi 3 192)]
def o16:Obj:=oT #[(vi 0 194),(vi (-1) 196)]
def o17:Obj:=oT #[(vi 1 197),(vi 0 198)]
def o18:Obj:=oT #[(vi 0 199),(vi 1 200)]
def o19:Obj:=oT #[(vi (-1) 202),(vi 0 203)]
def o20:Obj:=oT #[(vr 16),(vr 17),(vr 18),(vr 19)]
def o21:Obj:=oT #[(vi 0 205),(vi 0 206)]
def o22:Obj:=oT #[(vi 1 207),(vi 0 208)]
def o23:Obj:=oT #[(vi 1 209),(vi 1 210)]
def o24:Obj:=oT #[(vi 0 211),(vi 1 212)]
def o25:Obj:=oT #[(vr 21),(vr 22),(vr 23),(vr 24)]
def o27:Obj:={cls:=.none,data:=.fields #[]}
def o28:Obj:=oT #[(vs "direction" 217)]
def o30:Obj:=oG "left_of" "left_of" (tp 4)
def o31:Obj:=oC "left_of" 214 5 1 3 26 181 27 28 29 30 218
def o32:Obj:=oF "left_of" "left_of" (tp 4) "rooftold.compass" 187 31
def o35:Obj:=oT #[(vs "direction" 224)]
def o37:Obj:=oG "opposite" "opposite" (tp 5)
def o38:Obj:=oC "opposite" 221 7 1 3 33 181 34 35 36 37 225
def o39:Obj:=oF "opposite" "opposite" (tp 5) "rooftold.compass" 187 38
def o42:Obj:=oT #[(vs "direction" 231)]
def o44:Obj:=oG "right_of" "right_of" (tp 6)
def o45:Obj:=oC "right_of" 228 9 1 3 40 181 41 42 43 44 232
def o46:Obj:=oF "right_of" "right_of" (tp 6) "rooftold.compass" 187 45
def o49:Obj:=oT #[(vs "place" 238),(vs "step" 239)]
def o51:Obj:=oG "moved" "moved" (tp 7)
def o52:Obj:=oC "moved" 235 11 2 3 47 181 48 49 50 51 240
def o53:Obj:=oF "moved" "moved" (tp 7) "rooftold.compass" 187 52
def o56:Obj:=oT #[(vs "place" 246),(vs "direction" 247)]
def o58:Obj:=oG "beyond" "beyond" (tp 8)
def o59:Obj:=oC "beyond" 243 13 2 3 54 181 55 56 57 58 248
def o60:Obj:=oF "beyond" "beyond" (tp 8) "rooftold.compass" 187 59
def o63:Obj:=oT #[(vs "square" 254),(vs "side" 255)]
def o65:Obj:=oG "side_start" "side_start" (tp 9)
def o66:Obj:=oC "side_start" 251 15 2 3 61 181 62 63 64 65 256
def o67:Obj:=oF "side_start" "side_start" (tp 9) "rooftold.compass" 187 66
def o70:Obj:=oT #[(vs "square" 262),(vs "side" 263)]
def o72:Obj:=oG "side_end" "side_end" (tp 10)
def o73:Obj:=oC "side_end" 259 17 2 3 68 181 69 70 71 72 264
def o74:Obj:=oF "side_end" "side_end" (tp 10) "rooftold.compass" 187 73
def o77:Obj:=oT #[(vs "place" 270)]
def o79:Obj:=oG "by_row" "by_row" (tp 11)
def o80:Obj:=oC "by_row" 267 19 1 3 75 181 76 77 78 79 271
def o81:Obj:=oF "by_row" "by_row" (tp 11) "rooftold.compass" 187 80
def o82:Obj:=oT #[.type "Exception"]
def o83:Obj:={cls:=.type "builtin_function_or_method",data:=.fields #[.builtin "type.__prepare__",.type "type"]}
def o84(P:Params):Obj:={cls:=.type "dict",data:=.dict #[eN P "__module__" 283 (vs "rooftold.refusals" 274),eN P "__qualname__" 285 (vs "NoHouse" 284),eN P "__firstlineno__" 287 (vi 22 286),eN P "__static_attributes__" 288 (vr 89)] 4}
def o87:Obj:=oK #[(vs "NoHouse" 278),(vs "NoHouse" 279),(vs fl 280),(vi 22 0),(vi 0 0),(vi 0 0),(vi 0 0),(vi 0 0),(vr 85),.bool false,(vi 181 0),(vr 86),.none,.none,.none,.none,(vi 281 0),(vi 22 0),(vs fl 282)]
def o88:Obj:={cls:=.type "frame",slots:=#[some ((vr 87)),some ((vr 3)),some ((vr 84)),none,some ((vs "rooftold.refusals" 274)),none,some ((vr 0))]}
def o90(P:Params):Obj:={cls:=.type "dict",data:=.dict #[eN P "__module__" 283 (vs "rooftold.refusals" 274),eN P "__firstlineno__" 287 (vi 22 286),eN P "__static_attributes__" 288 (vr 89),eN P "__weakref__" 290 (vr 92),eN P "__doc__" 291 .none] 3}
def o91:Obj:={cls:=.type "type",data:=.cls {name:=Str.ofString "NoHouse",bases:=[.type "Exception"],mro:=[(vr 91),.type "Exception",.type "BaseException",.type "object"],ns:=90,qualname:=Str.ofString "NoHouse" },slots:=#[some ((vr 82)),none,some ((vs "NoHouse" 276)),some ((vs "NoHouse" 284)),some (.builtin "Exception.__new__"),some (.bool true)]}
def o92:Obj:={cls:=.type "getset_descriptor",data:=.fields #[(vs "__weakref__" 289),(vr 91),.builtin "ExceptionGroup.__weakref__",.none]}
def o93:Obj:={cls:=.type "super",data:=.fields #[(vr 91),(vr 91),(vr 91)]}
def o94:Obj:={cls:=.type "builtin_function_or_method",data:=.fields #[.builtin "object.__init_subclass__",(vr 91)]}
def o97(P:Params):Obj:={cls:=.type "dict",data:=.dict #[eN P "__module__" 303 (vs "rooftold.refusals" 274),eN P "__qualname__" 305 (vs "OutOfBounds" 304),eN P "__firstlineno__" 307 (vi 24 306),eN P "__static_attributes__" 308 (vr 102)] 4}
def XE:Obj:=oK #[(vs "OutOfBounds" 298),(vs "OutOfBounds" 299),(vs fl 300),(vi 24 0),(vi 0 0),(vi 0 0),(vi 0 0),(vi 0 0),(vr 98),.bool false,(vi 181 0),(vr 99),.none,.none,.none,.none,(vi 301 0),(vi 24 0),(vs fl 302)]
def XD:Obj:={cls:=.type "frame",slots:=#[some ((vr 100)),some ((vr 3)),some ((vr 97)),none,some ((vs "rooftold.refusals" 274)),none,some ((vr 0))]}
def SD(P:Params):Obj:={cls:=.type "dict",data:=.dict #[eN P "__module__" 303 (vs "rooftold.refusals" 274),eN P "__firstlineno__" 307 (vi 24 306),eN P "__static_attributes__" 308 (vr 102),eN P "__weakref__" 310 (vr 105),eN P "__doc__" 311 .none] 3}
def SA:Obj:={cls:=.type "type",data:=.cls {name:=Str.ofString "OutOfBounds",bases:=[.type "Exception"],mro:=[(vr 104),.type "Exception",.type "BaseException",.type "object"],ns:=103,qualname:=Str.ofString "OutOfBounds" },slots:=#[some ((vr 95)),none,some ((vs "OutOfBounds" 296)),some ((vs "OutOfBounds" 304)),some (.builtin "Exception.__new__"),some (.bool true)]}
def S9:Obj:={cls:=.type "getset_descriptor",data:=.fields #[(vs "__weakref__" 309),(vr 104),.builtin "ExceptionGroup.__weakref__",.none]}
def XC:Obj:={cls:=.type "super",data:=.fields #[(vr 104),(vr 104),(vr 104)]}
def XB:Obj:={cls:=.type "builtin_function_or_method",data:=.fields #[.builtin "object.__init_subclass__",(vr 104)]}
def X9(P:Params):Obj:={cls:=.type "dict",data:=.dict #[eN P "__module__" 323 (vs "rooftold.refusals" 274),eN P "__qualname__" 325 (vs "Outside" 324),eN P "__firstlineno__" 327 (vi 26 326),eN P "__static_attributes__" 328 (vr 115)] 4}
def X8:Obj:=oK #[(vs "Outside" 318),(vs "Outside" 319),(vs fl 320),(vi 26 0),(vi 0 0),(vi 0 0),(vi 0 0),(vi 0 0),(vr 111),.bool false,(vi 181 0),(vr 112),.none,.none,.none,.none,(vi 321 0),(vi 26 0),(vs fl 322)]
def X7:Obj:={cls:=.type "frame",slots:=#[some ((vr 113)),some ((vr 3)),some ((vr 110)),none,some ((vs "rooftold.refusals" 274)),none,some ((vr 0))]}
def S8(P:Params):Obj:={cls:=.type "dict",data:=.dict #[eN P "__module__" 323 (vs "rooftold.refusals" 274),eN P "__firstlineno__" 327 (vi 26 326),eN P "__static_attributes__" 328 (vr 115),eN P "__weakref__" 330 (vr 118),eN P "__doc__" 331 .none] 3}
def S7:Obj:={cls:=.type "type",data:=.cls {name:=Str.ofString "Outside",bases:=[.type "Exception"],mro:=[(vr 117),.type "Exception",.type "BaseException",.type "object"],ns:=116,qualname:=Str.ofString "Outside" },slots:=#[some ((vr 108)),none,some ((vs "Outside" 316)),some ((vs "Outside" 324)),some (.builtin "Exception.__new__"),some (.bool true)]}
def S6:Obj:={cls:=.type "getset_descriptor",data:=.fields #[(vs "__weakref__" 329),(vr 117),.builtin "ExceptionGroup.__weakref__",.none]}
def X6:Obj:={cls:=.type "super",data:=.fields #[(vr 117),(vr 117),(vr 117)]}
def X5:Obj:={cls:=.type "builtin_function_or_method",data:=.fields #[.builtin "object.__init_subclass__",(vr 117)]}
def X4(P:Params):Obj:={cls:=.type "dict",data:=.dict #[eN P "__module__" 343 (vs "rooftold.refusals" 274),eN P "__qualname__" 345 (vs "NoFace" 344),eN P "__firstlineno__" 347 (vi 28 346),eN P "__static_attributes__" 348 (vr 128)] 4}
def X3:Obj:=oK #[(vs "NoFace" 338),(vs "NoFace" 339),(vs fl 340),(vi 28 0),(vi 0 0),(vi 0 0),(vi 0 0),(vi 0 0),(vr 124),.bool false,(vi 181 0),(vr 125),.none,.none,.none,.none,(vi 341 0),(vi 28 0),(vs fl 342)]
def X2:Obj:={cls:=.type "frame",slots:=#[some ((vr 126)),some ((vr 3)),some ((vr 123)),none,some ((vs "rooftold.refusals" 274)),none,some ((vr 0))]}
def S5(P:Params):Obj:={cls:=.type "dict",data:=.dict #[eN P "__module__" 343 (vs "rooftold.refusals" 274),eN P "__firstlineno__" 347 (vi 28 346),eN P "__static_attributes__" 348 (vr 128),eN P "__weakref__" 350 (vr 131),eN P "__doc__" 351 .none] 3}
def S4:Obj:={cls:=.type "type",data:=.cls {name:=Str.ofString "NoFace",bases:=[.type "Exception"],mro:=[(vr 130),.type "Exception",.type "BaseException",.type "object"],ns:=129,qualname:=Str.ofString "NoFace" },slots:=#[some ((vr 121)),none,some ((vs "NoFace" 336)),some ((vs "NoFace" 344)),some (.builtin "Exception.__new__"),some (.bool true)]}
def S3:Obj:={cls:=.type "getset_descriptor",data:=.fields #[(vs "__weakref__" 349),(vr 130),.builtin "ExceptionGroup.__weakref__",.none]}
def X1:Obj:={cls:=.type "super",data:=.fields #[(vr 130),(vr 130),(vr 130)]}
def X0:Obj:={cls:=.type "builtin_function_or_method",data:=.fields #[.builtin "object.__init_subclass__",(vr 130)]}
def WZ(P:Params):Obj:={cls:=.type "dict",data:=.dict #[eN P "__module__" 363 (vs "rooftold.refusals" 274),eN P "__qualname__" 365 (vs "NoSize" 364),eN P "__firstlineno__" 367 (vi 30 366),eN P "__static_attributes__" 368 (vr 141)] 4}
def WY:Obj:=oK #[(vs "NoSize" 358),(vs "NoSize" 359),(vs fl 360),(vi 30 0),(vi 0 0),(vi 0 0),(vi 0 0),(vi 0 0),(vr 137),.bool false,(vi 181 0),(vr 138),.none,.none,.none,.none,(vi 361 0),(vi 30 0),(vs fl 362)]
def WX:Obj:={cls:=.type "frame",slots:=#[some ((vr 139)),some ((vr 3)),some ((vr 136)),none,some ((vs "rooftold.refusals" 274)),none,some ((vr 0))]}
def S0(P:Params):Obj:={cls:=.type "dict",data:=.dict #[eN P "__module__" 363 (vs "rooftold.refusals" 274),eN P "__firstlineno__" 367 (vi 30 366),eN P "__static_attributes__" 368 (vr 141),eN P "__weakref__" 370 (vr 144),eN P "__doc__" 371 .none] 3}
def RZ:Obj:={cls:=.type "type",data:=.cls {name:=Str.ofString "NoSize",bases:=[.type "Exception"],mro:=[(vr 143),.type "Exception",.type "BaseException",.type "object"],ns:=142,qualname:=Str.ofString "NoSize" },slots:=#[some ((vr 134)),none,some ((vs "NoSize" 356)),some ((vs "NoSize" 364)),some (.builtin "Exception.__new__"),some (.bool true)]}
def RY:Obj:={cls:=.type "getset_descriptor",data:=.fields #[(vs "__weakref__" 369),(vr 143),.builtin "ExceptionGroup.__weakref__",.none]}
def WW:Obj:={cls:=.type "super",data:=.fields #[(vr 143),(vr 143),(vr 143)]}
def WV:Obj:={cls:=.type "builtin_function_or_method",data:=.fields #[.builtin "object.__init_subclass__",(vr 143)]}
def WU:Obj:=oT #[(vs "tell" 379)]
def WT:Obj:=oG "answer_or_refusal" "answer_or_refusal" (tp 18)
def RX:Obj:=oC "answer_or_refusal" 376 32 1 3 147 181 148 149 150 151 380
def RW:Obj:=oF "answer_or_refusal" "answer_or_refusal" (tp 18) "rooftold.refusals" 274 152
def WS:Obj:=oT #[(vs "row" 404),(vs "mark" 405),(vs "parts" 406),(vs "part" 407),(vs "value" 408)]
def WR:Obj:=oG "parts_between" "parts_between" (tp 28)
def RV:Obj:=oC "parts_between" 401 54 2 3 154 181 155 156 157 158 409
def RU:Obj:=oF "parts_between" "parts_between" (tp 28) "rooftold.texts" 383 159
def WQ:Obj:=oT #[(vs "value" 415)]
def WO:Obj:=oG "digit_told" "digit_told" (tp 29)
def RS:Obj:=oC "digit_told" 412 65 1 3 161 181 162 163 164 165 416
def RR:Obj:=oF "digit_told" "digit_told" (tp 29) "rooftold.texts" 383 166
def WN:Obj:=oT #[(vs "row" 422),(vs "number" 423),(vs "value" 424)]
def WM:Obj:=oG "number_told" "number_told" (tp 30)
def RQ:Obj:=oC "number_told" 419 69 1 3 168 181 169 170 171 172 425
def RP:Obj:=oF "number_told" "number_told" (tp 30) "rooftold.texts" 383 173
def WL:Obj:=oG "corner_told" "corner_told" (tp 31)
def RO:Obj:=oK #[(vs "corner_told" 428),(vs "corner_told" 429),(vs fl 430),(vi 80 0),(vi 1 0),(vi 0 0),(vi 0 0),(vi 3 0),(vr 175),.bool true,(vi 181 0),(vr 176),.none,.none,.none,(vr 177),(vi 431 0),(vi 80 0),(vs fl 432)]
def RN:Obj:=oF "corner_told" "corner_told" (tp 31) "rooftold.texts" 383 178
def WK:Obj:=oG "walk_told" "walk_told" (tp 32)
def RL:Obj:=oK #[(vs "walk_told" 434),(vs "walk_told" 435),(vs fl 436),(vi 85 0),(vi 1 0),(vi 0 0),(vi 0 0),(vi 3 0),(vr 180),.bool true,(vi 181 0),(vr 181),.none,.none,.none,(vr 182),(vi 437 0),(vi 85 0),(vs fl 438)]
def RK:Obj:=oF "walk_told" "walk_told" (tp 32) "rooftold.texts" 383 183
def WJ:Obj:=oG "walks_told" "walks_told" (tp 33)
def RJ:Obj:=oK #[(vs "walks_told" 440),(vs "walks_told" 441),(vs fl 442),(vi 90 0),(vi 1 0),(vi 0 0),(vi 0 0),(vi 3 0),(vr 185),.bool true,(vi 181 0),(vr 186),.none,.none,.none,(vr 187),(vi 443 0),(vi 90 0),(vs fl 444)]
def RI:Obj:=oF "walks_told" "walks_told" (tp 33) "rooftold.texts" 383 188
def WI:Obj:=oT #[(vs "walks" 455),(vs "feet" 456),(vs "walk" 457),(vs "number" 458),(vs "corner" 459),(vs "before" 460),(vs "y" 461)]
def WH:Obj:=oG "feet_across_rows" "feet_across_rows" (tp 37)
def RH:Obj:=oC "feet_across_rows" 452 99 1 3 190 181 191 192 193 194 462
def RG:Obj:=oF "feet_across_rows" "feet_across_rows" (tp 37) "rooftold.plans" 446 195
def WG:Obj:=oT #[(vs "walks" 468),(vs "feet" 469),(vs "cells" 470),(vs "y" 471),(vs "inside" 472),(vs "x" 473)]
def WE:Obj:=oG "cells_within" "cells_within" (tp 38)
def RF:Obj:=oC "cells_within" 465 108 1 3 197 181 198 199 200 201 474
def RE:Obj:=oF "cells_within" "cells_within" (tp 38) "rooftold.plans" 446 202
def WD:Obj:=oT #[(vs "cells" 480),(vs "waiting" 481),(vs "reached" 482),(vs "cell" 483),(vs "side" 484)]
def WC:Obj:=oG "is_joined" "is_joined" (tp 39)
def RD:Obj:=oC "is_joined" 477 119 1 3 204 181 205 206 207 208 485
def RC:Obj:=oF "is_joined" "is_joined" (tp 39) "rooftold.plans" 446 209
def WB:Obj:=oT #[(vs "cell" 491),(vs "cells" 492),(vs "side" 493),(vs "near" 494),(vs "far" 495)]
def WA:Obj:=oG "meets_in_a_point" "meets_in_a_point" (tp 40)
def RB:Obj:=oC "meets_in_a_point" 488 129 2 3 211 181 212 213 214 215 496
def RA:Obj:=oF "meets_in_a_point" "meets_in_a_point" (tp 40) "rooftold.plans" 446 216
def W9:Obj:=oG "is_house" "is_house" (tp 41)
def R9:Obj:=oK #[(vs "is_house" 499),(vs "is_house" 500),(vs fl 501),(vi 136 0),(vi 1 0),(vi 0 0),(vi 0 0),(vi 3 0),(vr 218),.bool true,(vi 181 0),(vr 219),.none,.none,.none,(vr 220),(vi 502 0),(vi 136 0),(vs fl 503)]
def R8:Obj:=oF "is_house" "is_house" (tp 41) "rooftold.plans" 446 221
def W8:Obj:=oT #[(vs "cells" 508),(vs "headings" 509),(vs "cell" 510),(vs "side" 511)]
def W7:Obj:=oG "headings_along_walls" "headings_along_walls" (tp 42)
def R7:Obj:=oC "headings_along_walls" 505 142 1 3 223 181 224 225 226 227 512
def R6:Obj:=oF "headings_along_walls" "headings_along_walls" (tp 42) "rooftold.plans" 446 228
def W6:Obj:=oT #[(vs "start" 518),(vs "headings" 519),(vs "walked" 520),(vs "corners" 521),(vs "point" 522),(vs "came" 523),(vs "heading" 524)]
def W5:Obj:=oG "walk_from" "walk_from" (tp 43)
def R5:Obj:=oC "walk_from" 515 149 3 3 230 181 231 232 233 234 525
def R4:Obj:=oF "walk_from" "walk_from" (tp 43) "rooftold.plans" 446 235
def W4:Obj:=oT #[(vs "cells" 531),(vs "headings" 532),(vs "walks" 533),(vs "walked" 534),(vs "point" 535)]
def W3:Obj:=oG "walks_round" "walks_round" (tp 44)
def R1:Obj:=oC "walks_round" 528 161 1 3 237 181 238 239 240 241 536
def R0:Obj:=oF "walks_round" "walks_round" (tp 44) "rooftold.plans" 446 242
def W2:Obj:=oT #[(vs "t" 542),(vs "walks" 543),(vs "cells" 544)]
def W0:Obj:=oG "house_told" "house_told" (tp 45)
def QZ:Obj:=oC "house_told" 539 169 1 3 244 181 245 246 247 248 545
def QY:Obj:=oF "house_told" "house_told" (tp 45) "rooftold.plans" 446 249
def VZ:Obj:=oT #[(vs "cell" 553)]
def VY:Obj:=oG "is_in_plan" "is_in_plan" (tp 47)
def QX:Obj:=oC "is_in_plan" 550 176 1 3 251 181 252 253 254 255 554
def QW:Obj:=oF "is_in_plan" "is_in_plan" (tp 47) "rooftold.plots" 548 256
def VX:Obj:=oT #[(vs "cells" 560),(vs "found" 561),(vs "cell" 562),(vs "side" 563),(vs "near" 564)]
def VW:Obj:=oG "cells_to_build" "cells_to_build" (tp 48)
def QV:Obj:=oC "cells_to_build" 557 178 1 3 258 181 259 260 261 262 565
def QU:Obj:=oF "cells_to_build" "cells_to_build" (tp 48) "rooftold.plots" 548 263
def VU:Obj:=oT #[(vs "half" 571),(vs "depth" 572),(vs "reach" 573)]
def VT:Obj:=oG "next_square_about_half" "next_square_about_half" (tp 49)
def QT:Obj:=oC "next_square_about_half" 568 188 2 3 265 181 266 267 268 269 574
def QS:Obj:=oF "next_square_about_half" "next_square_about_half" (tp 49) "rooftold.plots" 548 270
def VS:Obj:=oT #[(vs "point" 580),(vs "height" 581),(vs "reach" 582)]
def VR:Obj:=oG "next_square_about_point" "next_square_about_point" (tp 50)
def QR:Obj:=oC "next_square_about_point" 577 191 2 3 272 181 273 274 275 276 583
def QQ:Obj:=oF "next_square_about_point" "next_square_about_point" (tp 50) "rooftold.plots" 548 277
def VQ:Obj:=oT #[(vs "face" 589),(vs "roof" 590),(vs "squares" 591),(vs "i" 592),(vs "j" 593),(vs "side" 594),(vs "half" 595),(vs "point" 596)]
def VP:Obj:=oG "next_squares_over" "next_squares_over" (tp 51)
def QP:Obj:=oC "next_squares_over" 586 194 2 3 279 181 280 281 282 283 597
def QO:Obj:=oF "next_squares_over" "next_squares_over" (tp 51) "rooftold.plots" 548 284
def VO:Obj:=oT #[(vs "low" 603),(vs "high" 604),(vs "cells" 605),(vs "wanting" 606),(vs "x" 607),(vs "y" 608)]
def VN:Obj:=oG "cells_wanting" "cells_wanting" (tp 52)
def QN:Obj:=oC "cells_wanting" 600 202 3 3 286 181 287 288 289 290 609
def QM:Obj:=oF "cells_wanting" "cells_wanting" (tp 52) "rooftold.plots" 548 291
def VM:Obj:=oT #[(vs "face" 615),(vs "roof" 616),(vs "touching" 617),(vs "low" 618),(vs "high" 619),(vs "wanting" 620)]
def VL:Obj:=oG "cells_that_touch" "cells_that_touch" (tp 53)
def QL:Obj:=oC "cells_that_touch" 612 209 2 3 293 181 294 295 296 297 621
def QK:Obj:=oF "cells_that_touch" "cells_that_touch" (tp 53) "rooftold.plots" 548 298
def VJ:Obj:=oG "free_cells" "free_cells" (tp 54)
def QJ:Obj:=oK #[(vs "free_cells" 624),(vs "free_cells" 625),(vs fl 626),(vi 216 0),(vi 2 0),(vi 0 0),(vi 0 0),(vi 3 0),(vr 300),.bool true,(vi 181 0),(vr 301),.none,.none,.none,(vr 302),(vi 627 0),(vi 216 0),(vs fl 628)]
def QI:Obj:=oF "free_cells" "free_cells" (tp 54) "rooftold.plots" 548 303
def QH:Obj:=oT #[(vi 0 632),(vi 0 633)]
def QG:Obj:=oT #[(vi 1 634),(vi 0 635)]
def QF:Obj:=oT #[(vi 0 636),(vi 1 637)]
def QE:Obj:=oT #[(vi 1 638),(vi 1 639)]
def QD:Obj:=oT #[(vr 305),(vr 306),(vr 307),(vr 308)]
def QC:Obj:=oT #[(vi (-1) 642),(vi (-1) 644)]
def QB:Obj:=oT #[(vi 0 645),(vi (-1) 647)]
def QA:Obj:=oT #[(vi 1 648),(vi (-1) 650)]
def Q9:Obj:=oT #[(vi (-1) 652),(vi 0 653)]
def Q8:Obj:=oT #[(vi 1 654),(vi 0 655)]
def Q7:Obj:=oT #[(vi (-1) 657),(vi 1 658)]
def Q6:Obj:=oT #[(vi 0 659),(vi 1 660)]
def Q5:Obj:=oT #[(vi 1 661),(vi 1 662)]
def Q4:Obj:=oT #[(vr 310),(vr 311),(vr 312),(vr 313),(vr 314),(vr 315),(vr 316),(vr 317)]
def Q3:Obj:=oT #[(vi (-1) 665),(vi (-1) 667)]
def Q2:Obj:=oT #[(vi 0 668),(vi (-1) 670)]
def Q1:Obj:=oT #[(vi (-1) 672),(vi 0 673)]
def Q0:Obj:=oT #[(vi 0 674),(vi 0 675)]
def PZ:Obj:=oT #[(vr 319),(vr 320),(vr 321),(vr 322)]
def VI:Obj:=oT #[(vs "cells" 680),(vs "found" 681),(vs "cell" 682),(vs "quarter" 683)]
def VH:Obj:=oG "half_cells_of" "half_cells_of" (tp 59)
def PY:Obj:=oC "half_cells_of" 677 223 1 3 324 181 325 326 327 328 684
def PX:Obj:=oF "half_cells_of" "half_cells_of" (tp 59) "rooftold.heights" 630 329
def VG:Obj:=oT #[(vs "half" 690),(vs "layer" 691),(vs "step" 692)]
def VF:Obj:=oG "is_deeper" "is_deeper" (tp 60)
def PV:Obj:=oC "is_deeper" 687 229 2 3 331 181 332 333 334 335 693
def PU:Obj:=oF "is_deeper" "is_deeper" (tp 60) "rooftold.heights" 630 336
def VE:Obj:=oG "depths_of" "depths_of" (tp 61)
def PR:Obj:=oK #[(vs "depths_of" 696),(vs "depths_of" 697),(vs fl 698),(vi 234 0),(vi 1 0),(vi 0 0),(vi 0 0),(vi 3 0),(vr 338),.bool true,(vi 181 0),(vr 339),.none,.none,.none,(vr 340),(vi 699 0),(vi 234 0),(vs fl 700)]
def PQ:Obj:=oF "depths_of" "depths_of" (tp 61) "rooftold.heights" 630 341
def VD:Obj:=oG "height_over" "height_over" (tp 62)
def PN:Obj:=oK #[(vs "height_over" 702),(vs "height_over" 703),(vs fl 704),(vi 245 0),(vi 2 0),(vi 0 0),(vi 0 0),(vi 3 0),(vr 343),.bool true,(vi 181 0),(vr 344),.none,.none,.none,(vr 345),(vi 705 0),(vi 245 0),(vs fl 706)]
def PM:Obj:=oF "height_over" "height_over" (tp 62) "rooftold.heights" 630 346
def VC:Obj:=oT #[(vs "depths" 711),(vs "heights" 712),(vs "half" 713),(vs "side" 714),(vs "point" 715)]
def VB:Obj:=oG "heights_of" "heights_of" (tp 63)
def PL:Obj:=oC "heights_of" 708 247 1 3 348 181 349 350 351 352 716
def PJ:Obj:=oF "heights_of" "heights_of" (tp 63) "rooftold.heights" 630 353
def VA(P:Params):Obj:={cls:=.type "dict",data:=.dict #[eN P "__module__" 728 (vs "rooftold.roofs" 719),eN P "__qualname__" 730 (vs "Roof" 729),eN P "__firstlineno__" 732 (vi 256 731),eN P "__init__" 740 (vr 368),eN P "__static_attributes__" 747 (vr 369)] 5}
def V9:Obj:={cls:=.none,data:=.fields #[(vi 258 0),(vi 4 0),(vr 367)]}
def V8:Obj:=oK #[(vs "Roof" 723),(vs "Roof" 724),(vs fl 725),(vi 256 0),(vi 0 0),(vi 0 0),(vi 0 0),(vi 0 0),(vr 358),.bool false,(vi 181 0),(vr 359),.none,.none,.none,.none,(vi 726 0),(vi 256 0),(vs fl 727)]
def V7:Obj:={cls:=.type "frame",slots:=#[some ((vr 360)),some ((vr 3)),some ((vr 357)),none,some ((vs "rooftold.roofs" 719)),none,some ((vr 0))]}
def V6:Obj:=oT #[(vs "self" 736),(vs "cells" 737)]
def V5:Obj:=oG "__init__" "Roof.__init__" (ic (tp 65) 0)
def PH:Obj:=oK #[(vs "__init__" 733),(vs "Roof.__init__" 734),(vs fl 735),(vi 258 0),(vi 2 0),(vi 0 0),(vi 0 0),(vi 3 0),(vr 362),.bool true,(vi 181 0),(vr 363),.none,(vr 364),(vr 365),(vr 366),(vi 738 0),(vi 258 0),(vs fl 739)]
def PF:Obj:=oF "__init__" "Roof.__init__" (ic (tp 65) 0) "rooftold.roofs" 719 367
def V4:Obj:=oT #[(vs "cells" 741),(vs "depths" 742),(vs "faces" 743),(vs "facings" 744),(vs "heights" 745),(vs "numbers" 746)]
def PD(P:Params):Obj:={cls:=.type "dict",data:=.dict #[eN P "__module__" 728 (vs "rooftold.roofs" 719),eN P "__firstlineno__" 732 (vi 256 731),eN P "__init__" 740 (vr 368),eN P "__static_attributes__" 747 (vr 369),eN P "__dict__" 749 (vr 372),eN P "__weakref__" 751 (vr 373),eN P "__doc__" 752 .none] 4}
def PB:Obj:={cls:=.type "type",data:=.cls {name:=Str.ofString "Roof",bases:=[.type "object"],mro:=[(vr 371),.type "object"],ns:=370,qualname:=Str.ofString "Roof" },slots:=#[none,none,some ((vs "Roof" 721)),some ((vs "Roof" 729)),some (.builtin "object.__new__"),some (.bool true)]}
def P9:Obj:={cls:=.type "getset_descriptor",data:=.fields #[(vs "__dict__" 748),(vr 371),.builtin "function.__dict__",.builtin "function.__dict__#set"]}
def P8:Obj:={cls:=.type "getset_descriptor",data:=.fields #[(vs "__weakref__" 750),(vr 371),.builtin "ExceptionGroup.__weakref__",.none]}
def V3:Obj:={cls:=.type "super",data:=.fields #[(vr 371),(vr 371),(vr 371)]}
def V2:Obj:={cls:=.type "builtin_function_or_method",data:=.fields #[.builtin "object.__init_subclass__",(vr 371)]}
def V1:Obj:=oT #[(vs "half" 758),(vs "side" 759),(vs "depth" 760),(vs "heights" 761),(vs "start_is_low" 762),(vs "end_is_low" 763)]
def V0:Obj:=oG "facing_of" "facing_of" (tp 66)
def P7:Obj:=oC "facing_of" 755 265 4 3 376 181 377 378 379 380 764
def P6:Obj:=oF "facing_of" "facing_of" (tp 66) "rooftold.roofs" 719 381
def UZ:Obj:=oT #[(vs "depths" 770),(vs "heights" 771),(vs "facings" 772),(vs "half" 773),(vs "depth" 774),(vs "side" 775)]
def UY:Obj:=oG "facings_of" "facings_of" (tp 67)
def P5:Obj:=oC "facings_of" 767 275 2 3 383 181 384 385 386 387 776
def P4:Obj:=oF "facings_of" "facings_of" (tp 67) "rooftold.roofs" 719 388
def UX:Obj:=oT #[(vs "triangle" 782),(vs "i" 783),(vs "j" 784),(vs "side" 785),(vs "across" 786)]
def UW:Obj:=oG "triangle_across" "triangle_across" (tp 68)
def P2:Obj:=oC "triangle_across" 779 281 1 3 390 181 391 392 393 394 787
def P1:Obj:=oF "triangle_across" "triangle_across" (tp 68) "rooftold.roofs" 719 395
def UU:Obj:=oT #[(vs "triangle" 793),(vs "i" 794),(vs "j" 795),(vs "side" 796)]
def UT:Obj:=oG "triangle_on_left" "triangle_on_left" (tp 69)
def P0:Obj:=oC "triangle_on_left" 790 285 1 3 397 181 398 399 400 401 797
def OZ:Obj:=oF "triangle_on_left" "triangle_on_left" (tp 69) "rooftold.roofs" 719 402
def US:Obj:=oT #[(vs "triangle" 803),(vs "i" 804),(vs "j" 805),(vs "side" 806)]
def UR:Obj:=oG "triangle_on_right" "triangle_on_right" (tp 70)
def OY:Obj:=oC "triangle_on_right" 800 288 1 3 404 181 405 406 407 408 807
def OX:Obj:=oF "triangle_on_right" "triangle_on_right" (tp 70) "rooftold.roofs" 719 409
def UQ:Obj:=oT #[(vs "first" 813),(vs "number" 814),(vs "facings" 815),(vs "numbers" 816),(vs "facing" 817),(vs "waiting" 818),(vs "triangle" 819)]
def UP:Obj:=oG "number_face" "number_face" (tp 71)
def OW:Obj:=oC "number_face" 810 291 4 3 411 181 412 413 414 415 820
def OV:Obj:=oF "number_face" "number_face" (tp 71) "rooftold.roofs" 719 416
def UO:Obj:=oT #[(vs "facings" 826),(vs "numbers" 827),(vs "count" 828),(vs "triangle" 829)]
def UN:Obj:=oG "numbers_of" "numbers_of" (tp 72)
def OU:Obj:=oC "numbers_of" 823 301 1 3 418 181 419 420 421 422 830
def OT:Obj:=oF "numbers_of" "numbers_of" (tp 72) "rooftold.roofs" 719 423
def UM:Obj:=oT #[(vs "numbers" 836),(vs "faces" 837),(vs "triangle" 838),(vs "number" 839)]
def UL:Obj:=oG "faces_of" "faces_of" (tp 73)
def OS:Obj:=oC "faces_of" 833 309 1 3 425 181 426 427 428 429 840
def OR:Obj:=oF "faces_of" "faces_of" (tp 73) "rooftold.roofs" 719 430
def UK:Obj:=oT #[(vs "t" 848)]
def UJ:Obj:=oG "roof_told" "roof_told" (tp 75)
def OQ:Obj:=oC "roof_told" 845 317 1 3 432 181 433 434 435 436 849
def OP:Obj:=oF "roof_told" "roof_told" (tp 75) "rooftold.desk" 843 437
def UI:Obj:=oT #[(vs "k" 855),(vs "t" 856),(vs "told" 857)]
def UH:Obj:=oG "roof_with_face" "roof_with_face" (tp 76)
def OO:Obj:=oC "roof_with_face" 852 319 2 3 439 181 440 441 442 443 858
def ON:Obj:=oF "roof_with_face" "roof_with_face" (tp 76) "rooftold.desk" 843 444
def UG:Obj:=oT #[(vs "k" 864),(vs "t" 865),(vs "told" 866)]
def UE:Obj:=oG "free_cells_told" "free_cells_told" (tp 77)
def OM:Obj:=oC "free_cells_told" 861 324 2 3 446 181 447 448 449 450 867
def OL:Obj:=oF "free_cells_told" "free_cells_told" (tp 77) "rooftold.desk" 843 451
def UD:Obj:=oT #[(vs "rows" 873),(vs "answer" 874),(vs "row" 875)]
def UC:Obj:=oG "counted" "counted" (tp 78)
def OK:Obj:=oC "counted" 870 327 1 3 453 181 454 455 456 457 876
def OJ:Obj:=oF "counted" "counted" (tp 78) "rooftold.desk" 843 458
def UB:Obj:=oT #[(vs "k" 882),(vs "t" 883)]
def UA:Obj:=oT #[(vs "k" 884),(vs "t" 885)]
def U9:Obj:=oG "free" "free" (tp 79)
def OI:Obj:=oC "free" 879 332 2 3 460 181 461 462 463 464 886
def OH:Obj:=oF "free" "free" (tp 79) "rooftold.desk" 843 465
def hpK:Params->Frag:=fun P=>(nat_lit 2,o2 P)::(nat_lit 3,o3 P)::(nat_lit 15,o15)::(nat_lit 16,o16)::(nat_lit 17,o17)::(nat_lit 18,o18)::(nat_lit 19,o19)::(nat_lit 20,o20)::(nat_lit 21,o21)::(nat_lit 22,o22)::(nat_lit 23,o23)::(nat_lit 24,o24)::(nat_lit 25,o25)::(nat_lit 31,o31)::(nat_lit 32,o32)::(nat_lit 38,o38)::(nat_lit 39,o39)::(nat_lit 45,o45)::(nat_lit 46,o46)::(nat_lit 52,o52)::(nat_lit 53,o53)::(nat_lit 59,o59)::(nat_lit 60,o60)::(nat_lit 66,o66)::(nat_lit 67,o67)::(nat_lit 73,o73)::(nat_lit 74,o74)::(nat_lit 80,o80)::(nat_lit 81,o81)::(nat_lit 82,o82)::(nat_lit 90,o90 P)::(nat_lit 91,o91)::(nat_lit 92,o92)::(nat_lit 95,o82)::(nat_lit 103,SD P)::(nat_lit 104,SA)::(nat_lit 105,S9)::(nat_lit 108,o82)::(nat_lit 116,S8 P)::(nat_lit 117,S7)::(nat_lit 118,S6)::(nat_lit 121,o82)::(nat_lit 129,S5 P)::(nat_lit 130,S4)::(nat_lit 131,S3)::(nat_lit 134,o82)::(nat_lit 142,S0 P)::(nat_lit 143,RZ)::(nat_lit 144,RY)::(nat_lit 152,RX)::(nat_lit 153,RW)::(nat_lit 159,RV)::(nat_lit 160,RU)::(nat_lit 166,RS)::(nat_lit 167,RR)::(nat_lit 173,RQ)::(nat_lit 174,RP)::(nat_lit 178,RO)::(nat_lit 179,RN)::(nat_lit 183,RL)::(nat_lit 184,RK)::(nat_lit 188,RJ)::(nat_lit 189,RI)::(nat_lit 195,RH)::(nat_lit 196,RG)::(nat_lit 202,RF)::(nat_lit 203,RE)::(nat_lit 209,RD)::(nat_lit 210,RC)::(nat_lit 216,RB)::(nat_lit 217,RA)::(nat_lit 221,R9)::(nat_lit 222,R8)::(nat_lit 228,R7)::(nat_lit 229,R6)::(nat_lit 235,R5)::(nat_lit 236,R4)::(nat_lit 242,R1)::(nat_lit 243,R0)::(nat_lit 249,QZ)::(nat_lit 250,QY)::(nat_lit 256,QX)::(nat_lit 257,QW)::(nat_lit 263,QV)::(nat_lit 264,QU)::(nat_lit 270,QT)::(nat_lit 271,QS)::(nat_lit 277,QR)::(nat_lit 278,QQ)::(nat_lit 284,QP)::(nat_lit 285,QO)::(nat_lit 291,QN)::(nat_lit 292,QM)::(nat_lit 298,QL)::(nat_lit 299,QK)::(nat_lit 303,QJ)::(nat_lit 304,QI)::(nat_lit 305,QH)::(nat_lit 306,QG)::(nat_lit 307,QF)::(nat_lit 308,QE)::(nat_lit 309,QD)::(nat_lit 310,QC)::(nat_lit 311,QB)::(nat_lit 312,QA)::(nat_lit 313,Q9)::(nat_lit 314,Q8)::(nat_lit 315,Q7)::(nat_lit 316,Q6)::(nat_lit 317,Q5)::(nat_lit 318,Q4)::(nat_lit 319,Q3)::(nat_lit 320,Q2)::(nat_lit 321,Q1)::(nat_lit 322,Q0)::(nat_lit 323,PZ)::(nat_lit 329,PY)::(nat_lit 330,PX)::(nat_lit 336,PV)::(nat_lit 337,PU)::(nat_lit 341,PR)::(nat_lit 342,PQ)::(nat_lit 346,PN)::(nat_lit 347,PM)::(nat_lit 353,PL)::(nat_lit 354,PJ)::(nat_lit 367,PH)::(nat_lit 368,PF)::(nat_lit 370,PD P)::(nat_lit 371,PB)::(nat_lit 372,P9)::(nat_lit 373,P8)::(nat_lit 381,P7)::(nat_lit 382,P6)::(nat_lit 388,P5)::(nat_lit 389,P4)::(nat_lit 395,P2)::(nat_lit 396,P1)::(nat_lit 402,P0)::(nat_lit 403,OZ)::(nat_lit 409,OY)::(nat_lit 410,OX)::(nat_lit 416,OW)::(nat_lit 417,OV)::(nat_lit 423,OU)::(nat_lit 424,OT)::(nat_lit 430,OS)::(nat_lit 431,OR)::(nat_lit 437,OQ)::(nat_lit 438,OP)::(nat_lit 444,OO)::(nat_lit 445,ON)::(nat_lit 451,OM)::(nat_lit 452,OL)::(nat_lit 458,OK)::(nat_lit 459,OJ)::(nat_lit 465,OI)::(nat_lit 466,OH)::[]
def as:List Addr:=[2,3,15,16,17,18,19,20,21,22,23,24,25,31,32,38,39,45,46,52,53,59,60,66,67,73,74,80,81,82,90,91,92,95,103,104,105,108,116,117,118,121,129,130,131,134,142,143,144,152,153,159,160,166,167,173,174,178,179,183,184,188,189,195,196,202,203,209,210,216,217,221,222,228,229,235,236,242,243,249,250,256,257,263,264,270,271,277,278,284,285,291,292,298,299,303,304,305,306,307,308,309,310,311,312,313,314,315,316,317,318,319,320,321,322,323,329,330,336,337,341,342,346,347,353,354,367,368,370,371,372,373,381,382,388,389,395,396,402,403,409,410,416,417,423,424,430,431,437,438,444,445,451,452,458,459,465,466]
theorem hkE:∀P,as=(hpK P).map (·.1):=fun _=>by kernel_rfl
def H1(P:Params):Heap:={objs:={toList:=[boot_o_0 P,boot_o_1 P,o2 P,o3 P,boot_o_4 P,boot_o_5 P,boot_o_6 P,boot_o_7 P,boot_o_8 P,boot_o_9 P,boot_o_10 P,o11,o12,o13,o14,o15,o16,o17,o18,o19,o20,o21,o22,o23,o24,o25,o11,o27,o28,o11,o30,o31,o32,o11,o27,o35,o11,o37,o38,o39,o11,o27,o42,o11,o44,o45,o46,o11,o27,o49,o11,o51,o52,o53,o11,o27,o56,o11,o58,o59,o60,o11,o27,o63,o11,o65,o66,o67,o11,o27,o70,o11,o72,o73,o74,o11,o27,o77,o11,o79,o80,o81,o82,o83,o84 P,o11,o27,o87,o88,o11,o90 P,o91,o92,o93,o94,o82,o83,o97 P,o11,o27,XE,XD,o11,SD P,SA,S9,XC,XB,o82,o83,X9 P,o11,o27,X8,X7,o11,S8 P,S7,S6,X6,X5,o82,o83,X4 P,o11,o27,X3,X2,o11,S5 P,S4,S3,X1,X0,o82,o83,WZ P,o11,o27,WY,WX,o11,S0 P,RZ,RY,WW,WV,o11,o27,WU,o11,WT,RX,RW,o11,o27,WS,o11,WR,RV,RU,o11,o27,WQ,o11,WO,RS,RR,o11,o27,WN,o11,WM,RQ,RP,o11,o27,WL,RO,RN,o11,o27,WK,RL,RK,o11,o27,WJ,RJ,RI,o11,o27,WI,o11,WH,RH,RG,o11,o27,WG,o11,WE,RF,RE,o11,o27,WD,o11,WC,RD,RC,o11,o27,WB,o11,WA,RB,RA,o11,o27,W9,R9,R8,o11,o27,W8,o11,W7,R7,R6,o11,o27,W6,o11,W5,R5,R4,o11,o27,W4,o11,W3,R1,R0,o11,o27,W2,o11,W0,QZ,QY,o11,o27,VZ,o11,VY,QX,QW,o11,o27,VX,o11,VW,QV,QU,o11,o27,VU,o11,VT,QT,QS,o11,o27,VS,o11,VR,QR,QQ,o11,o27,VQ,o11,VP,QP,QO,o11,o27,VO,o11,VN,QN,QM,o11,o27,VM,o11,VL,QL,QK,o11,o27,VJ,QJ,QI,QH,QG,QF,QE,QD,QC,QB,QA,Q9,Q8,Q7,Q6,Q5,Q4,Q3,Q2,Q1,Q0,PZ,o11,o27,VI,o11,VH,PY,PX,o11,o27,VG,o11,VF,PV,PU,o11,o27,VE,PR,PQ,o11,o27,VD,PN,PM,o11,o27,VC,o11,VB,PL,PJ,o11,o83,VA P,o11,V9,V8,V7,o11,o27,V6,o11,V5,PH,PF,V4,PD P,PB,P9,P8,V3,V2,o11,o27,V1,o11,V0,P7,P6,o11,o27,UZ,o11,UY,P5,P4,o11,o27,UX,o11,UW,P2,P1,o11,o27,UU,o11,UT,P0,OZ,o11,o27,US,o11,UR,OY,OX,o11,o27,UQ,o11,UP,OW,OV,o11,o27,UO,o11,UN,OU,OT,o11,o27,UM,o11,UL,OS,OR,o11,o27,UK,o11,UJ,OQ,OP,o11,o27,UI,o11,UH,OO,ON,o11,o27,UG,o11,UE,OM,OL,o11,o27,UD,o11,UC,OK,OJ,o11,o27,UB,UA,U9,OI,OH]}}
def vw:Program:=view PySem.Challenge.pw_rooftold_s13_free [1,2,3,4,5,6,7,8,9,10,11,13,14,15,16,17,18,20,21,22,23,24,25,26,27,28,29,30,31,32,33,35,36,37,38,39,40,41,42,43,44,45,47,48,49,50,51,52,53,54,56,57,58,59,60,61,62,63,65,66,67,68,69,70,71,72,73,75,76,77,78,79]
abbrev xt(s:Shared):Bool:=xlAt vw [] s&& recOk [] s
theorem run:∀w os,topRun treeTable PySem.Challenge.rw_rooftold_s13_free.prog w 11 (some (.ref 6)) 6400 {heap:=boot_heap w.params,gens:=Array.mk [],drawn:=boot_drawn,toks:=boot_toks,os:=os} (topStub PySem.Challenge.rw_rooftold_s13_free.prog)=some {heap:=H1 w.params,gens:=Array.mk [],drawn:=boot_drawn,toks:=889,os:=os}:=by intro w os;kernel_rfl
theorem left:LeftO PySem.Challenge.rw_rooftold_s13_free.prog vw [] xt (Hook.obs (kHook hpK as hkE)) (Hook.val (kHook hpK as hkE)) 6400:=by refine LeftO.of_pieces (M:=6400) (boot_open (by kernel_rfl) (by decide) (fun s=>by kernel_rfl)) (fun w=>by kernel_rfl) run (by decide) (fun w=>?_);funext os;kernel_rfl
end
end HP
namespace L2
open PySem PySem.Spec PyProof.Rows
abbrev Key:=Sum Int Str
noncomputable def qV:Key->Value->Bool
 | .inl k,v=>Value.isInt k v
 | .inr x,v=>Value.isStrOf x v
def XJ(w:World):Key->Int
 | .inl k=>hashInt k
 | .inr x=>hashStr w x
theorem cE:∀{k:Key}{v:Value},qV k v=true->(∃i t,k=Sum.inl i/\v=Value.int i t)\/(∃x t,k=Sum.inr x/\v=Value.str x t)
 | .inl i,v,h=>by obtain⟨t,e⟩:=Value.isInt_shape (k:=i) (v:=v) h;exact .inl ⟨i,t,rfl,e⟩
 | .inr x,v,h=>by obtain⟨t,e⟩:=Value.isStrOf_shape (x:=x) (v:=v) h;exact .inr ⟨x,t,rfl,e⟩
theorem F3(i:Int)(t:Tok):qV (.inl i) (.int i t)=true:=by simp[qV,Value.isInt]
theorem F2(x:Str)(t:Tok):qV (.inr x) (.str x t)=true:=by simp[qV,Value.isStrOf]
theorem MV(a b:Int):decide ((Sum.inl a:Key)=Sum.inl b)=(a==b):=by
 by_cases e:a=b
 ·subst e;simp
 ·have h:¬(Sum.inl a:Key)=Sum.inl b:=fun q=>e (Sum.inl.inj q)
  rw[decide_eq_false h];exact(beq_eq_false_iff_ne.mpr e).symm
theorem MS(a b:Str):decide ((Sum.inr a:Key)=Sum.inr b)=decide (a=b):=by
 by_cases e:a=b
 ·subst e;simp
 ·have h:¬(Sum.inr a:Key)=Sum.inr b:=fun q=>e (Sum.inr.inj q)
  rw[decide_eq_false h,decide_eq_false e]
theorem MU(a:Int)(b:Str):decide ((Sum.inl a:Key)=Sum.inr b)=false:=decide_eq_false (fun q=>nomatch q)
theorem MT(a:Str)(b:Int):decide ((Sum.inr a:Key)=Sum.inl b)=false:=decide_eq_false (fun q=>nomatch q)
noncomputable def c6(prog:Program)(w:World):PySem.KeyKind prog w Key where
 is:=qV
 hash:=XJ w
 inj:=fun v a b ha hb=>by
  rcases cE ha with⟨i,t,rfl,rfl⟩|⟨x,t,rfl,rfl⟩
  ·rcases cE hb with⟨j,u,rfl,e⟩|⟨y,u,rfl,e⟩
   ·injection e with e1 _;rw[e1]
   ·exact nomatch e
  ·rcases cE hb with⟨j,u,rfl,e⟩|⟨y,u,rfl,e⟩
   ·exact nomatch e
   ·injection e with e1 _;rw[e1]
 byValue:=fun k v h=>by rcases cE h with⟨i,t,rfl,rfl⟩|⟨x,t,rfl,rfl⟩<;>rfl
 pyHash:=fun hv h=>by
  rcases cE hv with⟨i,t,rfl,rfl⟩|⟨x,t,rfl,rfl⟩
  ·exact wpAny_pyHash_int h
  ·exact wpAny_pyHash_str h
 eqBool:=fun hu hv h=>by
  rcases cE hu with⟨i,t,rfl,rfl⟩|⟨x,t,rfl,rfl⟩
  ·rcases cE hv with⟨j,u,rfl,rfl⟩|⟨y,u,rfl,rfl⟩
   ·rw[MV]at h;exact wpAny_eqBool_int h
   ·rw[MU]at h;exact SeqAt.EqAt.int_str i t y u _ _ _ _ h
  ·rcases cE hv with⟨j,u,rfl,rfl⟩|⟨y,u,rfl,rfl⟩
   ·rw[MT]at h;exact SeqAt.EqAt.str_int x t j u _ _ _ _ h
   ·rw[MS]at h;exact wpAny_eqBool_str h
 «strs» :=fun k x t v h=>by
  rcases cE h with⟨i,u,rfl,e⟩|⟨y,u,rfl,e⟩
  ·exact nomatch e
  ·injection e with e1 _
   subst e1;cases v<;>rfl
theorem zC(prog:Program)(w:World)(i:Int)(t:Tok):(c6 prog w).is (.inl i) (.int i t)=true:=F3 i t
theorem zB(prog:Program)(w:World)(x:Str)(t:Tok):(c6 prog w).is (.inr x) (.str x t)=true:=F2 x t
inductive V where
 |non|bl (b:Bool)|int (i:Int)|str (x:Str)|byt (b:Array UInt8)|flt (b:UInt64)|ref (a:Addr)|ty (n:String)
 deriving DecidableEq
noncomputable def RelV:V->Value->Prop
 | .non,u=>u=Value.none
 | .bl b,u=>u=Value.bool b
 | .int i,u=>∃t,u=Value.int i t
 | .str x,u=>∃t,u=Value.str x t
 | .byt b,u=>∃t,u=Value.bytes b t
 | .flt b,u=>∃t,u=Value.float b t
 | .ref a,u=>u=Value.ref a
 | .ty n,u=>u=Value.type n
abbrev Vals:List V->List Value->Prop:=Paired RelV
theorem Vals.length{xs:List V}{us:List Value}(r:Vals xs us):xs.length=us.length:=Paired.length r
theorem Vals.get:∀{xs:List V}{us:List Value}{i:Nat}{x:V},Vals xs us->xs[i]? =some x->∃u,us[i]? =some u/\RelV x u
 |_,_,_,_,.nil,e=>by simp at e
 |_,_,0,_,.cons r _,e=>by simp at e;subst e;exact⟨_,rfl,r⟩
 |_,_,i+1,x,.cons _ t,e=>by obtain⟨u,h1,h2⟩:=Vals.get (i:=i) (x:=x) t (by simpa using e);exact⟨u,by simpa using h1,h2⟩
theorem Vals.append:∀{xs ys:List V}{us ws:List Value},Vals xs us->Vals ys ws->Vals (xs++ys) (us++ws)
 |_,_,_,_,.nil,s=>s
 |_,_,_,_,.cons r t,s=>.cons r (Vals.append t s)
theorem Vals.take:∀{xs:List V}{us:List Value}(n:Nat),Vals xs us->Vals (xs.take n) (us.take n)
 |_,_,0,_=>.nil
 |_,_,_+1,.nil=>.nil
 |_,_,n+1,.cons r t=>.cons r (Vals.take n t)
theorem Vals.drop:∀{xs:List V}{us:List Value}(n:Nat),Vals xs us->Vals (xs.drop n) (us.drop n)
 |_,_,0,r=>r
 |_,_,_+1,.nil=>.nil
 |_,_,n+1,.cons _ t=>Vals.drop n t
noncomputable def mZ:Option V->Option Value->Prop
 |some v,some u=>RelV v u
 |none,none=>True
 |_,_=>False
noncomputable def KV{κ:Type}:List (κ×V)->List (κ×Value)->Prop:=Paired fun(p:κ×V)(q:κ×Value)=>p.1=q.1/\RelV p.2 q.2
def kV:Key->V
 | .inl i=>.int i
 | .inr x=>.str x
inductive HO where
 |lst (xs:List V)
 |tup (xs:List V)
 |dK (kvs:List (Key×V))|dT (kvs:List (List Key×V))
 |set (S:Int->Bool) (n:Nat)
 |ins (C dx:Addr) (fs:List (Str×V))
 |own (x:Addr)
 |xd (fs:List (Str×V))
 |met (f x:Addr)
 |rng (lo hi:Int)
 |frz (o:Obj) (u:HO)
 |tbl (ps:Array Value)
 |ext (φ:Heap->Prop)
abbrev Hp:=Addr->Option HO
def upd(H:Hp)(a:Addr)(o:HO):Hp:=fun b=>if b=a then some o else H b
theorem a8{H:Hp}{a:Addr}{o:HO}:upd H a o a=some o:=by unfold upd;rw[ah rfl]
theorem aB{H:Hp}{a b:Addr}{o:HO}(h:b≠a):upd H a o b=H b:=by unfold upd;rw[af h]
theorem fE{H:Hp}{a b:Addr}{o u:HO}(h:H a=some o)(h':H b=some u)(d:o≠u):a≠b:=by intro e;subst e;rw[h]at h';exact d (Option.some.inj h')
theorem aJ{H:Hp}{a b:Addr}{o:HO}(h:H a=some o)(h':H b=none):a≠b:=by intro e;subst e;rw[h]at h';cases h'
section
variable (P:Program) (w:World)
noncomputable def cO(H:Hp)(h:Heap)(a:Addr):HO->Prop
 | .lst xs=>xs.length<=sizeLine/\∃(its:List Value)(n:Nat),Vals xs its/\h.get? a=some {cls:=.type "list",data:=.seq its.toArray n}
 | .tup xs=>xs.length<=sizeLine/\∃its:List Value,Vals xs its/\IsTup h a its.toArray
 | .dK kvs=>kvs.length<=sizeLine/\(a==sysModules)=false/\∃vs,KV kvs vs/\h.DictOf (c6 P w) a vs
 | .dT kvs=>kvs.length<=sizeLine/\(a==sysModules)=false/\∃xs:List (List Key×Addr×Value),
   Paired (fun(p:List Key×V)(q:List Key×Addr×Value)=>p.1=q.1/\H q.2.1=some (.tup (p.1.map kV))/\RelV p.2 q.2.2) kvs xs/\
   ∃o es ep,h.get? a=some o/\o.ExactDict/\o.data=.dict es ep/\es.toList=xs.map (entryOfKey (tupleKind (c6 P w)))/\(xs.map (·.1)).Nodup
 | .set S n=>h.SetOf (intKind P w) a S n
 | .ins C dx fs=>H dx=some (.own a)/\fs.length<=1000/\dx≠a/\h.get? a=some (W.instObj C dx)/\
   ∃mA,h.Ns1 dx mA/\(∀f,mZ (fs.lookup f) (mA f))/\PySem.Within mA (fs.map (·.1))
 | .own _=>∃o,h.get? a=some o
 | .xd fs=>∃mA,h.Ns1 a mA/\∀f,mZ (fs.lookup f) (mA f)
 | .rng lo hi=>∃t u v,h.get? a=some {cls:=.type "range",data:=.fields #[.int lo t,.int hi u,.int 1 v]}
 | .frz o u=>h.get? a=some o/\cO H h a u
 | .tbl ps=>h.get? a=some {cls:=.none,data:=.fields ps}
 | .met f x=>h.get? a=some (W.methodObj (.ref f) (.ref x))
 | .ext φ=>φ h/\(∃o,h.get? a=some o)/\∀h1 h2:Heap,φ h1->(∀o,h1.get? a=some o->h2.get? a=some o)->φ h2
def HOk(H:Hp)(h:Heap):Prop:=∀a o,H a=some o->cO P w H h a o
end
section
variable {P:Program}{w:World}{H H':Hp}{h h':Heap}{a:Addr}{o:HO}
theorem cO.lt(x:cO P w H h a o):a<h.objs.size:=by
 cases o with
 |lst xs=>obtain⟨_,_,_,_,e⟩:=x;exact bq e
 |tup xs=>obtain⟨_,_,_,p⟩:=x;exact p.lt
 |dK kvs=>obtain⟨_,_,_,_,o,_,_,e,_⟩:=x;exact bq e
 |dT kvs=>obtain⟨_,_,_,_,o,_,_,e,_⟩:=x;exact bq e
 |set S n=>obtain⟨o,_,_,_,e,_⟩:=x;exact bq e
 |ins C dx fs=>obtain⟨_,_,_,e,_⟩:=x;exact bq e
 |own y=>obtain⟨_,e⟩:=x;exact bq e
 |xd fs=>obtain⟨_,⟨_,_,_,e,_⟩,_⟩:=x;exact bq e
 |rng lo hi=>obtain⟨_,_,_,e⟩:=x;exact bq e
 |frz ob u=>obtain⟨e,_⟩:=x;exact bq e
 |tbl ps=>exact bq (show h.get? a=some _ from x)
 |met f y=>exact bq (show h.get? a=some _ from x)
 |ext φ=>obtain⟨_,⟨_,e⟩,_⟩:=x;exact bq e
theorem Paired.K7{α β:Type}{F G:α->β->Prop}:∀{l₁:List α}{l₂:List β},Paired F l₁ l₂->(∀a b,F a b->G a b)->Paired G l₁ l₂
 |_,_,.nil,_=>.nil
 |_,_,.cons r t,f=>.cons (f _ _ r) (Paired.K7 t f)
theorem cO.nH(x:cO P w H h a o)(k:∀b u,(b=a\/H b=some (.own a))->h.get? b=some u->h'.get? b=some u)
  (ho:∀b,H b=some (.own a)->H' b=some (.own a)) (ht:∀b xs,H b=some (.tup xs)->H' b=some (.tup xs)):cO P w H' h' a o:=by
 induction o with
 |lst xs=>obtain⟨z,its,n,r,e⟩:=x;exact⟨z,its,n,r,k _ _ (.inl rfl) e⟩
 |tup xs=>obtain⟨z,its,r,ob,e,c⟩:=x;exact⟨z,its,r,ob,k _ _ (.inl rfl) e,c⟩
 |dK kvs=>obtain⟨z,y,vs,r,ob,es,ep,e,c⟩:=x;exact⟨z,y,vs,r,ob,es,ep,k _ _ (.inl rfl) e,c⟩
 |dT kvs=>obtain⟨z,y,xs,r,ob,es,ep,e,c⟩:=x;exact⟨z,y,xs,Paired.K7 r fun p q z=>⟨z.1,ht _ _ z.2.1,z.2.2⟩,ob,es,ep,k _ _ (.inl rfl) e,c⟩
 |set S n=>obtain⟨ob,es,ep,t,e,c⟩:=x;exact⟨ob,es,ep,t,k _ _ (.inl rfl) e,c⟩
 |ins C dx fs=>obtain⟨d,z,ne,e,mA,⟨od,es,ep,e2,c⟩,r⟩:=x;exact⟨ho _ d,z,ne,k _ _ (.inl rfl) e,mA,⟨od,es,ep,k _ _ (.inr d) e2,c⟩,r⟩
 |own y=>obtain⟨ob,e⟩:=x;exact⟨ob,k _ _ (.inl rfl) e⟩
 |xd fs=>obtain⟨mA,⟨od,es,ep,e,c⟩,r⟩:=x;exact⟨mA,⟨od,es,ep,k _ _ (.inl rfl) e,c⟩,r⟩
 |rng lo hi=>obtain⟨t,u,v,e⟩:=x;exact⟨t,u,v,k _ _ (.inl rfl) e⟩
 |frz ob u ih=>obtain⟨e,q⟩:=x;exact⟨k _ _ (.inl rfl) e,ih q⟩
 |tbl ps=>
  have e:h.get? a=some {cls:=.none,data:=.fields ps}:=x;show h'.get? a=some {cls:=.none,data:=.fields ps}
  exact k a _ (.inl rfl) e
 |met f y=>
  have e:h.get? a=some (W.methodObj (.ref f) (.ref y)):=x;show h'.get? a=some (W.methodObj (.ref f) (.ref y))
  exact k a _ (.inl rfl) e
 |ext φ=>obtain⟨p,⟨o,e⟩,st⟩:=x;exact⟨st _ _ p fun o q=>k _ _ (.inl rfl) q,⟨o,k _ _ (.inl rfl) e⟩,st⟩
theorem HOk.lt(x:HOk P w H h)(e:H a=some o):a<h.objs.size:=(x a o e).lt
theorem HOk.fresh(x:HOk P w H h)(e:h.objs.size<=a):H a=none:=by
 cases q:H a with
 |none=>rfl
 |some u=>exact absurd (bw (x.lt q) e) (gk _)
theorem HOk.kept(x:HOk P w H h)(k:∀b u,h.get? b=some u->h'.get? b=some u):HOk P w H h':=fun a o e=>
 (x a o e).nH (fun b u _ q=>k b u q) (fun _ q=>q) fun _ _ q=>q
theorem HOk.laid(x:HOk P w H h)(k:∀b u,h.get? b=some u->h'.get? b=some u)(hp:h.objs.size<=a)(new:cO P w (upd H a o) h' a o):HOk P w (upd H a o) h':=fun b u e=>by
 have hn:=x.fresh hp;by_cases hb:b=a
 ·subst hb;rw[a8]at e;cases e;exact new
 ·rw[aB hb]at e;exact(x b u e).nH (fun c v _ q=>k c v q) (fun c q=>by rw[aB (aJ q hn)];exact q) fun c xs q=>by rw[aB (aJ q hn)];exact q
end
def Rd(H:Hp)(a:Addr)(u:HO):Prop:=H a=some u\/∃o,H a=some (.frz o u)
theorem Rd.ok{P:Program}{w:World}{H:Hp}{h:Heap}{a:Addr}{u:HO}(r:Rd H a u)(x:HOk P w H h):cO P w H h a u:=by
 rcases r with r|⟨o,r⟩
 ·exact x a u r
 ·obtain⟨_,q⟩:=x a _ r;exact q
noncomputable def Mut:Option HO->Prop
 |some (.lst _)=>True
 |some (.dK _)=>True
 |some (.dT _)=>True
 |some (.set _ _)=>True
 |some (.ins _ _ _)=>True
 |some (.ext _)=>True
 |_=>False
section
variable {P:Program}{w:World}{H:Hp}{h h':Heap}{x e:Addr}{o':HO}
theorem HOk.write(ok:HOk P w H h)(mu:Mut (H x))(he:e=x\/H e=some (.own x))(k:∀b u,b≠e->h.get? b=some u->h'.get? b=some u)(wa:∃u,h'.get? e=some u)
  (new:cO P w (upd H x o') h' x o'):HOk P w (upd H x o') h':=fun b u q=>by
 have Bd:∀c y,H c=some (.own y)->c≠x:=fun c y r z=>by subst z;rw[r]at mu;exact mu
 have ntup:∀c xs,H c=some (.tup xs)->c≠x:=fun c xs r z=>by subst z;rw[r]at mu;exact mu
 by_cases hb:b=x
 ·subst hb;rw[a8]at q;cases q;exact new
 ·rw[aB hb]at q;by_cases hbe:b=e
  ·have q':H b=some (.own x):=by
    rcases he with z|z
    ·exact absurd (hbe.trans z) hb
    ·rw[hbe];exact z
   rw[q]at q';cases q';obtain⟨v,hv⟩:=wa;exact⟨v,by rw[hbe];exact hv⟩
  ·refine(ok b u q).nH (fun c v hc r=>k c v ?_ r) (fun c r=>by rw[aB (Bd c b r)];exact r) fun c xs r=>by rw[aB (ntup c xs r)];exact r
   rcases hc with rfl|hc
   ·exact hbe
   ·rintro rfl;rcases he with z|z
    ·exact Bd c b hc z
    ·rw[hc]at z;cases z;exact hb rfl
end
structure Un(fs ex:List Addr)(H H':Hp)(h h':Heap):Prop where
 keep:∀b o,h.get? b=some o->H b=none->b∉fs->b∉ex->h'.get? b=some o
 slot:∀b o,h.get? b=some o->H b=none->b∈fs->b∉ex->∃sl,h'.get? b=some {o with slots:=sl}
 free:∀b o,h.get? b=some o->H b=none->b∉ex->H' b=none
 there:∀b o,h.get? b=some o->b∉ex->∃o',h'.get? b=some o'
 kD:∀b xs,H b=some (.tup xs)->H' b=some (.tup xs)
 oJ:∀b o u,H b=some (.frz o u)->H' b=some (.frz o u)
 rY:∀b ps,H b=some (.tbl ps)->∃more,H' b=some (.tbl (ps++more))
section
variable {fs fs' ex ex':List Addr}{H H1 H2:Hp}{h h1 h2 h':Heap}{a x e:Addr}{o:HO}
theorem Un.any(u:Un fs ex H H1 h h1){b:Addr}{ob:Obj}(q:h.get? b=some ob)(n:H b=none)(hx:b∉ex):∃sl,h1.get? b=some {ob with slots:=sl}:=by
 by_cases hb:b∈fs
 ·exact u.slot b ob q n hb hx
 ·exact⟨ob.slots,u.keep b ob q n hb hx⟩
theorem Un.kept(k:∀b u,h.get? b=some u->h'.get? b=some u):Un fs ex H H h h':=
 ⟨fun b ob q _ _ _=>k b ob q,fun b ob q _ _ _=>⟨ob.slots,k b ob q⟩,fun _ _ _ n _=>n,fun b ob q _=>⟨ob,k b ob q⟩,fun _ _ q=>q,fun _ _ _ q=>q,fun _ ps q=>⟨#[],by rw[q];simp⟩⟩
theorem Un.refl:Un fs ex H H h h:=Un.kept fun _ _ q=>q
theorem Un.laid(k:∀b u,h.get? b=some u->h'.get? b=some u)(hp:h.objs.size<=a)(hn:H a=none):Un fs ex H (upd H a o) h h' where
 keep:=fun b u q _ _ _=>k b u q
 slot:=fun b u q _ _ _=>⟨u.slots,k b u q⟩
 free:=fun b u q n _=>by rw[aB (cv (bw (bq q) hp))];exact n
 there:=fun b u q _=>⟨u,k b u q⟩
 kD:=fun b xs q=>by rw[aB (aJ q hn)];exact q
 oJ:=fun b u xs q=>by rw[aB (aJ q hn)];exact q
 rY:=fun b ps q=>⟨#[],by rw[aB (aJ q hn),q];simp⟩
theorem Un.write(mu:Mut (H x))(he:e=x\/H e=some (.own x))(k:∀b u,b≠e->h.get? b=some u->h'.get? b=some u)(wa:∃u,h'.get? e=some u):Un fs ex H (upd H x o) h h':=by
 have hx:∀b,H b=none->b≠x:=fun b n z=>by subst z;rw[n]at mu;exact mu
 have hb:∀b,H b=none->b≠e:=fun b n z=>by
  subst z;rcases he with r|r
  ·exact hx b n r
  ·rw[n]at r;cases r
 have hm:∀b u,H b=some u->¬Mut (some u)->b≠x:=fun b u q nm z=>by subst z;rw[q]at mu;exact nm mu
 refine⟨fun b u q n _ _=>k b u (hb b n) q,fun b u q n _ _=>⟨u.slots,k b u (hb b n) q⟩,fun b u q n _=>by rw[aB (hx b n)];exact n,fun b u q _=>?_,
  fun b xs q=>by rw[aB (hm b _ q fun z=>z)];exact q,fun b u xs q=>by rw[aB (hm b _ q fun z=>z)];exact q,fun b ps q=>⟨#[],by rw[aB (hm b _ q fun z=>z),q];simp⟩⟩
 by_cases hbe:b=e
 ·subst hbe;exact wa
 ·exact⟨u,k b u hbe q⟩
end
def trk(h:Heap)(H:Hp):List Addr:=(List.range h.objs.size).filter fun a=>(H a).isSome
def xI(h:Heap)(H:Hp):Heap:=W.hideAll h (trk h H)
theorem F5(h:Heap)(H:Hp):(xI h H).objs.size=h.objs.size:=W.hideAll_size _ _
theorem IH{h:Heap}{H:Hp}{b:Addr}{o:Obj}(e:h.get? b=some o)(n:H b=none):(xI h H).get? b=some o:=
 W.hideAll_get _ e fun hm=>by have q:(H b).isSome=true:=(br.mp hm).2;rw[n]at q;simp at q
theorem K2{h:Heap}{H:Hp}{b:Addr}{o:Obj}(e:(xI h H).get? b=some o):h.get? b=some o/\H b=none:=by
 have e':h.get? b=some o:=W.of_hideAll (trk h H) e;refine⟨e',?_⟩;cases q:H b with
 |none=>rfl
 |some x=>have hm:b∈trk h H:=br.mpr ⟨gu.mpr (bq e'),by simp[q]⟩;have z:(xI h H).get? b=none:=W.hideAll_none (trk h H) hm;rw[z]at e;cases e
structure Mod(K:W.Frag)(mg:Str->Option Value)(base:Heap):Prop where
 kin:K.In base
 glob:base.Ns mainGlobals mg
 blt:∃mb,base.Ns builtinsNs mb/\∀x:Str,x≠ "__name__" ->mb x=bootBuiltins x
 nolimit:base.NoLimit
structure Cx where
 prog:Program
 w:World
 K:W.Frag
 mg:Str->Option Value
 base:Heap
 A:Around
 N:List Str
 s_0:Shared
 H_0:Hp
 env:Env
 outer:List Env
 stack:List Env
 ex:List Addr
 fn:Str->Bool
 calm:Bool
 pn:List (Addr×Obj)
 xe:Value->Shared->Prop
def frs(l:List Env):List Addr:=l.filterMap (·.frame)
abbrev Cx.fs(X:Cx):List Addr:=frs X.outer
noncomputable def Vis(sc:Scope)(x:Str):Prop:=sc.names.lookup x=some .local\/sc.names.lookup x=some .cell\/sc.names.lookup x=some .free
noncomputable def Loc(sc:Scope)(x:Str):Prop:=sc.names.lookup x=some .local\/sc.names.lookup x=some .cell
noncomputable def Look(env:Env)(h:Heap)(m:Str->Option Value)(x:Str)(u:Value):Prop:=
 (env.kindOf x=some .local/\m x=some u)\/((env.kindOf x=some .cell\/env.kindOf x=some .free)/\∃c,env.cells.lookup x=some c/\h.IsCell c (some u))
structure Cx.Ok(X:Cx):Prop where
 mod:Mod X.K X.mg X.base
 kind:X.env.scope.kind=.function
 glob:X.env.globals=mainGlobals
 blt:X.env.builtins=builtinsNs
 above:X.s_0.heap.objs.size<=X.env.locals
 inj:∀x y c,X.env.cells.lookup x=some c->X.env.cells.lookup y=some c->x=y
 has:∀x,(X.env.kindOf x=some .cell\/X.env.kindOf x=some .free)->∃c,X.env.cells.lookup x=some c
 cab:∀x c,X.fn x=true->X.env.cells.lookup x=some c->X.s_0.heap.objs.size<=c
 hd:X.calm=true->X.A.handled=none
 frames:X.A.frames=some X.stack
 stk:X.stack=X.outer\/(X.stack=X.env::X.outer/\X.env.frame=some X.env.locals)
 exf:∀b∈X.ex,b≠X.env.locals/\∀x c,X.env.cells.lookup x=some c->c≠b
 bs:∀b o,X.base.get? b=some o->X.s_0.heap.get? b=some o/\X.H_0 b=none
 bsz:X.base.objs.size<=X.s_0.heap.objs.size
 HR:∀b o,X.base.get? b=some o->b∉X.ex
 CF:∀b∈X.ex,b∉X.fs
 kW:X.s_0.heap.FunFrames X.base X.outer
 frf:∀b∈X.fs,X.H_0 b=none
structure Inv(X:Cx)(jj:List (Addr×Obj))(σ:List (Option V))(H:Hp)(s:Shared):Prop where
 ok:X.Ok
 os:s.os=X.s_0.os
 bare:AllBare s.gens
 base:Un X.fs X.ex X.H_0 H X.s_0.heap s.heap
 loc:∃m,s.heap.Ns X.env.locals m/\∀(i:Nat)(x:Str)(v:V),X.N[i]? =some x->σ[i]? =some (some v)->Vis X.env.scope x->∃u,RelV v u/\Look X.env s.heap m x u
 cell:∀x c,X.env.cells.lookup x=some c->∃v,s.heap.IsCell c v
 free:H X.env.locals=none
 hY:∀x c,X.env.cells.lookup x=some c->H c=none
 pin:∀p∈X.pn++jj,s.heap.get? p.1=some p.2/\H p.1=none/\p.1≠X.env.locals/\p.1∉X.fs/\∀v,p.2.data≠ .cell v
 hok:HOk X.prog X.w H s.heap
 len:σ.length=X.N.length
section
variable {X:Cx}{jj:List (Addr×Obj)}{σ:List (Option V)}{H H':Hp}{s:Shared}{h':Heap}
theorem Cx.Ok.XG(ok:X.Ok){b:Addr}{o:Obj}(e:X.base.get? b=some o):b∉X.fs:=fun hb=>by have:=(ok.kW.mem hb).1;rw[e]at this;cases this
theorem Inv.bs(I:Inv X jj σ H s):∀b o,X.base.get? b=some o->s.heap.get? b=some o/\H b=none:=fun b o e=>
 ⟨I.base.keep b o (I.ok.bs b o e).1 (I.ok.bs b o e).2 (I.ok.XG e) (I.ok.HR b o e),I.base.free b o (I.ok.bs b o e).1 (I.ok.bs b o e).2 (I.ok.HR b o e)⟩
theorem Inv.bk(I:Inv X jj σ H s):∀b o,X.base.get? b=some o->s.heap.get? b=some o:=fun b o e=>(I.bs b o e).1
theorem Inv.mod(I:Inv X jj σ H s):Mod X.K X.mg X.base:=I.ok.mod
theorem Inv.kIn(I:Inv X jj σ H s):X.K.In s.heap:=I.ok.mod.kin.keeps I.bk
theorem Inv.lt(I:Inv X jj σ H s):X.env.locals<s.heap.objs.size:=let⟨_,hn,_⟩:=I.loc;hn.lt
theorem Inv.sz(I:Inv X jj σ H s):X.s_0.heap.objs.size<=s.heap.objs.size:=de I.ok.above (le_of_lt I.lt)
theorem Inv.XF(I:Inv X jj σ H s){a:Addr}(h:s.heap.objs.size<=a):a∉X.fs:=fun hb=>by obtain⟨_,o,ho,_⟩:=I.ok.kW.mem hb;exact absurd (bw (bq ho) (de I.sz h)) (gk _)
theorem Inv.cne(I:Inv X jj σ H s):∀x c,X.env.cells.lookup x=some c->c≠X.env.locals:=fun x c e z=>by obtain⟨v,o,ho,hd⟩:=I.cell x c e;obtain⟨m,⟨o',es,ep,rm,we,_⟩,_⟩:=I.loc;rw[z,rm]at ho;cases ho;rw[we]at hd;cases hd
theorem Inv.kW(I:Inv X jj σ H s):s.heap.FunFrames X.base X.outer:=by
 have all:∀(l:List Env),(∀b∈frs l,b∈X.fs)->X.s_0.heap.FunFrames X.base l->s.heap.FunFrames X.base l:=by
  intro l;induction l with
  |nil=>intro _ _;trivial
  |cons env r ih=>
   intro hs hl;obtain⟨hk,⟨L,o,hf,hn,ho,hd⟩,hr⟩:=hl;have hL:L∈X.fs:=hs L (by unfold frs;rw[fg,hf];exact bb);obtain⟨sl,e⟩:=I.base.slot L o ho (I.ok.frf L hL) hL fun z=>I.ok.CF L z hL
   exact⟨hk,⟨L,_,hf,hn,e,hd⟩,ih (fun b hb=>hs b (by unfold frs;rw[fg,hf];exact ar _ hb)) hr⟩
 exact all X.outer (fun _ hb=>hb) I.ok.kW
theorem Inv.stack(I:Inv X jj σ H s):s.heap.FunFrames X.base X.stack:=by
 rcases I.ok.stk with e|⟨e,hf⟩
 ·rw[e];exact I.kW
 ·rw[e];obtain⟨m,hn,_⟩:=I.loc;refine .cons (by rw[I.ok.kind];decide) hf hn ?_ I.kW;exact Heap.get?_none_of_le (de I.ok.bsz I.ok.above)
theorem Inv.sC(I:Inv X jj σ H s):∀b∈frs X.stack,b∈X.env.locals::X.fs:=fun b hb=>by
 rcases I.ok.stk with e|⟨e,hf⟩
 ·rw[e]at hb;exact ar _ hb
 ·rw[e]at hb;unfold frs at hb;rw[fg,hf]at hb;exact hb
theorem Inv.wO(I:Inv X jj σ H s):∀b∈frs X.stack,H b=none:=fun b hb=>by
 rcases ak.mp (I.sC b hb)with e|hb
 ·rw[e];exact I.free
 ·obtain⟨_,o,ho,_⟩:=I.ok.kW.mem hb;exact I.base.free b o ho (I.ok.frf b hb) fun z=>I.ok.CF b z hb
theorem Inv.step{g':Array GenState}{t':Nat}{d':Drawn}{ch:List Addr}(I:Inv X jj σ H s)
  (uj:∀b∈ch,(b∈X.ex\/X.s_0.heap.objs.size<=b)/\b≠X.env.locals/\(∀x c,X.env.cells.lookup x=some c->c≠b)/\∀p∈X.pn++jj,p.1≠b)
  (keep:∀b o,b≠X.env.locals->b∉X.fs->b∉ch->s.heap.get? b=some o->H b=none->h'.get? b=some o)
  (slot:∀b o,b≠X.env.locals->b∈X.fs->b∉ch->s.heap.get? b=some o->H b=none->∃sl,h'.get? b=some {o with slots:=sl}) (free:∀b o,b∉ch->s.heap.get? b=some o->H b=none->H' b=none)
  (there:∀b o,b∉ch->s.heap.get? b=some o->∃o',h'.get? b=some o')
  (kD:∀b xs,H b=some (.tup xs)->H' b=some (.tup xs)) (oJ:∀b o u,H b=some (.frz o u)->H' b=some (.frz o u)) (rY:∀b ps,H b=some (.tbl ps)->∃more,H' b=some (.tbl (ps++more)))
  (ns:∀m,s.heap.Ns X.env.locals m->h'.Ns X.env.locals m) (hok:HOk X.prog X.w H' h') (hg:AllBare g'):
  Inv X jj σ H' {s with heap:=h',gens:=g',drawn:=d',toks:=t'}:=by
 have neL:∀b o,X.s_0.heap.get? b=some o->b≠X.env.locals:=fun b o e=>cv (bw (bq e) I.ok.above)
 have neC:∀b o,X.s_0.heap.get? b=some o->b∉X.ex->b∉ch:=fun b o e hx hb=>by
  rcases(uj b hb).1 with z|z
  ·exact hx z
  ·exact absurd (bw (bq e) z) (gk _)
 have xu:∀x c,X.env.cells.lookup x=some c->∀v,s.heap.IsCell c v->h'.IsCell c v:=fun x c e v ⟨o,ho,hd⟩=>by
  have yj:c∉ch:=fun z=>(uj c z).2.2.1 x c e rfl
  by_cases hc:c∈X.fs
  ·obtain⟨sl,q⟩:=slot c o (I.cne x c e) hc yj ho (I.hY x c e);exact⟨_,q,hd⟩
  ·exact⟨o,keep c o (I.cne x c e) hc yj ho (I.hY x c e),hd⟩
 refine⟨I.ok,I.os,hg,⟨fun b o e n hb hx=>?_,fun b o e n hb hx=>?_,fun b o e n hx=>?_,fun b o e hx=>?_,fun b xs e=>kD b xs (I.base.kD b xs e),fun b o xs e=>oJ b o xs (I.base.oJ b o xs e),fun b ps e=>?_⟩,?_,fun x c e=>?_,?_,fun x c e=>?_,fun p hp=>?_,hok,I.len⟩
 ·exact keep b o (neL b o e) hb (neC b o e hx) (I.base.keep b o e n hb hx) (I.base.free b o e n hx)
 ·obtain⟨sl,e1⟩:=I.base.slot b o e n hb hx;obtain⟨sl',e2⟩:=slot b _ (neL b o e) hb (neC b o e hx) e1 (I.base.free b o e n hx);exact⟨sl',e2⟩
 ·obtain⟨o',e1⟩:=I.base.there b o e hx;exact free b o' (neC b o e hx) e1 (I.base.free b o e n hx)
 ·obtain⟨o',e1⟩:=I.base.there b o e hx;exact there b o' (neC b o e hx) e1
 ·obtain⟨m1,e1⟩:=I.base.rY b ps e;obtain⟨m2,e2⟩:=rY b _ e1;exact⟨m1++m2,by rw[e2,Array.append_assoc]⟩
 ·obtain⟨m,hn,hl⟩:=I.loc;refine⟨m,ns m hn,fun i x v e1 e2 e3=>?_⟩;obtain⟨u,r,l⟩:=hl i x v e1 e2 e3;refine⟨u,r,?_⟩;rcases l with l|⟨k,c,e,z⟩
  ·exact .inl l
  ·exact .inr ⟨k,c,e,xu x c e _ z⟩
 ·obtain⟨v,z⟩:=I.cell x c e;exact⟨v,xu x c e v z⟩
 ·obtain⟨m,⟨o,_,_,ho,_⟩,_⟩:=I.loc;exact free _ o (fun z=>(uj _ z).2.1 rfl) ho I.free
 ·obtain⟨v,o,ho,hd⟩:=I.cell x c e;exact free c o (fun z=>(uj c z).2.2.1 x c e rfl) ho (I.hY x c e)
 ·obtain⟨e,n,ne,nf,d⟩:=I.pin p hp;have yj:p.1∉ch:=fun z=>(uj p.1 z).2.2.2 p hp rfl
  exact⟨keep p.1 p.2 ne nf yj e n,free p.1 p.2 yj e n,ne,nf,d⟩
theorem Inv.un{t':Nat}(I:Inv X jj σ H s)(u:Un X.fs [] H H' s.heap h')(hok:HOk X.prog X.w H' h'):Inv X jj σ H' {s with heap:=h',toks:=t'}:=by
 obtain⟨m,⟨o,es,ep,ho,r⟩,_⟩:=id I.loc;obtain⟨sl,hL⟩:=u.any ho I.free (by simp);exact I.step (g':=s.gens) (d':=s.drawn) (ch:=[]) (fun _ z=>nomatch z) (fun b o _ hb _ e n=>u.keep b o e n hb (by simp)) (fun b o _ hb _ e n=>u.slot b o e n hb (by simp)) (fun b o _ e n=>u.free b o e n (by simp)) (fun b o _ e=>u.there b o e (by simp)) u.kD u.oJ u.rY (fun m' hm=>by
  obtain⟨o',rf,rg,rm,r'⟩:=hm;rw[ho]at rm;cases rm;exact⟨_,rf,rg,hL,r'⟩) hok I.bare
theorem Inv.call{g':Array GenState}{t':Nat}{d':Drawn}{ch:List Addr}(I:Inv X jj σ H s)(u:Un (frs X.stack) ch H H' s.heap h')(hok:HOk X.prog X.w H' h')(hg:AllBare g')
  (uj:∀b∈ch,(b∈X.ex\/X.s_0.heap.objs.size<=b)/\b≠X.env.locals/\(∀x c,X.env.cells.lookup x=some c->c≠b)/\∀p∈X.pn++jj,p.1≠b):
  Inv X jj σ H' {s with heap:=h',gens:=g',drawn:=d',toks:=t'}:=by
 obtain⟨m,⟨o,es,ep,ho,r⟩,_⟩:=id I.loc;obtain⟨sl,hL⟩:=u.any ho I.free fun z=>(uj _ z).2.1 rfl
 exact I.step (ch:=ch) uj (fun b o hL hb hc e n=>u.keep b o e n (fun z=>(ak.mp (I.sC b z)).elim hL hb) hc) (fun b o _ _ hc e n=>u.any e n hc) (fun b o hc e n=>u.free b o e n hc) (fun b o hc e=>u.there b o e hc) u.kD u.oJ u.rY (fun m' hm=>by
  obtain⟨o',rf,rg,rm,r'⟩:=hm;rw[ho]at rm;cases rm;exact⟨_,rf,rg,hL,r'⟩) hok hg
theorem Inv.turned{t':Nat}{it:Addr}(I:Inv X jj σ H s)(k:∀b o,b≠it->s.heap.get? b=some o->h'.get? b=some o)(hn:H it=none)(hL:it≠X.env.locals)
  (h1:it∈X.ex\/X.s_0.heap.objs.size<=it) (h2:∀x c,X.env.cells.lookup x=some c->c≠it) (h3:∀p∈X.pn++jj,p.1≠it):Inv X jj σ H {s with heap:=h',toks:=t'}:=by
 have Be:∀b u,H b=some u->b≠it:=fun b u e z=>by rw[z,hn]at e;cases e
 refine I.step (g':=s.gens) (d':=s.drawn) (ch:=[it]) (fun b hb=>?_) (fun b o _ _ hc e _=>k b o (fun z=>hc (by simp[z])) e) (fun b o _ _ hc e _=>⟨o.slots,k b o (fun z=>hc (by simp[z])) e⟩) (fun _ _ _ _ n=>n)
  (fun b o hc e=>⟨o,k b o (fun z=>hc (by simp[z])) e⟩) (fun _ _ e=>e) (fun _ _ _ e=>e) (fun b ps e=>⟨#[],by rw[e];simp⟩) (fun m hm=>?_) (fun b u e=>?_) I.bare
 ·have e:b=it:=by simpa using hb
  subst e;exact⟨h1,hL,h2,h3⟩
 ·obtain⟨o,es,ep,ho,r⟩:=hm;exact⟨o,es,ep,k _ o (Ne.symm hL) ho,r⟩
 ·refine(I.hok b u e).nH (fun c v hc q=>k c v ?_ q) (fun _ q=>q) fun _ _ q=>q
  rcases hc with z|z
  ·rw[z];exact Be b u e
  ·exact Be c _ z
theorem Inv.tok(I:Inv X jj σ H s)(t:Nat):Inv X jj σ H {s with toks:=t}:=I.un (h':=s.heap) (t':=t) Un.refl I.hok
theorem Inv.kept{t':Nat}(I:Inv X jj σ H s)(k:∀b u,s.heap.get? b=some u->h'.get? b=some u):Inv X jj σ H {s with heap:=h',toks:=t'}:=I.un (Un.kept k) (I.hok.kept k)
theorem Inv.laid{a:Addr}{o:HO}{t':Nat}(I:Inv X jj σ H s)(k:∀b u,s.heap.get? b=some u->h'.get? b=some u)(hp:s.heap.objs.size<=a)(new:cO X.prog X.w (upd H a o) h' a o):
  Inv X jj σ (upd H a o) {s with heap:=h',toks:=t'}:=I.un (Un.laid k hp (I.hok.fresh hp)) (I.hok.laid k hp new)
theorem Inv.write{x e:Addr}{o:HO}{t':Nat}(I:Inv X jj σ H s)(mu:Mut (H x))(he:e=x\/H e=some (.own x))(k:∀b u,b≠e->s.heap.get? b=some u->h'.get? b=some u)(wa:∃u,h'.get? e=some u)
  (new:cO X.prog X.w (upd H x o) h' x o):Inv X jj σ (upd H x o) {s with heap:=h',toks:=t'}:=I.un (Un.write mu he k wa) (I.hok.write mu he k wa new)
theorem Inv.weak{σ':List (Option V)}(I:Inv X jj σ H s)(hl:σ'.length=σ.length)(w:∀(i:Nat) v,σ'[i]? =some (some v)->σ[i]? =some (some v)):Inv X jj σ' H s:=
 ⟨I.ok,I.os,I.bare,I.base,let⟨m,hn,zg⟩:=I.loc;⟨m,hn,fun i x v e1 e2 e3=>zg i x v e1 (w i v e2) e3⟩,I.cell,I.free,I.hY,I.pin,I.hok,hl.trans I.len⟩
theorem Inv.D8{wz:List (Addr×Obj)}(I:Inv X jj σ H s)(h:∀p∈wz,s.heap.get? p.1=some p.2/\H p.1=none/\p.1≠X.env.locals/\p.1∉X.fs/\∀v,p.2.data≠ .cell v):Inv X wz σ H s:=
 ⟨I.ok,I.os,I.bare,I.base,I.loc,I.cell,I.free,I.hY,fun p hp=>(aw.mp hp).elim (fun z=>I.pin p (cc _ z)) (h p),I.hok,I.len⟩
theorem sY{N:List Str}(hN:N.Nodup){i j:Nat}{x:Str}(a:N[i]? =some x)(b:N[j]? =some x):i=j:=by obtain⟨h1,e1⟩:=aq.mp a;obtain⟨h2,e2⟩:=aq.mp b;exact(List.getElem_inj hN).mp (e1.trans e2.symm)
theorem pC{M:Model}{A:Around}{E:Value->Shared->Prop}{i:Nat}{x:Str}{v:V}{u:Value}{Q:Unit->Shared->Prop}(I:Inv X jj σ H s)(hN:X.N.Nodup)(hi:X.N[i]? =some x)(hx:Loc X.env.scope x)(r:RelV v u)
  (h:∀s',Inv X jj (σ.set i (some v)) H s'->(∃a,Heap.SameBut a s.heap s'.heap/\(a=X.env.locals\/X.env.cells.lookup x=some a))->Q () s') (hf:X.fn x=true\/X.env.scope.names.lookup x=some .local:=by first|exact .inl rfl|exact .inr rfl|assumption):wpAny M A (storeName X.env x u) Q E s:=by
 obtain⟨m,hn,hl⟩:=id I.loc;have px:(X.env.scope.kind== .class||(X.env.scope.kind== .module&& X.env.locals !=X.env.globals))=false:=by rw[I.ok.kind];rfl
 have hiσ:i<σ.length:=by rw[I.len];exact(aq.mp hi).1
 have cne:=I.cne;have qp:∀{a:Addr}{h':Heap},(∃o,s.heap.get? a=some o/\H a=none)->Heap.SameBut a s.heap h'->HOk X.prog X.w H h':=fun{a h'} ha hs b ob e=>by
  obtain⟨_,_,kn⟩:=ha;refine(I.hok b ob e).nH (fun c w' hc q=>(hs.2 c ?_).trans q) (fun _ q=>q) fun _ _ q=>q
  rintro rfl;rcases hc with rfl|hc
  ·rw[kn]at e;cases e
  ·rw[kn]at hc;cases hc
 rcases hx with hk|hk
 ·refine wpAny_storeName_local hk hn (fun h' tm hs=>?_) px;obtain⟨oL,_,_,Bw,_⟩:=id hn;refine h _ ⟨I.ok,I.os,I.bare,⟨fun b o e n hb hx=>?_,fun b o e n hb hx=>?_,I.base.free,fun b o e hx=>?_,I.base.kD,I.base.oJ,I.base.rY⟩,⟨_,tm,fun j y v' e1 e2 e3=>?_⟩,fun y c e=>?_,I.free,I.hY,fun p hp=>?_,qp ⟨oL,Bw,I.free⟩ hs,by simpa using I.len⟩ ⟨_,hs,.inl rfl⟩
  ·exact(hs.2 b (cv (bw (bq e) I.ok.above))).trans (I.base.keep b o e n hb hx)
  ·obtain⟨sl,e1⟩:=I.base.slot b o e n hb hx;exact⟨sl,(hs.2 b (cv (bw (bq e) I.ok.above))).trans e1⟩
  ·obtain⟨o',e1⟩:=I.base.there b o e hx;exact⟨o',(hs.2 b (cv (bw (bq e) I.ok.above))).trans e1⟩
  ·by_cases hj:j=i
   ·subst hj;rw[hi]at e1;cases e1;rw[List.getElem?_set_self hiσ]at e2;cases e2;exact⟨u,r,.inl ⟨hk,by simp⟩⟩
   ·rw[List.getElem?_set_ne (Ne.symm hj)]at e2;obtain⟨u',r',q⟩:=hl j y v' e1 e2 e3;refine⟨u',r',?_⟩;rcases q with⟨k,e⟩|⟨k,c,e,z⟩
    ·refine .inl ⟨k,?_⟩;have:y≠x:=fun e=>hj (sY hN e1 (e▸hi))
     simp[this,e]
    ·exact .inr ⟨k,c,e,z.sameBut hs (cne y c e)⟩
  ·obtain⟨w',z⟩:=I.cell y c e;exact⟨w',z.sameBut hs (cne y c e)⟩
  ·obtain⟨e,n,ne,nf,d⟩:=I.pin p hp;exact⟨(hs.2 p.1 ne).trans e,n,ne,nf,d⟩
 ·have Cj:X.fn x=true:=by
   rcases hf with z|z
   ·exact z
   ·rw[z]at hk;cases hk
  obtain⟨c,hc⟩:=I.ok.has x (.inl hk);obtain⟨w',z⟩:=I.cell x c hc;refine wpAny_storeName_cell I.ok.kind hk hc z (fun h' uk hs=>?_);obtain⟨oc,hoc,hocd⟩:=id z;refine h {s with heap:=h'} ⟨I.ok,I.os,I.bare,⟨fun b o e n hb hx=>?_,fun b o e n hb hx=>?_,I.base.free,fun b o e hx=>?_,I.base.kD,I.base.oJ,I.base.rY⟩,⟨m,hn.sameBut hs (Ne.symm (cne x c hc)),fun j y v' e1 e2 e3=>?_⟩,fun y c' e=>?_,I.free,I.hY,fun p hp=>?_,qp ⟨oc,hoc,I.hY x c hc⟩ hs,by simpa using I.len⟩ ⟨c,hs,.inr hc⟩
  ·exact(hs.2 b (cv (bw (bq e) (I.ok.cab x c Cj hc)))).trans (I.base.keep b o e n hb hx)
  ·obtain⟨sl,e1⟩:=I.base.slot b o e n hb hx;exact⟨sl,(hs.2 b (cv (bw (bq e) (I.ok.cab x c Cj hc)))).trans e1⟩
  ·obtain⟨o',e1⟩:=I.base.there b o e hx;exact⟨o',(hs.2 b (cv (bw (bq e) (I.ok.cab x c Cj hc)))).trans e1⟩
  ·by_cases hj:j=i
   ·subst hj;rw[hi]at e1;cases e1;rw[List.getElem?_set_self hiσ]at e2;cases e2;exact⟨u,r,.inr ⟨.inl hk,c,hc,uk⟩⟩
   ·rw[List.getElem?_set_ne (Ne.symm hj)]at e2;obtain⟨u',r',q⟩:=hl j y v' e1 e2 e3;refine⟨u',r',?_⟩;rcases q with q|⟨k,c',e,z'⟩
    ·exact .inl q
    ·refine .inr ⟨k,c',e,z'.sameBut hs ?_⟩;rintro rfl;exact hj (sY hN e1 (I.ok.inj _ _ _ e hc▸hi))
  ·by_cases hcc:c'=c
   ·subst hcc;exact⟨_,uk⟩
   ·obtain⟨w2,z2⟩:=I.cell y c' e;exact⟨w2,z2.sameBut hs hcc⟩
  ·obtain⟨e,n,ne,nf,d⟩:=I.pin p hp;refine⟨(hs.2 p.1 ?_).trans e,n,ne,nf,d⟩;intro q;rw[q,hoc]at e;have q':oc=p.2:=Option.some.inj e;exact d w' (by rw[<- q'];exact hocd)
theorem rZ{M:Model}{A:Around}{E:Value->Shared->Prop}{i:Nat}{x:Str}{v:V}{u:Value}{Q:Unit->Shared->Prop}(I:Inv X jj σ H s)(hN:X.N.Nodup)(hi:X.N[i]? =some x)(hx:Loc X.env.scope x)(r:RelV v u)
  (h:∀s',Inv X jj (σ.set i (some v)) H s'->Q () s') (hf:X.fn x=true\/X.env.scope.names.lookup x=some .local:=by first|exact .inl rfl|exact .inr rfl|assumption):wpAny M A (storeName X.env x u) Q E s:=
 pC I hN hi hx r (fun s' I' _=>h s' I') hf
theorem Inv.DZ{s':Shared}{ch:List Addr}(I:Inv X jj σ H s)(ho:s'.os=s.os)(u:Un (frs X.stack) ch H H' s.heap s'.heap)(hok:HOk X.prog X.w H' s'.heap)(hg:AllBare s'.gens)
  (uj:∀b∈ch,(b∈X.ex\/X.s_0.heap.objs.size<=b)/\b≠X.env.locals/\(∀x c,X.env.cells.lookup x=some c->c≠b)/\∀p∈X.pn++jj,p.1≠b):Inv X jj σ H' s':=by
 obtain⟨h',g',d',t',o'⟩:=s';have e:o'=s.os:=ho;subst e;exact I.call (g':=g') (t':=t') (d':=d') u hok hg uj
end
abbrev XK:=Value->Option Addr->Hp->Prop
abbrev St:=List (Option V)
abbrev VK:=V->Hp->Prop
abbrev TE:=St->Hp->VK->Prop
abbrev TT:=St->Hp->(Bool->Hp->Prop)->Prop
abbrev TA:=St->Hp->(List V->Hp->Prop)->Prop
structure Ends where
 nx:St->Hp->Prop
 rt:VK
 bk:St->Hp->Prop:=fun _ _=>False
 ct:St->Hp->Prop:=fun _ _=>False
abbrev TS:=Ends->St->Hp->Prop
noncomputable def EP(X:Cx)(jj:List (Addr×Obj))(σ:St)(Q:VK)(u:Value)(s':Shared):Prop:=∃v H',Inv X jj σ H' s'/\RelV v u/\Q v H'
noncomputable def TP(X:Cx)(jj:List (Addr×Obj))(σ:St)(Q:Bool->Hp->Prop)(b:Bool)(s':Shared):Prop:=∃H',Inv X jj σ H' s'/\Q b H'
noncomputable def AP(X:Cx)(jj:List (Addr×Obj))(σ:St)(Q:List V->Hp->Prop)(us:List Value)(s':Shared):Prop:=∃vs H',Inv X jj σ H' s'/\Vals vs us/\Q vs H'
noncomputable def SP(X:Cx)(jj:List (Addr×Obj))(D:Ends)(f:Flow)(s':Shared):Prop:=
 match f with
 | .next=>∃σ' H',Inv X jj σ' H' s'/\D.nx σ' H'
 | .brk=>∃σ' H',Inv X jj σ' H' s'/\D.bk σ' H'
 | .cont=>∃σ' H',Inv X jj σ' H' s'/\D.ct σ' H'
 | .ret u=>∃v σ' H',Inv X jj σ' H' s'/\RelV v u/\D.rt v H'
noncomputable def PE(X:Cx)(e:Expr)(t:TE):Prop:=
 ∀(jj:List (Addr×Obj))(s:Shared)(σ:St)(H:Hp)(Q:VK),Inv X jj σ H s->t σ H Q->wpAny (model X.prog X.w) X.A (eval e X.env) (EP X jj σ Q) X.xe s
noncomputable def PT(X:Cx)(e:Expr)(t:TT):Prop:=
 ∀(jj:List (Addr×Obj))(s:Shared)(σ:St)(H:Hp)(Q:Bool->Hp->Prop),Inv X jj σ H s->t σ H Q->wpAny (model X.prog X.w) X.A (isTrue e X.env (eval e X.env)) (TP X jj σ Q) X.xe s
noncomputable def PW(X:Cx)(e:Expr)(t:TT):Prop:=
 ∀(mh:Sem Value)(jj:List (Addr×Obj))(s:Shared)(σ:St)(H:Hp)(Q:Bool->Hp->Prop),Inv X jj σ H s->t σ H Q->wpAny (model X.prog X.w) X.A (isTrue e X.env mh) (TP X jj σ Q) X.xe s
theorem PW.pt{X:Cx}{e:Expr}{t:TT}(h:PW X e t):PT X e t:=h _
noncomputable def PA(X:Cx)(es:List Expr)(t:TA):Prop:=
 ∀(pos:Pos)(jj:List (Addr×Obj))(s:Shared)(σ:St)(H:Hp)(Q:List V->Hp->Prop),Inv X jj σ H s->t σ H Q->wpAny (model X.prog X.w) X.A (spliced (backTo pos (starEach es X.env))) (AP X jj σ Q) X.xe s
noncomputable def PS(X:Cx)(st:Stmt)(t:TS):Prop:=
 ∀(jj:List (Addr×Obj))(s:Shared)(σ:St)(H:Hp)(D:Ends),Inv X jj σ H s->t D σ H->wpAny (model X.prog X.w) X.A (exec st X.env) (SP X jj D) X.xe s
noncomputable def PSs(X:Cx)(st:List Stmt)(t:TS):Prop:=
 ∀(jj:List (Addr×Obj))(s:Shared)(σ:St)(H:Hp)(D:Ends),Inv X jj σ H s->t D σ H->wpAny (model X.prog X.w) X.A (execs st X.env) (SP X jj D) X.xe s
theorem thn{α:Type}{t:Sem α}{Q Q':α->Shared->Prop}{M:Model}{A:Around}{E:Value->Shared->Prop}{s:Shared}(h:wpAny M A t Q E s)(hQ:∀a s,Q a s->Q' a s):wpAny M A t Q' E s:=wpAny_mono h hQ fun _ _ x=>x
section
variable {X:Cx}
def JI(i:Nat):TE:=fun σ H Q=>∃v,σ[i]? =some (some v)/\Q v H
def tC(v:V):TE:=fun _ H Q=>Q v H
theorem HB{i:Nat}{x:Str}{pos:Pos}(hN:X.N[i]? =some x)(hv:Vis X.env.scope x)(hd:(x==("__debug__" : Str))=false:=by decide)(nu:(x==("__classdict__" : Str))=false:=by decide):PE X (.Name x pos) (JI i):=by
 intro jj s σ H Q I h;obtain⟨v,e,h⟩:=h;obtain⟨m,hn,hl⟩:=I.loc;obtain⟨u,r,l⟩:=hl i x v hN e hv;have fin:EP X jj σ Q u s:=⟨v,H,I,r,h⟩;rcases l with⟨hk,hm⟩|⟨hk,c,hc,nz⟩
 ·exact wpAny_Name (wpAny_loadName_local I.ok.kind hk hn hm fin) hd
 ·rcases hk with hk|hk
  ·exact wpAny_Name (wpAny_loadName_cell I.ok.kind hk hc nz fin) hd
  ·exact wpAny_Name (wpAny_loadName_free I.ok.kind hk hc nz fin nu) hd
theorem aM{i j pos}:PE X (.Constant (.int i) j pos) (tC (.int i)):=fun _ _ _ H _ I h=>wpAny_Constant_int ⟨.int i,H,I.tok _,⟨_,rfl⟩,h⟩
theorem g8{b j pos}:PE X (.Constant (.bool b) j pos) (tC (.bl b)):=fun _ _ _ H _ I h=>Constant_bool ⟨.bl b,H,I,rfl,h⟩
theorem MF{j pos}:PE X (.Constant .none j pos) (tC .non):=fun _ _ _ H _ I h=>Constant_none ⟨.non,H,I,rfl,h⟩
def Gl(X:Cx)(x:Str):Prop:=X.env.kindOf x=some .globalImplicit
theorem jJ{E:Value->Shared->Prop}{jj:List (Addr×Obj)}{s:Shared}{σ:St}{H:Hp}{x:Str}{u:Value}{pos:Pos}{Q:Value->Shared->Prop}(I:Inv X jj σ H s)(hg:Gl X x)(hm:X.mg x=some u)(h:Q u s)
  (hd:(x==("__debug__" : Str))=false:=by decide):wpAny (model X.prog X.w) X.A (eval (.Name x pos) X.env) Q E s:=
 Calls.Name_function_global I.ok.kind hg (Calls.loadGlobal_global (by rw[I.ok.glob];exact I.mod.glob.keeps I.bk) hm h) hd
theorem pS{E:Value->Shared->Prop}{jj:List (Addr×Obj)}{s:Shared}{σ:St}{H:Hp}{x:Str}{u:Value}{pos:Pos}{Q:Value->Shared->Prop}(I:Inv X jj σ H s)(hg:Gl X x)(hm:X.mg x=none)(hv:bootBuiltins x=some u)(h:Q u s)
  (hn:x≠ "__name__" :=by decide) (hd:(x==("__debug__" : Str))=false:=by decide):wpAny (model X.prog X.w) X.A (eval (.Name x pos) X.env) Q E s:=by
 obtain⟨mb,h1,h2⟩:=I.mod.blt;exact Calls.Name_function_global I.ok.kind hg (Calls.loadGlobal_builtin (by rw[I.ok.glob];exact I.mod.glob.keeps I.bk) hm (by rw[I.ok.blt];exact h1.keeps I.bk) ((h2 x hn).trans hv) h) hd
theorem DB{x:Str}{v:V}{u:Value}{pos:Pos}(hg:Gl X x)(hm:X.mg x=some u)(r:RelV v u)(hd:(x==("__debug__" : Str))=false:=by decide):PE X (.Name x pos) (tC v):=
 fun _ _ _ H _ I h=>jJ I hg hm ⟨v,H,I,r,h⟩ hd
variable {a b:Expr}{ta tb:TE}{pos:Pos}
noncomputable def PC(X:Cx)(op:CmpOp)(a b:Expr)(t:TE):Prop:=
 ∀(jj:List (Addr×Obj))(s:Shared)(σ:St)(H:Hp)(Q:VK),Inv X jj σ H s->t σ H Q ->
  wpAny (model X.prog X.w) X.A (eval a X.env) (fun v s₁=>wpAny (model X.prog X.w) X.A (eval b X.env) (fun u s₂=>wpAny (model X.prog X.w) X.A (compareOp op v u) (EP X jj σ Q) X.xe s₂) X.xe s₁) X.xe s
def tB(t:TE):TT:=fun σ H Q=>t σ H fun x H1=>∃c,x=.bl c/\Q c H1
theorem dO{op:CmpOp}{t:TE}(h:PC X op a b t)(h1:behindInMarks op b=false:=by first|exact SE _ (by decide) (by decide)|rfl):PT X (.Compare a [op] [b] pos) (tB t):=by intro jj s σ H Q I hw;refine wpAny_isTrue_Compare1 (thn (h jj s σ H _ I hw) fun v s1 h1=>thn h1 fun u s2 h2=>thn h2 fun c s3 ⟨x,H1,I1,r1,q1⟩=>?_) h1;obtain⟨d,rfl,q⟩:=q1;cases r1;exact wpAny_truthy_bool ⟨H1,I1,q⟩
theorem iD{e:Expr}{t:TE}(h:PE X e t)(he:∀mh,isTrue e X.env mh=(do let v<- mh;standAt e.pos;holding [v] (truthy v)):=by intro _;rfl):PT X e (tB t):=by intro jj s σ H Q I hw;refine isTrue_plain (thn (h jj s σ H _ I hw) fun v s1 ⟨x,H1,I1,r1,q1⟩=>?_) (he _);obtain⟨d,rfl,q⟩:=q1;cases r1;exact wpAny_truthy_bool ⟨H1,I1,q⟩
variable {tA tB':TT}{rest:List Expr}
noncomputable def TZ(t u:TT):TT:=fun σ H Q=>t σ H fun c H1=>if c=true then u σ H1 Q else Q false H1
noncomputable def tOr(t u:TT):TT:=fun σ H Q=>t σ H fun c H1=>if c=true then Q true H1 else u σ H1 Q
def TC(t:TT):TT:=fun σ H Q=>t σ H fun c H1=>Q (!c) H1
theorem lT(ha:PT X a tA):PW X (.BoolOp .And [a] pos) tA:=by
 intro wh jj s σ H Q I h;refine isTrue_and (thn (ha jj s σ H Q I h) fun c s1 e=>?_);cases c with
 |true=>exact isTrue_and_nil e
 |false=>exact e
theorem sQ(ha:PT X a tA):PW X (.BoolOp .Or [a] pos) tA:=by
 intro wh jj s σ H Q I h;refine isTrue_or (thn (ha jj s σ H Q I h) fun c s1 e=>?_);cases c with
 |false=>exact isTrue_or_nil e
 |true=>exact e
theorem kJ(ha:PT X a tA)(hb:PW X (.BoolOp .And (b::rest) pos) tB'):PW X (.BoolOp .And (a::b::rest) pos) (TZ tA tB'):=by
 intro wh jj s σ H Q I h;refine isTrue_and (thn (ha jj s σ H _ I h) fun c s1 ⟨H1,I1,q1⟩=>?_);cases c with
 |true=>exact hb wh jj s1 σ H1 Q I1 q1
 |false=>exact⟨H1,I1,q1⟩
theorem yM(ha:PT X a tA)(hb:PW X (.BoolOp .Or (b::rest) pos) tB'):PW X (.BoolOp .Or (a::b::rest) pos) (tOr tA tB'):=by
 intro wh jj s σ H Q I h;refine isTrue_or (thn (ha jj s σ H _ I h) fun c s1 ⟨H1,I1,q1⟩=>?_);cases c with
 |true=>exact⟨H1,I1,q1⟩
 |false=>exact hb wh jj s1 σ H1 Q I1 q1
theorem GW(ha:PT X a tA):PT X (.UnaryOp .Not a pos) (TC tA):=by intro jj s σ H Q I h;exact isTrue_not (ha jj s σ H (fun c H1=>Q (!c) H1) I h)
noncomputable def O7(ta tb:TE):TE:=fun σ H Q=>ta σ H fun x H1=>∃c,x=.bl c/\if c=true then tb σ H1 Q else Q (.bl false) H1
def NY(ta:TE):TE:=fun σ H Q=>ta σ H fun x H1=>∃c,x=.bl c/\Q (.bl (!c)) H1
theorem MD{op}{t:TE}(h:PE X a t):PE X (.BoolOp op [a] pos) t:=fun jj s σ H Q I hw=>BoolOp_one (h jj s σ H Q I hw)
theorem MI(ha:PE X a ta)(hb:PE X (.BoolOp .And (b::rest) pos) tb):PE X (.BoolOp .And (a::b::rest) pos) (O7 ta tb):=by
 intro jj s σ H Q I h;refine BoolOp_and (thn (ha jj s σ H _ I h) fun v s1 ⟨x,H1,I1,r1,q1⟩=>?_);obtain⟨c,rfl,q1⟩:=q1;cases r1;refine wpAny_truthy_bool ?_;cases c with
 |true=>exact hb jj s1 σ H1 Q I1 q1
 |false=>exact⟨.bl false,H1,I1,rfl,q1⟩
theorem ME(ha:PE X a ta):PE X (.UnaryOp .Not a pos) (NY ta):=by intro jj s σ H Q I h;refine UnaryOp_ (thn (ha jj s σ H _ I h) fun v s1 ⟨x,H1,I1,r1,q1⟩=>?_);obtain⟨c,rfl,q1⟩:=q1;cases r1;exact not_of (wpAny_truthy_bool ⟨.bl (!c),H1,I1,rfl,q1⟩)
end
noncomputable def SqL(K:W.Frag)(H:Hp)(a:Addr)(xs:List V):Prop:=
 Rd H a (.lst xs)\/
  ∃(o:Obj)(its:Array Value)(n:Nat),K.lookup a=some o/\o.cls=.type "list" /\o.dict=none/\o.data=.seq its n/\its.size<=sizeLine/\Vals xs its.toList
noncomputable def SqT(K:W.Frag)(H:Hp)(a:Addr)(xs:List V):Prop:=
 Rd H a (.tup xs)\/
  ∃(o:Obj)(its:Array Value)(n:Nat),K.lookup a=some o/\o.cls=.type "tuple" /\o.data=.seq its n/\its.size<=sizeLine/\Vals xs its.toList
noncomputable def XT:Value->Option V
 | .none=>some .non
 | .bool b=>some (.bl b)
 | .int i _=>some (.int i)
 | .str x _=>some (.str x)
 | .bytes b _=>some (.byt b)
 | .float b _=>some (.flt b)
 | .ref a=>some (.ref a)
 | .type n=>some (.ty n)
 |_=>none
theorem RelV.abs{x:V}{u:Value}(r:RelV x u):XT u=some x:=by
 cases x with
 |non=>cases r;rfl
 |bl _=>cases r;rfl
 |int _=>obtain⟨t,rfl⟩:=r;rfl
 |str _=>obtain⟨t,rfl⟩:=r;rfl
 |byt _=>obtain⟨t,rfl⟩:=r;rfl
 |flt _=>obtain⟨t,rfl⟩:=r;rfl
 |ref _=>cases r;rfl
 |ty _=>cases r;rfl
theorem RelV.inj{x y:V}{u:Value}(r:RelV x u)(q:RelV y u):x=y:=Option.some.inj (r.abs.symm.trans q.abs)
theorem Vals.inj:∀{xs ys:List V}{us:List Value},Vals xs us->Vals ys us->xs=ys
 |_,_,_,.nil,.nil=>rfl
 |_,_,_,.cons r t,.cons r' t'=>by rw[r.inj r',Vals.inj t t']
section
variable {X:Cx}{jj:List (Addr×Obj)}{σ:St}{H:Hp}{s:Shared}{a:Addr}{xs ys:List V}
theorem SqL.of{K:W.Frag}(h:H a=some (.lst xs)):SqL K H a xs:=.inl (.inl h)
theorem SqT.of{K:W.Frag}(h:H a=some (.tup xs)):SqT K H a xs:=.inl (.inl h)
theorem Inv.list(I:Inv X jj σ H s)(h:SqL X.K H a xs):∃its:List Value,Vals xs its/\PlainL s.heap a its.toArray/\xs.length<=sizeLine:=by
 rcases h with h|⟨o,its,n,hk,hc,hd,hs,hz,r⟩
 ·obtain⟨z,its,n,r,e⟩:=h.ok I.hok;exact⟨its,r,⟨_,n,e,rfl,rfl,rfl⟩,z⟩
 ·refine⟨its.toList,r,⟨o,n,I.kIn a o hk,hc,hd,by simpa using hs⟩,?_⟩;have e:=r.length;simp only[di]at e;omega
theorem Inv.tuple(I:Inv X jj σ H s)(h:SqT X.K H a xs):∃its:List Value,Vals xs its/\IsTup s.heap a its.toArray/\xs.length<=sizeLine:=by
 rcases h with h|⟨o,its,n,hk,hc,hs,hz,r⟩
 ·obtain⟨z,its,r,p⟩:=h.ok I.hok;exact⟨its,r,p,z⟩
 ·refine⟨its.toList,r,⟨o,I.kIn a o hk,hc,n,by simpa using hs⟩,?_⟩;have e:=r.length;simp only[di]at e;omega
theorem Inv.zD(I:Inv X jj σ H s)(h:SqL X.K H a xs)(h':SqL X.K H a ys):xs=ys:=by
 obtain⟨its,r,⟨o,n,e,_,_,d⟩,_⟩:=I.list h;obtain⟨its',r',⟨o',n',e',_,_,d'⟩,_⟩:=I.list h';rw[e]at e';cases e';rw[d]at d';injection d' with d1 _
 have:its=its':=by simpa using congrArg Array.toList d1
 subst this;exact r.inj r'
theorem Inv.ED(I:Inv X jj σ H s)(h:SqT X.K H a xs)(h':SqT X.K H a ys):xs=ys:=by
 obtain⟨its,r,⟨o,e,_,n,d⟩,_⟩:=I.tuple h;obtain⟨its',r',⟨o',e',_,n',d'⟩,_⟩:=I.tuple h';rw[e]at e';cases e';rw[d]at d';injection d' with d1 _
 have:its=its':=by simpa using congrArg Array.toList d1
 subst this;exact r.inj r'
end
abbrev Cx.rF(X:Cx)(E:Value->Shared->Prop):Cx:={X with xe:=E}
abbrev Cx.nox(X:Cx):Cx:=X.rF fun _ _=>False
theorem Cx.Ok.rF{X:Cx}(ok:X.Ok)(E:Value->Shared->Prop):(X.rF E).Ok:=
 ⟨ok.mod,ok.kind,ok.glob,ok.blt,ok.above,ok.inj,ok.has,ok.cab,ok.hd,ok.frames,ok.stk,ok.exf,ok.bs,ok.bsz,ok.HR,ok.CF,ok.kW,ok.frf⟩
theorem Cx.Ok.kA{X:Cx}{E:Value->Shared->Prop}(ok:(X.rF E).Ok):X.Ok:=
 ⟨ok.mod,ok.kind,ok.glob,ok.blt,ok.above,ok.inj,ok.has,ok.cab,ok.hd,ok.frames,ok.stk,ok.exf,ok.bs,ok.bsz,ok.HR,ok.CF,ok.kW,ok.frf⟩
section
variable {X:Cx}{jj:List (Addr×Obj)}{σ:St}{H:Hp}{s:Shared}{E:Value->Shared->Prop}
theorem Inv.rF(I:Inv X jj σ H s)(E:Value->Shared->Prop):Inv (X.rF E) jj σ H s:=⟨I.ok.rF E,I.os,I.bare,I.base,I.loc,I.cell,I.free,I.hY,I.pin,I.hok,I.len⟩
theorem Inv.kA(I:Inv (X.rF E) jj σ H s):Inv X jj σ H s:=⟨I.ok.kA,I.os,I.bare,I.base,I.loc,I.cell,I.free,I.hY,I.pin,I.hok,I.len⟩
theorem SP.kA{D:Ends}{f:Flow}{s':Shared}(h:SP (X.rF E) jj D f s'):SP X jj D f s':=by
 cases f with
 |next=>obtain⟨σ',H',I,q⟩:=h;exact⟨σ',H',I.kA,q⟩
 |brk=>obtain⟨σ',H',I,q⟩:=h;exact⟨σ',H',I.kA,q⟩
 |cont=>obtain⟨σ',H',I,q⟩:=h;exact⟨σ',H',I.kA,q⟩
 |ret u=>obtain⟨v,σ',H',I,r,q⟩:=h;exact⟨v,σ',H',I.kA,r,q⟩
theorem PSs.nox{st:List Stmt}{t:TS}(h:PSs X.nox st t):PSs X st t:=fun jj s σ H D I hw=>
 wpAny_mono (h jj s σ H D (I.rF _) hw) (fun _ _ q=>q.kA) fun _ _ z=>False.elim z
end
section
variable {X:Cx}{st:Stmt}{rest:List Stmt}{t u:TS}{e:Expr}{te:TE}{pos:Pos}
def NZ:TS:=fun D σ H=>D.nx σ H
def GF(t u:TS):TS:=fun D σ H=>t {D with nx:=u D} σ H
theorem bB:PSs X [] NZ:=fun _ _ σ H _ I h=>wpAny_execs_nil ⟨σ,H,I,h⟩
theorem aA(h1:PS X st t)(h2:PSs X rest u):PSs X (st::rest) (GF t u):=by
 intro jj s σ H D I h;refine wpAny_execs_cons (thn (h1 jj s σ H {D with nx:=u D} I h) fun f s1 q=>?_);cases f with
 |next=>obtain⟨σ',H',I',q⟩:=q;exact h2 jj s1 σ' H' D I' q
 |ret v=>exact q
 |brk=>exact q
 |cont=>exact q
theorem aD(h1:PS X st t):PSs X [st] t:=by
 intro jj s σ H D I h;refine wpAny_execs_cons (thn (h1 jj s σ H D I h) fun f s1 q=>?_);cases f with
 |next=>exact wpAny_execs_nil q
 |ret v=>exact q
 |brk=>exact q
 |cont=>exact q
theorem Inv.quiet{jj:List (Addr×Obj)}{σ:St}{H:Hp}{s:Shared}(I:Inv X jj σ H s):interactive X.env=false:=by simp[interactive,I.ok.kind]
def O5(te:TE):TS:=fun D σ H=>te σ H fun _ H1=>D.nx σ H1
theorem cW(he:PE X e te)(hs:swapsWith e none pos.line X.env=pure false:=by rfl):PS X (.Expr e pos) (O5 te):=by intro jj s σ H D I h;exact wpAny_Expr_any (thn (he jj s σ H _ I h) fun v s1 ⟨x,H1,I1,r1,q1⟩=>⟨σ,H1,I1,q1⟩) I.quiet hs
def TB(te:TE):TS:=fun D σ H=>te σ H D.rt
theorem aQ(he:PE X e te):PS X (.Return (some e) pos) (TB te):=by intro jj s σ H D I h;exact wpAny_Return_some (thn (he jj s σ H _ I h) fun v s1 ⟨x,H1,I1,r1,q1⟩=>⟨x,σ,H1,I1,r1,q1⟩)
noncomputable def TH(c:TT)(t u:TS):TS:=fun D σ H=>c σ H fun b H1=>if b=true then t D σ H1 else u D σ H1
theorem cD{c:Expr}{a b:List Stmt}{tc:TT}(hc:PT X c tc)(ha:PSs X a t)(hb:PSs X b u):PS X (.If c a b pos) (TH tc t u):=by
 intro jj s σ H D I h;refine wpAny_If (thn (hc jj s σ H _ I h) fun d s1 ⟨H1,I1,q1⟩=>?_);cases d with
 |true=>exact ha jj s1 σ H1 D I1 q1
 |false=>exact hb jj s1 σ H1 D I1 q1
end
abbrev TG:=V->St->Hp->(St->Hp->Prop)->Prop
abbrev TGs:=List V->St->Hp->(St->Hp->Prop)->Prop
noncomputable def PG(X:Cx)(lz:Expr)(t:TG):Prop:=
 ∀(jj:List (Addr×Obj))(s:Shared)(σ:St)(H:Hp)(v:V)(u:Value)(Q:St->Hp->Prop),Inv X jj σ H s->RelV v u->t v σ H Q ->
  wpAny (model X.prog X.w) X.A (assign lz X.env u) (fun _ s'=>∃σ' H',Inv X jj σ' H' s'/\Q σ' H') X.xe s
noncomputable def PGs(X:Cx)(ts:List Expr)(t:TGs):Prop:=
 ∀(jj:List (Addr×Obj))(s:Shared)(σ:St)(H:Hp)(vs:List V)(us:List Value)(Q:St->Hp->Prop),Inv X jj σ H s->Vals vs us->t vs σ H Q ->
  wpAny (model X.prog X.w) X.A (assignInOrder ((assignEach ts X.env).map (·.2)) us) (fun _ s'=>∃σ' H',Inv X jj σ' H' s'/\Q σ' H') X.xe s
abbrev TIp:=V->V->Hp->VK->Prop
noncomputable def PIp(X:Cx)(op:Operator)(t:TIp):Prop:=
 ∀(jj:List (Addr×Obj))(s:Shared)(σ:St)(H:Hp)(x y:V)(v u:Value)(Q:VK),Inv X jj σ H s->RelV x v->RelV y u->t x y H Q ->
  wpAny (model X.prog X.w) X.A (inplaceOp op v u) (EP X jj σ Q) X.xe s
section
variable {X:Cx}{pos:Pos}
def jZ(i:Nat):TG:=fun v σ H Q=>Q (σ.set i (some v)) H
theorem JS{i:Nat}{x:Str}(hN:X.N.Nodup)(hi:X.N[i]? =some x)(hx:Loc X.env.scope x)(hf:X.fn x=true\/X.env.scope.names.lookup x=some .local:=by first|exact .inl rfl|exact .inr rfl|assumption):PG X (.Name x pos) (jZ i):=by intro jj s σ H v u Q I r h;exact wpAny_assign_Name (rZ I hN hi hx r (fun s' I'=>⟨_,H,I',h⟩) hf)
def XO:TGs:=fun vs σ H Q=>vs=[]/\Q σ H
noncomputable def SR(t:TG)(u:TGs):TGs:=fun vs σ H Q=>∃v r,vs=v::r/\t v σ H fun σ' H'=>u r σ' H' Q
theorem hJ:PGs X [] XO:=by intro jj s σ H vs us Q I r h;obtain⟨e,h⟩:=h;subst e;cases r;exact assignInOrder_nil ⟨σ,H,I,h⟩
theorem bL{e:Expr}{es:List Expr}{t:TG}{u:TGs}(h1:PG X e t)(h2:PGs X es u)
  (hs:(assignEach (e::es) X.env).map (·.2)=assign e X.env::(assignEach es X.env).map (·.2):=by rfl):PGs X (e::es) (SR t u):=by
 intro jj s σ H vs us Q I r h;obtain⟨v,vr,e1,h⟩:=h;subst e1;cases r with
 |cons r rr=>rw[hs];refine assignInOrder_cons (thn (h1 jj s σ H _ _ _ I r h) fun _ s1 ⟨σ1,H1,I1,q1⟩=>?_);exact h2 jj s1 σ1 H1 _ _ Q I1 rr q1
noncomputable def XN(K:W.Frag)(n:Nat)(t:TGs):TG:=fun v σ H Q=>∃a xs,v=.ref a/\SqT K H a xs/\xs.length=n/\t xs σ H Q
theorem kM{es:List Expr}{k:Nat}{t:TGs}{n:Nat}(hc:X.calm=true)(h:PGs X es t)
  (hn:(assignEach es X.env).length=n:=by rfl) (vk:(assignEach es X.env).findIdx? (·.1)=none:=by rfl):PG X (.Tuple es k pos) (XN X.K n t):=by
 intro jj s σ H v u Q I r hw;obtain⟨a,xs,e1,hq,hl,hw⟩:=hw;subst e1;cases r;obtain⟨its,rv,ht,hz⟩:=I.tuple hq;refine assign_Tuple_tuple (I.ok.hd hc) ht (by simp[hn,<- hl,rv.length]) vk fun h' hx=>?_
 have I1:Inv X jj σ H {s with heap:=h'}:=I.kept (t':=s.toks) fun b o e=>hx b o (cv (bq e)) e
 exact h jj _ σ H xs _ Q I1 (by simpa using rv) hw
def B0(te:TE)(g:TG):TS:=fun D σ H=>te σ H fun x H1=>g x σ H1 D.nx
theorem B7{tg e:Expr}{te:TE}{g:TG}(he:PE X e te)(hg:PG X tg g)(hs:swapsWithSole [tg] e pos.line X.env=pure false:=by rfl)(hw:swappedStores [tg] e X.env=pure none:=by rfl)
  (h1:(assignEach [tg] X.env).map (·.2)=[assign tg X.env]:=by rfl):PS X (.Assign [tg] e pos) (B0 te g):=by
 intro jj s σ H D I h;refine wpAny_Assign_stores (thn (he jj s σ H _ I h) fun v s1 ⟨x,H1,I1,r1,q1⟩=>?_) hs hw;rw[h1];exact thn (hg jj s1 σ H1 x v _ I1 r1 q1) fun _ s2 q=>q
theorem B6{i:Nat}{x:Str}{e:Expr}{te:TE}{kb:Pos}(hN:X.N.Nodup)(hi:X.N[i]? =some x)(hx:Loc X.env.scope x)(he:PE X e te)(hs:swapsWith e (some (.Name x kb)) pos.line X.env=pure false:=by rfl)(hf:X.fn x=true\/X.env.scope.names.lookup x=some .local:=by first|exact .inl rfl|exact .inr rfl|assumption):
  PS X (.Assign [.Name x kb] e pos) (B0 te (jZ i)):=by
 intro jj s σ H D I h;refine wpAny_Assign_Name (thn (he jj s σ H _ I h) fun v s1 ⟨y,H1,I1,r1,q1⟩=>?_) hs;exact rZ I1 hN hi hx r1 (fun s2 I2=>⟨_,H1,I2,q1⟩) hf
noncomputable def TV(i:Nat)(te:TE)(ti:TIp):TS:=fun D σ H=>∃x,σ[i]? =some (some x)/\te σ H fun y H1=>ti x y H1 fun z H2=>D.nx (σ.set i (some z)) H2
theorem GY{i:Nat}{x:Str}{e:Expr}{te:TE}{op:Operator}{ti:TIp}{kb:Pos}(hN:X.N.Nodup)(hi:X.N[i]? =some x)(hx:Loc X.env.scope x)(he:PE X e te)(ho:PIp X op ti)(hf:X.fn x=true\/X.env.scope.names.lookup x=some .local:=by first|exact .inl rfl|exact .inr rfl|assumption):
  PS X (.AugAssign (.Name x kb) op e pos) (TV i te ti):=by
 intro jj s σ H D I h;obtain⟨v,e1,h⟩:=h;obtain⟨m,hn,hl⟩:=I.loc;have vis:Vis X.env.scope x:=by rcases hx with k|k;exact .inl k;exact .inr (.inl k)
 obtain⟨u,r,l⟩:=hl i x v hi e1 vis;refine wpAny_AugAssign_Name ?_;have go:wpAny (model X.prog X.w) X.A (eval e X.env) (fun w s₂=>wpAny (model X.prog X.w) X.A (inplaceOp op u w) (fun r s₃=>wpAny (model X.prog X.w) X.A (storeName X.env x r) (fun _=>SP X jj D .next) X.xe s₃) X.xe s₂) X.xe s:=by
  refine thn (he jj s σ H _ I h) fun w s1 ⟨y,H1,I1,r1,q1⟩=>?_
  refine thn (ho jj s1 σ H1 v y u w _ I1 r r1 q1) fun z s2 ⟨zv,H2,I2,r2,q2⟩=>?_
  exact rZ I2 hN hi hx r2 (fun s3 I3=>⟨_,H2,I3,q2⟩) hf
 rcases l with⟨hk,hm⟩|⟨hk,c,hc,nz⟩
 ·exact wpAny_loadName_local I.ok.kind hk hn hm go
 ·rcases hk with hk|hk
  ·exact wpAny_loadName_cell I.ok.kind hk hc nz go
  ·rcases hx with k|k
   ·have:X.env.scope.names.lookup x=some .free:=hk;rw[k]at this;cases this
   ·have:X.env.scope.names.lookup x=some .free:=hk;rw[k]at this;cases this
noncomputable def ipI(f:Int->Int->Int):TIp:=fun x y H Q=>∃i j,x=.int i/\y=.int j/\Q (.int (f i j)) H
theorem IF:PIp X .Add (ipI fun i j=>i+j):=by intro jj s σ H x y v u Q I r1 r2 h;obtain⟨i,j,e1,e2,q⟩:=h;subst e1;subst e2;obtain⟨t,rfl⟩:=r1;obtain⟨t',rfl⟩:=r2;exact iadd_int ⟨.int _,H,I.tok _,⟨_,rfl⟩,q⟩
end
section
variable {X:Cx}{pos:Pos}
noncomputable def GD(c:TT)(tb:TS):TS:=fun D σ H=>∃W:Nat->St->Hp->Prop,(∃m,W m σ H)/\∀m σ H,W m σ H ->
 c σ H fun b H1=>if b=true then∃N:St->Hp->Prop,(∀σ' H',N σ' H'->∃m',m'<m/\W m' σ' H')/\tb {D with nx:=N,ct:=N,bk:=D.nx} σ H1 else D.nx σ H1
theorem nK{c:Expr}{body:List Stmt}{tc:TT}{tb:TS}(hp:PassesOwn (model X.prog X.w) X.A X.env X.xe)(hc:PT X c tc)(hb:PSs X body tb):PS X (.While c body [] pos) (GD tc tb):=by
 intro jj s σ H D I h;obtain⟨W,⟨m0,w0⟩,ki⟩:=h;refine wpAny_While (codeAny_whileLoop (fun n s'=>∃σ' H',Inv X jj σ' H' s'/\W n σ' H') ?_ m0 ⟨σ,H,I,w0⟩);rintro n s1 ⟨σ1,H1,I1,w1⟩;refine wpAny_passesOwn hp (thn (hc jj s1 σ1 H1 _ I1 (ki n σ1 H1 w1)) fun b s2 ⟨H2,I2,q2⟩=>?_);cases b with
 |true=>
  obtain⟨N,hN,q2⟩:=q2;rw[ah rfl];refine wpAny_passesOwn hp (thn (hb jj s2 σ1 H2 _ I2 q2) fun f s3 q3=>?_);cases f with
  |next=>obtain⟨σ3,H3,I3,n3⟩:=q3;obtain⟨m',hm,w3⟩:=hN σ3 H3 n3;exact⟨m',hm,σ3,H3,I3,w3⟩
  |cont=>obtain⟨σ3,H3,I3,n3⟩:=q3;obtain⟨m',hm,w3⟩:=hN σ3 H3 n3;exact⟨m',hm,σ3,H3,I3,w3⟩
  |brk=>exact q3
  |ret v=>exact q3
 |false=>rw[af bp];exact wpAny_execs_nil ⟨σ1,H2,I2,q2⟩
end
structure It where
 go:Nat->Hp->Prop
 yld:Nat->Hp->V->Hp->Prop
 stop:Nat->Hp->Prop
noncomputable def n4(X:Cx)(jj:List (Addr×Obj))(H:Hp)(b:Addr):Prop:=
 H b=none/\b≠X.env.locals/\b∉X.fs/\(b∈X.ex\/X.s_0.heap.objs.size<=b)/\(∀x c,X.env.cells.lookup x=some c->c≠b)/\∀p∈X.pn++jj,p.1≠b
theorem Inv.C9{X:Cx}{jj:List (Addr×Obj)}{σ:St}{H H':Hp}{s:Shared}{b:Addr}(I:Inv X jj σ H s)(hb:s.heap.objs.size<=b)(hn:H' b=none):n4 X jj H' b:=by
 refine⟨hn,jd (bw I.lt hb),I.XF hb,.inr (de I.sz hb),fun x c e z=>?_,fun p hp z=>?_⟩
 ·obtain⟨v,q⟩:=I.cell x c e;exact absurd (bw q.lt (by rw[z];exact hb)) (gk _)
 ·exact absurd (bw (bq (I.pin p hp).1) (by rw[z];exact hb)) (gk _)
structure Turn(P:Program)(w:World)(K:W.Frag)(tg:Expr)(J:It)(fp:List Addr)(it:Addr)(tn:Nat->Heap->Prop):Prop where
 mem:it∈fp
 obj:∀i h,tn i h->∀b∈fp,∃o,h.get? b=some o/\∀v,o.data≠ .cell v
 keep:∀i h h',tn i h->(∀b∈fp,∀o,h.get? b=some o->h'.get? b=some o)->tn i h'
 item:∀(X:Cx),X.prog=P->X.w=w->X.K=K->X.calm=true->∀(i:Nat)(jj:List (Addr×Obj))(s:Shared)(σ:St)(H:Hp)(E:Value->Shared->Prop),Inv X jj σ H s->(∀b∈fp,n4 X jj H b)->tn i s.heap->J.go i H ->
  wpAny (model P w) X.A (pyNext (.ref it)) (fun r s1=>∃u,r=some u/\
   wpAny (model P w) X.A (letOwnedTupleGo tg (.ref it) u) (fun _ s2=>∃x H',Inv X jj σ H' s2/\RelV x u/\J.yld i H x H'/\tn (i+1) s2.heap/\∀b∈fp,H' b=none) E s1) E s
 done:∀(X:Cx),X.prog=P->X.w=w->X.K=K->X.calm=true->∀(i:Nat)(jj:List (Addr×Obj))(s:Shared)(σ:St)(H:Hp)(E:Value->Shared->Prop),Inv X jj σ H s->(∀b∈fp,n4 X jj H b)->tn i s.heap->J.stop i H ->
  wpAny (model P w) X.A (pyNext (.ref it)) (fun r s1=>r=none/\Inv X jj σ H s1) E s
 self:∀(A:Around)(i:Nat)(s:Shared)(Q:Value->Shared->Prop)(E:Value->Shared->Prop),tn i s.heap->Q (.ref it) s->wpAny (model P w) A (pyIter (.ref it)) Q E s
abbrev TI:=St->Hp->(It->Hp->Prop)->Prop
noncomputable def PIE(X:Cx)(jj:List (Addr×Obj))(σ:St)(tg:Expr)(R:It->Hp->Prop)(itv:Value)(s2:Shared):Prop:=
 ∃(it:Addr)(fp:List Addr)(tn:Nat->Heap->Prop)(J:It)(H':Hp),itv=.ref it/\Inv X jj σ H' s2/\Turn X.prog X.w X.K tg J fp it tn/\tn 0 s2.heap/\(∀b∈fp,n4 X jj H' b)/\R J H'
noncomputable def PI(X:Cx)(tg iter:Expr)(wi:TI):Prop:=
 ∀(jj:List (Addr×Obj))(s:Shared)(σ:St)(H:Hp)(R:It->Hp->Prop),Inv X jj σ H s->wi σ H R ->
  wpAny (model X.prog X.w) X.A (eval iter X.env) (fun v s1=>wpAny (model X.prog X.w) X.A (pyIter v) (PIE X jj σ tg R) X.xe s1) X.xe s
theorem vW{M:Model}{A:Around}{E:Value->Shared->Prop}{s:Shared}{tg:Expr}{it:Addr}{u:Value}{o:Obj}{n:String}{vs:Array Value}{Q:Unit->Shared->Prop}(ho:s.heap.get? it=some o)(hc:o.cls=.type n)(hd:o.data=.fields vs)
  (hn:["enumerate","zip","dict_itemiterator","dict_reverseitemiterator","odict_iterator","itertools.zip_longest","itertools.pairwise"].contains n=false) (hQ:Q () s):wpAny M A (letOwnedTupleGo tg (.ref it) u) Q E s:=by
 unfold letOwnedTupleGo;cases tg<;>first
  |exact ag hQ
  |(cases u<;>first
    |exact ag hQ
    |(refine aa (wpAny_load ho ?_);rw[hc,hd];show wpAny M A (if(["enumerate","zip","dict_itemiterator","dict_reverseitemiterator","odict_iterator","itertools.zip_longest","itertools.pairwise"].contains n&& vs[0]? ==some (rawInt _))=true then _ else _) Q E s;rw[af (by intro h;rw[hn,Bool.false_and]at h;cases h)];exact ag hQ))
noncomputable def Itl(K:W.Frag)(a:Addr):It:=
 ⟨fun i H=>∃xs x,SqL K H a xs/\xs[i]? =some x,fun i H x H'=>H'=H/\∀xs,SqL K H a xs->xs[i]? =some x,fun i H=>∃xs,SqL K H a xs/\xs.length<=i⟩
noncomputable def Itt(K:W.Frag)(a:Addr):It:=
 ⟨fun i H=>∃xs x,SqT K H a xs/\xs[i]? =some x,fun i H x H'=>H'=H/\∀xs,SqT K H a xs->xs[i]? =some x,fun i H=>∃xs,SqT K H a xs/\xs.length<=i⟩
noncomputable def Itr(lo:Int)(n:Nat):It:=⟨fun i _=>i<n,fun i H x H'=>H'=H/\x=.int (lo+i),fun i _=>n<=i⟩
theorem E9{P:Program}{w:World}{K:W.Frag}{tg:Expr}(a it:Addr):Turn P w K tg (Itl K a) [it] it (fun i h=>h.IsListIter it a i) where
 mem:=by simp
 obj:=fun i h st b hb=>by
  have e:b=it:=by simpa using hb
  subst e;obtain⟨o,e,c,d⟩:=st;exact⟨o,e,fun v z=>by rw[d]at z;cases z⟩
 keep:=fun i h h' st k=>st.at fun o e=>k it (by simp) o e
 item:=by
  intro X hP hw hK hc i jj s σ H E I hf st hg;subst hP hw hK;obtain⟨xs,x,hq,hx⟩:=hg;obtain⟨its,rv,p,hz⟩:=I.list hq;obtain⟨u,hu,ru⟩:=rv.get hx;obtain⟨f0,f1,f2,f3,f4,f5⟩:=hf it (by simp);refine wpAny_pyNext_list_item st p.isList (x:=u) (by simpa using hu) fun h' nv sb=>?_
  have I1:Inv X jj σ H {s with heap:=h'}:=I.turned (t':=s.toks) (fun b o hb e=>(sb.2 b hb).trans e) f0 f1 f3 f4 f5;obtain⟨o,e,c,d⟩:=id nv;exact⟨u,rfl,vW (s:={s with heap:=h'}) e c d (by decide) ⟨x,H,I1,ru,⟨rfl,fun ys hy=>by rw[I.zD hy hq];exact hx⟩,nv,fun b hb=>(hf b hb).1⟩⟩
 done:=by intro X hP hw hK hc i jj s σ H E I hf st hg;subst hP hw hK;obtain⟨xs,hq,hx⟩:=hg;obtain⟨its,rv,p,hz⟩:=I.list hq;obtain⟨f0,f1,f2,f3,f4,f5⟩:=hf it (by simp);have hl:=rv.length;exact wpAny_pyNext_list_end (I.ok.hd hc) st p.isList (by simp;omega) fun h' eb=>⟨rfl,I.turned (t':=s.toks) (fun b o hb e=>eb b o hb e) f0 f1 f3 f4 f5⟩
 self:=fun _ _ _ _ _ st h=>wpAny_pyIter_listiter st h
theorem AU{P:Program}{w:World}{K:W.Frag}{tg:Expr}(a it:Addr):Turn P w K tg (Itt K a) [it] it (fun i h=>h.IsTupleIter it a i) where
 mem:=by simp
 obj:=fun i h st b hb=>by
  have e:b=it:=by simpa using hb
  subst e;obtain⟨o,e,c,d⟩:=st;exact⟨o,e,fun v z=>by rw[d]at z;cases z⟩
 keep:=fun i h h' st k=>st.at fun o e=>k it (by simp) o e
 item:=by
  intro X hP hw hK hc i jj s σ H E I hf st hg;subst hP hw hK;obtain⟨xs,x,hq,hx⟩:=hg;obtain⟨its,rv,p,hz⟩:=I.tuple hq;obtain⟨u,hu,ru⟩:=rv.get hx;obtain⟨f0,f1,f2,f3,f4,f5⟩:=hf it (by simp);refine wpAny_pyNext_tuple_item st (show s.heap.IsTuple a its.toArray from p) (x:=u) (by simpa using hu) fun h' nv sb=>?_
  have I1:Inv X jj σ H {s with heap:=h'}:=I.turned (t':=s.toks) (fun b o hb e=>(sb.2 b hb).trans e) f0 f1 f3 f4 f5;obtain⟨o,e,c,d⟩:=id nv;exact⟨u,rfl,vW (s:={s with heap:=h'}) e c d (by decide) ⟨x,H,I1,ru,⟨rfl,fun ys hy=>by rw[I.ED hy hq];exact hx⟩,nv,fun b hb=>(hf b hb).1⟩⟩
 done:=by intro X hP hw hK hc i jj s σ H E I hf st hg;subst hP hw hK;obtain⟨xs,hq,hx⟩:=hg;obtain⟨its,rv,p,hz⟩:=I.tuple hq;obtain⟨f0,f1,f2,f3,f4,f5⟩:=hf it (by simp);have hl:=rv.length;exact wpAny_pyNext_tuple_end (I.ok.hd hc) st (show s.heap.IsTuple a its.toArray from p) (by simp;omega) fun h' eb=>⟨rfl,I.turned (t':=s.toks) (fun b o hb e=>eb b o hb e) f0 f1 f3 f4 f5⟩
 self:=fun _ _ _ _ _ st h=>wpAny_pyIter_tupleiter st h
theorem AV{P:Program}{w:World}{K:W.Frag}{tg:Expr}(it:Addr)(lo:Int)(n:Nat):Turn P w K tg (Itr lo n) [it] it (fun i h=>IsRangeIter h it (lo+(i:Nat)*1) ((n:Int) - (i:Nat)) 1) where
 mem:=by simp
 obj:=fun i h st b hb=>by
  have e:b=it:=by simpa using hb
  subst e;exact⟨_,st,fun v z=>by
   have z':Data.fields _=Data.cell v:=z;cases z'⟩
 keep:=fun i h h' st k=>k it (by simp) _ st
 item:=by
  intro X hP hw hK hc i jj s σ H E I hf st hg;subst hP hw hK;obtain⟨f0,f1,f2,f3,f4,f5⟩:=hf it (by simp);have W:=Walks.range (prog:=X.prog) (w:=X.w) (I.ok.hd hc) it lo 1 n;refine W.item i s _ _ hg st fun v h' tk hv nv kk=>?_
  obtain⟨t,rfl⟩:=hv;have I1:Inv X jj σ H {s with heap:=h',toks:=tk}:=I.turned (fun b o hb e=>kk b o (by simpa using hb) e) f0 f1 f3 f4 f5;refine⟨_,rfl,vW (s:={s with heap:=h',toks:=tk}) (n:= "range_iterator") nv rfl rfl (by decide) ⟨.int (lo+i),H,I1,⟨t,?_⟩,⟨rfl,rfl⟩,nv,fun b hb=>(hf b hb).1⟩⟩;rw[Int.mul_one]
 done:=by intro X hP hw hK hc i jj s σ H E I hf st hg;subst hP hw hK;obtain⟨f0,f1,f2,f3,f4,f5⟩:=hf it (by simp);exact wpAny_pyNext_range_end (I.ok.hd hc) st (by have:n<=i:=hg;omega) fun h' eb=>⟨rfl,I.turned (t':=s.toks) (fun b o hb e=>eb b o hb e) f0 f1 f3 f4 f5⟩
 self:=fun _ _ _ _ _ st h=>wpAny_pyIter_rangeiter st h
section
variable {X:Cx}{tg:Expr}
noncomputable def SM(K:W.Frag)(tl:TE):TI:=fun σ H R=>tl σ H fun x H1=>∃a,x=.ref a/\(∃xs,SqL K H1 a xs)/\R (Itl K a) H1
noncomputable def XM(K:W.Frag)(tl:TE):TI:=fun σ H R=>tl σ H fun x H1=>∃a,x=.ref a/\(∃xs,SqT K H1 a xs)/\R (Itt K a) H1
theorem dH{l:Expr}{tl:TE}(hl:PE X l tl):PI X tg l (SM X.K tl):=by
 intro jj s σ H R I h;refine thn (hl jj s σ H _ I h) fun v s1 ⟨x,H1,I1,r1,q1⟩=>?_
 obtain⟨a,e,⟨xs,hq⟩,q⟩:=q1;subst e;cases r1;obtain⟨its,rv,p,hz⟩:=I1.list hq;refine wpAny_pyIter_list p.isList ?_;refine⟨s1.heap.objs.size,[s1.heap.objs.size],_,_,H1,rfl,I1.kept (t':=s1.toks) fun b o e=>ao _ e,E9 a _,⟨_,az _ rfl,rfl,rfl⟩,fun b hb=>?_,q⟩;have e:b=s1.heap.objs.size:=by simpa using hb
 subst e;exact I1.C9 (au _) (I1.hok.fresh (au _))
theorem iE{l:Expr}{tl:TE}(hl:PE X l tl):PI X tg l (XM X.K tl):=by
 intro jj s σ H R I h;refine thn (hl jj s σ H _ I h) fun v s1 ⟨x,H1,I1,r1,q1⟩=>?_
 obtain⟨a,e,⟨xs,hq⟩,q⟩:=q1;subst e;cases r1;obtain⟨its,rv,p,hz⟩:=I1.tuple hq;refine wpAny_pyIter_tuple (show s1.heap.IsTuple a its.toArray from p) ?_;refine⟨s1.heap.objs.size,[s1.heap.objs.size],_,_,H1,rfl,I1.kept (t':=s1.toks) fun b o e=>ao _ e,AU a _,⟨_,az _ rfl,rfl,rfl⟩,fun b hb=>?_,q⟩;have e:b=s1.heap.objs.size:=by simpa using hb
 subst e;exact I1.C9 (au _) (I1.hok.fresh (au _))
theorem yJ{jj:List (Addr×Obj)}{σ:St}{H:Hp}{s:Shared}{R:It->Hp->Prop}{E:Value->Shared->Prop}{lo hi:Int}{t u v:Tok}{tk:Nat}(I:Inv X jj σ H s)(h1:-(2^62)<=lo)(h2:lo<2^62)(h3:-(2^62)<=hi)(h4:hi<2^62)
  (q:R (Itr lo (hi - lo).toNat) H):wpAny (model X.prog X.w) X.A (pyIter (.ref s.heap.objs.size)) (PIE X jj σ tg R) E {s with heap:=s.heap.push {cls:=.type "range",data:=.fields #[.int lo t,.int hi u,.int 1 v]},toks:=tk}:=by
 refine wpAny_pyIter_range (IsRange.new ..) (small_one h1 h2 h3 h4) ?_;have I1:Inv X jj σ H {s with heap:=s.heap.push {cls:=.type "range",data:=.fields #[.int lo t,.int hi u,.int 1 v]},toks:=tk}:=I.kept fun b o e=>ao _ e
 refine⟨(s.heap.push {cls:=.type "range",data:=.fields #[.int lo t,.int hi u,.int 1 v]}).objs.size,[(s.heap.push {cls:=.type "range",data:=.fields #[.int lo t,.int hi u,.int 1 v]}).objs.size],_,_,H,rfl,
  I1.kept (t':=tk) fun b o e=>ao _ e,AV _ lo (hi - lo).toNat,?_,fun b hb=>?_,q⟩
 ·have e1:lo+((0:Nat):Int)*1=lo:=by simp
  have e2:(((hi - lo).toNat:Nat):Int) - ((0:Nat):Int)=Builtin.Range.rangeSize lo hi 1:=by rw[rangeSize_one];split<;>omega
  show IsRangeIter _ _ (lo+((0:Nat):Int)*1) ((((hi - lo).toNat:Nat):Int) - ((0:Nat):Int)) 1
  rw[e1,e2];exact az _ rfl
 ·have e:b=(s.heap.push {cls:=.type "range",data:=.fields #[.int lo t,.int hi u,.int 1 v]}).objs.size:=by simpa using hb
  subst e;exact I1.C9 (au _) (I1.hok.fresh (au _))
noncomputable def SK(ta:TA):TI:=fun σ H R=>ta σ H fun vs H1=>∃j:Int,vs=[.int j]/\-(2^62)<=j/\j<2^62/\R (Itr 0 j.toNat) H1
noncomputable def SJ(ta:TA):TI:=fun σ H R=>ta σ H fun vs H1=>∃i j:Int,vs=[.int i,.int j]/\(-(2^62)<=i/\i<2^62/\-(2^62)<=j/\j<2^62)/\R (Itr i (j - i).toNat) H1
theorem vF{a:Expr}{ta:TA}{p pos:Pos}(hg:Gl X "range")(hm:X.mg "range" =none)(ha:PA X [a] ta)(hs:starEach [a] X.env=[(false,eval a X.env)]:=by rfl):PI X tg (.Call (.Name "range" p) [a] [] pos) (SK ta):=by
 intro jj s σ H R I h;refine Call_ (pS I hg hm boot_range (PyProof.Rows.callWith_type1 (thn (ha pos jj s σ H _ I h) fun us s1 ⟨vs,H1,I1,r1,q1⟩=>?_) hs rfl));obtain⟨j,e,q1,q2,q⟩:=q1;subst e;cases r1 with
 |cons r rr=>cases rr;obtain⟨t,rfl⟩:=r;exact call_range_1 (yJ I1 (by omega) (by omega) q1 q2 (by simpa using q))
theorem pK{a b:Expr}{ta:TA}{p pos:Pos}(hg:Gl X "range")(hm:X.mg "range" =none)(ha:PA X [a,b] ta)(hs:starEach [a,b] X.env=[(false,eval a X.env),(false,eval b X.env)]:=by rfl)(qi:starEach [b] X.env=[(false,eval b X.env)]:=by rfl):
  PI X tg (.Call (.Name "range" p) [a,b] [] pos) (SJ ta):=by
 intro jj s σ H R I h;refine Call_ (pS I hg hm boot_range (PyProof.Rows.callWith_type1 (thn (ha pos jj s σ H _ I h) fun us s1 ⟨vs,H1,I1,r1,q1⟩=>?_) (by rw[hs,qi]) (by rw[qi];rfl)));obtain⟨i,j,e,⟨q1,q2,q3,q4⟩,q⟩:=q1;subst e;cases r1 with
 |cons r rr=>
  cases rr with
  |cons r' rr=>cases rr;obtain⟨t,rfl⟩:=r;obtain⟨t',rfl⟩:=r';exact call_range_2 (yJ I1 q1 q2 q3 q4 q)
noncomputable def TJ(wi:TI)(g:TG)(tb:TS):TS:=fun D σ H=>wi σ H fun J H1=>∃W:Nat->Nat->St->Hp->Prop,(∃m,W 0 m σ H1)/\∀i m σ H,W i m σ H ->
 (J.stop i H/\D.nx σ H)\/(J.go i H/\∃N:St->Hp->Prop,(∀σ' H',N σ' H'->∃m',m'<m/\W (i+1) m' σ' H')/\∀x H',J.yld i H x H'->g x σ H' fun σ2 H2=>tb {D with nx:=N,ct:=N,bk:=D.nx} σ2 H2)
noncomputable def pJ(fp:List Addr)(h:Heap):List (Addr×Obj):=fp.filterMap fun b=>(h.get? b).map fun o=>(b,o)
theorem jI{fp:List Addr}{h:Heap}{b:Addr}{o:Obj}(hb:b∈fp)(e:h.get? b=some o):(b,o)∈pJ fp h:=List.mem_filterMap.mpr ⟨b,hb,by rw[e];rfl⟩
theorem EN{fp:List Addr}{h:Heap}{p:Addr×Obj}(hp:p∈pJ fp h):p.1∈fp/\h.get? p.1=some p.2:=by
 obtain⟨b,hb,e⟩:=List.mem_filterMap.mp hp;cases q:h.get? b with
 |none=>rw[q]at e;cases e
 |some o=>rw[q]at e;have e':(b,o)=p:=Option.some.inj e;subst e';exact⟨hb,q⟩
theorem Inv.pinned{jj:List (Addr×Obj)}{σ:St}{H:Hp}{s:Shared}{fp:List Addr}(I:Inv X jj σ H s)(hf:∀b∈fp,n4 X jj H b)(ho:∀b∈fp,∃o,s.heap.get? b=some o/\∀v,o.data≠ .cell v):Inv X (jj++pJ fp s.heap) σ H s:=
 I.D8 fun p hp=>(aw.mp hp).elim (fun z=>I.pin p (bc _ z)) fun z=>by obtain⟨hb,e⟩:=EN z;obtain⟨f0,f1,f2,_⟩:=hf p.1 hb;obtain⟨o,e',d⟩:=ho p.1 hb;rw[e]at e';cases e';exact⟨e,f0,f1,f2,d⟩
theorem Inv.kB{jj pl:List (Addr×Obj)}{σ:St}{H:Hp}{s:Shared}(I:Inv X (jj++pl) σ H s):Inv X jj σ H s:=I.D8 fun p hp=>I.pin p (bc _ (cc _ hp))
theorem bO{iter:Expr}{body:List Stmt}{wi:TI}{g:TG}{tb:TS}{pos:Pos}(hp:PassesOwn (model X.prog X.w) X.A X.env X.xe)(hc:X.calm=true)(hi:PI X tg iter wi)(hg:PG X tg g)(hb:PSs X body tb)
  (hs:∀x,foldedSetIterable iter X.env x=pure x:=by intro _;rfl):PS X (.For tg iter body [] pos) (TJ wi g tb):=by
 intro jj s σ H D I h;refine wpAny_For (thn (hi jj s σ H _ I h) fun v s1 h1=>thn h1 fun itv s2 h2=>?_) hs;obtain⟨it,fp,tn,J,H2,e,I2,T,yb,f2,W,⟨m0,w0⟩,ki⟩:=h2;subst e;have mr:∀{H':Hp},(∀b∈fp,H' b=none)->∀b∈fp,n4 X jj H' b:=fun hn b hb=>⟨hn b hb,(f2 b hb).2⟩
 refine codeAny_forLoop_any (fun n s'=>∃i σ' H',Inv X jj σ' H' s'/\tn i s'.heap/\(∀b∈fp,H' b=none)/\W i n σ' H') ?_ m0 ⟨0,σ,H2,I2,yb,fun b hb=>(f2 b hb).1,w0⟩;rintro n s3 ⟨i,σ3,H3,I3,zr,fr3,w3⟩;rcases ki i n σ3 H3 w3 with⟨stop,qn⟩|⟨go,N,hN,step⟩
 ·refine wpAny_passesOwn hp (thn (T.done X rfl rfl rfl hc i jj s3 σ3 H3 X.xe I3 (mr fr3) zr stop) fun r s4 ⟨hr,I4⟩=>?_);subst hr;exact wpAny_execs_nil ⟨σ3,H3,I4,qn⟩
 ·refine wpAny_passesOwn hp (thn (T.item X rfl rfl rfl hc i jj s3 σ3 H3 X.xe I3 (mr fr3) zr go) fun r s4 ⟨u,hr,h4⟩=>?_);subst hr;refine wpAny_passesOwn hp (thn h4 fun _ s5 ⟨x,H5,I5,r5,y5,uw,fr5⟩=>?_);have I5':=I5.pinned (mr fr5) (T.obj _ _ uw);refine wpAny_passesOwn hp (thn (hg _ s5 σ3 H5 x u _ I5' r5 (step x H5 y5)) fun _ s6 ⟨σ6,H6,I6,q6⟩=>?_);refine wpAny_passesOwn hp (thn (hb _ s6 σ6 H6 _ I6 q6) fun f s7 q7=>?_);have again:∀{σ7:St}{H7:Hp},Inv X (jj++pJ fp s5.heap) σ7 H7 s7->N σ7 H7->∃m,m<n/\∃i σ' H',Inv X jj σ' H' s7/\tn i s7.heap/\(∀b∈fp,H' b=none)/\W i m σ' H':=fun{σ7 H7} I7 n7=>by obtain⟨m',hm,w7⟩:=hN σ7 H7 n7;refine⟨m',hm,i+1,σ7,H7,I7.kB,T.keep _ _ _ uw fun b hb o e=>(I7.pin (b,o) (bc _ (bc _ (jI hb e)))).1,fun b hb=>?_,w7⟩;obtain⟨o,e,d⟩:=T.obj _ _ uw b hb;exact(I7.pin (b,o) (bc _ (bc _ (jI hb e)))).2.1
  cases f with
  |next=>obtain⟨σ7,H7,I7,n7⟩:=q7;exact again I7 n7
  |cont=>obtain⟨σ7,H7,I7,n7⟩:=q7;exact again I7 n7
  |brk=>obtain⟨σ7,H7,I7,q7⟩:=q7;exact⟨σ7,H7,I7.kB,q7⟩
  |ret v=>obtain⟨x7,σ7,H7,I7,r7,q7⟩:=q7;exact⟨x7,σ7,H7,I7.kB,r7,q7⟩
end
theorem gU{K:W.Frag}{a:Addr}{xs:List V}{g:TG}{tb:TS}{D:Ends}{σ:St}{H:Hp}(Pv:Nat->St->Hp->Prop)(h0:Pv 0 σ H)(hl:∀i σ H,i<=xs.length->Pv i σ H->SqL K H a xs)
  (hs:∀i x σ H,xs[i]? =some x->Pv i σ H->g x σ H fun σ2 H2=>tb {D with nx:=Pv (i+1),ct:=Pv (i+1),bk:=D.nx} σ2 H2) (hd:∀σ H,Pv xs.length σ H->D.nx σ H):
  ∃W:Nat->Nat->St->Hp->Prop,(∃m,W 0 m σ H)/\∀i m σ H,W i m σ H ->
   ((Itl K a).stop i H/\D.nx σ H)\/((Itl K a).go i H/\∃N:St->Hp->Prop,(∀σ' H',N σ' H'->∃m',m'<m/\W (i+1) m' σ' H')/\∀x H',(Itl K a).yld i H x H'->g x σ H' fun σ2 H2=>tb {D with nx:=N,ct:=N,bk:=D.nx} σ2 H2):=by
 refine⟨fun i m σ H=>m=xs.length - i/\i<=xs.length/\Pv i σ H,⟨xs.length,by simp,bz _,h0⟩,?_⟩;rintro i m σ H ⟨rfl,hi,p⟩;have q:=hl i σ H hi p;by_cases jr:i<xs.length
 ·refine .inr ⟨⟨xs,xs[i],q,by simp[jr]⟩,Pv (i+1),fun σ' H' p'=>⟨xs.length - (i+1),by omega,rfl,jr,p'⟩,fun x H' y=>?_⟩;obtain⟨e,y⟩:=y;subst e;exact hs i x σ _ (y xs q) p
 ·have e:i=xs.length:=by omega
  subst e;exact .inl ⟨⟨xs,q,au _⟩,hd σ H p⟩
theorem gF{K:W.Frag}{a:Addr}{xs:List V}{g:TG}{tb:TS}{D:Ends}{σ:St}{H:Hp}(Pv:Nat->St->Hp->Prop)(h0:Pv 0 σ H)(hl:∀i σ H,i<=xs.length->Pv i σ H->SqT K H a xs)
  (hs:∀i x σ H,xs[i]? =some x->Pv i σ H->g x σ H fun σ2 H2=>tb {D with nx:=Pv (i+1),ct:=Pv (i+1),bk:=D.nx} σ2 H2) (hd:∀σ H,Pv xs.length σ H->D.nx σ H):
  ∃W:Nat->Nat->St->Hp->Prop,(∃m,W 0 m σ H)/\∀i m σ H,W i m σ H ->
   ((Itt K a).stop i H/\D.nx σ H)\/((Itt K a).go i H/\∃N:St->Hp->Prop,(∀σ' H',N σ' H'->∃m',m'<m/\W (i+1) m' σ' H')/\∀x H',(Itt K a).yld i H x H'->g x σ H' fun σ2 H2=>tb {D with nx:=N,ct:=N,bk:=D.nx} σ2 H2):=by
 refine⟨fun i m σ H=>m=xs.length - i/\i<=xs.length/\Pv i σ H,⟨xs.length,by simp,bz _,h0⟩,?_⟩;rintro i m σ H ⟨rfl,hi,p⟩;have q:=hl i σ H hi p;by_cases jr:i<xs.length
 ·refine .inr ⟨⟨xs,xs[i],q,by simp[jr]⟩,Pv (i+1),fun σ' H' p'=>⟨xs.length - (i+1),by omega,rfl,jr,p'⟩,fun x H' y=>?_⟩;obtain⟨e,y⟩:=y;subst e;exact hs i x σ _ (y xs q) p
 ·have e:i=xs.length:=by omega
  subst e;exact .inl ⟨⟨xs,q,au _⟩,hd σ H p⟩
theorem j6{lo:Int}{n:Nat}{g:TG}{tb:TS}{D:Ends}{σ:St}{H:Hp}(Pv:Nat->St->Hp->Prop)(h0:Pv 0 σ H)
  (hs:∀i σ H,i<n->Pv i σ H->g (.int (lo+i)) σ H fun σ2 H2=>tb {D with nx:=Pv (i+1),ct:=Pv (i+1),bk:=D.nx} σ2 H2) (hd:∀σ H,Pv n σ H->D.nx σ H):
  ∃W:Nat->Nat->St->Hp->Prop,(∃m,W 0 m σ H)/\∀i m σ H,W i m σ H ->
   ((Itr lo n).stop i H/\D.nx σ H)\/((Itr lo n).go i H/\∃N:St->Hp->Prop,(∀σ' H',N σ' H'->∃m',m'<m/\W (i+1) m' σ' H')/\∀x H',(Itr lo n).yld i H x H'->g x σ H' fun σ2 H2=>tb {D with nx:=N,ct:=N,bk:=D.nx} σ2 H2):=by
 refine⟨fun i m σ H=>m=n - i/\i<=n/\Pv i σ H,⟨n,by simp,bz _,h0⟩,?_⟩;rintro i m σ H ⟨rfl,hi,p⟩;by_cases jr:i<n
 ·refine .inr ⟨jr,Pv (i+1),fun σ' H' p'=>⟨n - (i+1),by omega,rfl,jr,p'⟩,fun x H' y=>?_⟩;obtain⟨e,y⟩:=y;subst e y;exact hs i σ _ jr p
 ·have e:i=n:=by omega
  subst e;exact .inl ⟨au _,hd σ H p⟩
theorem n8{c:TT}{tb:TS}{D:Ends}{σ:St}{H:Hp}(Pv:St->Hp->Prop)(μ:St->Hp->Nat)(h0:Pv σ H)
  (hs:∀σ H,Pv σ H->c σ H fun b H1=>if b=true then tb {D with nx:=fun σ' H'=>Pv σ' H'/\μ σ' H'<μ σ H,ct:=fun σ' H'=>Pv σ' H'/\μ σ' H'<μ σ H,bk:=D.nx} σ H1 else D.nx σ H1)
  (mono:∀σ H Q Q',(∀b H1,Q b H1->Q' b H1)->c σ H Q->c σ H Q'):GD c tb D σ H:=by
 refine⟨fun m σ H=>m=μ σ H/\Pv σ H,⟨_,rfl,h0⟩,?_⟩;rintro m σ H ⟨rfl,p⟩;refine mono σ H _ _ (fun b H1 q=>?_) (hs σ H p);cases b with
 |true=>exact⟨_,fun σ' H' ⟨p',l⟩=>⟨_,l,rfl,p'⟩,q⟩
 |false=>exact q
abbrev R2:=V->V->Hp->VK->Prop
noncomputable def OpR(X:Cx)(f:Value->Value->Sem Value)(r:R2):Prop:=
 ∀(jj:List (Addr×Obj))(s:Shared)(σ:St)(H:Hp)(x y:V)(v u:Value)(Q:VK),Inv X jj σ H s->RelV x v->RelV y u->r x y H Q ->
  wpAny (model X.prog X.w) X.A (f v u) (EP X jj σ Q) X.xe s
noncomputable def UnR(X:Cx)(f:Value->Sem Value)(r:V->Hp->VK->Prop):Prop:=
 ∀(jj:List (Addr×Obj))(s:Shared)(σ:St)(H:Hp)(x:V)(v:Value)(Q:VK),Inv X jj σ H s->RelV x v->r x H Q ->
  wpAny (model X.prog X.w) X.A (f v) (EP X jj σ Q) X.xe s
noncomputable def mL(X:Cx)(f:Value)(r:List V->Hp->VK->Prop):Prop:=
 ∀(jj:List (Addr×Obj))(s:Shared)(σ:St)(H:Hp)(xs:List V)(us:List Value)(Q:VK),Inv X jj σ H s->Vals xs us->r xs H Q ->
  wpAny (model X.prog X.w) X.A (call f us) (EP X jj σ Q) X.xe s
noncomputable def XU(X:Cx)(r:V->Hp->(Bool->Hp->Prop)->Prop):Prop:=
 ∀(jj:List (Addr×Obj))(s:Shared)(σ:St)(H:Hp)(x:V)(v:Value)(Q:Bool->Hp->Prop),Inv X jj σ H s->RelV x v->r x H Q ->
  wpAny (model X.prog X.w) X.A (truthy v) (TP X jj σ Q) X.xe s
noncomputable def tOp(r:R2)(ta tb:TE):TE:=fun σ H Q=>ta σ H fun x H1=>tb σ H1 fun y H2=>r x y H2 Q
def tUn(r:V->Hp->VK->Prop)(ta:TE):TE:=fun σ H Q=>ta σ H fun x H1=>r x H1 Q
noncomputable def rI(C:Int->Int->Prop)(g:Int->Int->V):R2:=fun x y H Q=>∃i j,x=.int i/\y=.int j/\C i j/\Q (g i j) H
noncomputable def rI0(g:Int->Int->V):R2:=fun x y H Q=>∃i j,x=.int i/\y=.int j/\Q (g i j) H
def rU(g:Int->V):V->Hp->VK->Prop:=fun x H Q=>∃i,x=.int i/\Q (g i) H
section
variable {X:Cx}{a b c:Expr}{ta tb tc:TE}{pos:Pos}
theorem NM(ha:PE X a ta)(hb:PE X b tb){jj:List (Addr×Obj)}{s:Shared}{σ:St}{H:Hp}{R:V->V->Hp->Prop}(I:Inv X jj σ H s)
  (h:ta σ H fun x H1=>tb σ H1 fun y H2=>R x y H2) {Q:Value->Shared->Prop}{f:Value->Value->Sem Value}
  (hf:∀v u s2 x y H2,Inv X jj σ H2 s2->RelV x v->RelV y u->R x y H2->wpAny (model X.prog X.w) X.A (f v u) Q X.xe s2):
  wpAny (model X.prog X.w) X.A (eval a X.env) (fun v s₁=>wpAny (model X.prog X.w) X.A (eval b X.env) (fun u s₂=>wpAny (model X.prog X.w) X.A (f v u) Q X.xe s₂) X.xe s₁) X.xe s:=by
 refine thn (ha jj s σ H _ I h) fun v s1 ⟨x,H1,I1,r1,q1⟩=>?_
 refine thn (hb jj s1 σ H1 _ I1 q1) fun u s2 ⟨y,H2,I2,r2,q2⟩=>?_
 exact hf v u s2 x y H2 I2 r1 r2 q2
theorem cK{op:Operator}{r:R2}(ho:OpR X (binaryOp op) r)(ha:PE X a ta)(hb:PE X b tb):PE X (.BinOp a op b pos) (tOp r ta tb):=by intro jj s σ H Q I h;exact wpAny_BinOp (NM ha hb I h fun v u s2 x y H2 I2 rx ry q=>ho jj s2 σ H2 x y v u Q I2 rx ry q)
theorem LL{op:UnaryOp}{r:V->Hp->VK->Prop}(ho:UnR X (unaryOp op) r)(ha:PE X a ta):PE X (.UnaryOp op a pos) (tUn r ta):=by intro jj s σ H Q I h;exact UnaryOp_ (thn (ha jj s σ H _ I h) fun v s1 ⟨x,H1,I1,r1,q1⟩=>ho jj s1 σ H1 x v Q I1 r1 q1)
theorem opI{f:Value->Value->Sem Value}{C:Int->Int->Prop}{g:Int->Int->Int}
  (rule:∀(i j:Int)(t u:Tok)(s:Shared)(Q:Value->Shared->Prop)(E:Value->Shared->Prop),C i j->Q (.int (g i j) s.toks) {s with toks:=s.toks+1}->wpAny (model X.prog X.w) X.A (f (.int i t) (.int j u)) Q E s):
  OpR X f (rI C fun i j=>.int (g i j)):=by
 intro jj s σ H x y v u Q I rx ry h;obtain⟨i,j,rfl,rfl,hc,q⟩:=h;obtain⟨t,rfl⟩:=rx;obtain⟨t',rfl⟩:=ry;exact rule i j t t' s _ _ hc ⟨.int (g i j),H,I.tok _,⟨_,rfl⟩,q⟩
theorem OG{f:Value->Value->Sem Value}{g:Int->Int->Int}
  (rule:∀(i j:Int)(t u:Tok)(s:Shared)(Q:Value->Shared->Prop)(E:Value->Shared->Prop),Q (.int (g i j) s.toks) {s with toks:=s.toks+1}->wpAny (model X.prog X.w) X.A (f (.int i t) (.int j u)) Q E s):
  OpR X f (rI0 fun i j=>.int (g i j)):=by
 intro jj s σ H x y v u Q I rx ry h;obtain⟨i,j,rfl,rfl,q⟩:=h;obtain⟨t,rfl⟩:=rx;obtain⟨t',rfl⟩:=ry;exact rule i j t t' s _ _ ⟨.int (g i j),H,I.tok _,⟨_,rfl⟩,q⟩
theorem JZ{f:Value->Value->Sem Value}{g:Int->Int->Bool}
  (rule:∀(i j:Int)(t u:Tok)(s:Shared)(Q:Value->Shared->Prop)(E:Value->Shared->Prop),Q (.bool (g i j)) s->wpAny (model X.prog X.w) X.A (f (.int i t) (.int j u)) Q E s):
  OpR X f (rI0 fun i j=>.bl (g i j)):=by
 intro jj s σ H x y v u Q I rx ry h;obtain⟨i,j,rfl,rfl,q⟩:=h;obtain⟨t,rfl⟩:=rx;obtain⟨t',rfl⟩:=ry;exact rule i j t t' s _ _ ⟨.bl (g i j),H,I,rfl,q⟩
def XX(i j:Int):Prop:=0<j/\j<1073741824
def NP(i j:Int):Prop:=(-(2^64)<i/\i<2^64)\/(-(2^64)<j/\j<2^64)
theorem NP.ok{i j:Int}(h:NP i j):IntMulOk i j:=by
 rcases h with⟨h1,h2⟩|⟨h1,h2⟩
 ·exact .of_left (intBits_le_64 h1 h2)
 ·exact .of_right (intBits_le_64 h1 h2)
theorem eB:OpR X (binaryOp .Add) (rI0 fun i j=>.int (i+j)):=OG fun _ _ _ _ _ _ _ q=>add_int q
theorem pN:OpR X (binaryOp .Sub) (rI0 fun i j=>.int (i - j)):=OG fun _ _ _ _ _ _ _ q=>sub_int q
theorem BE:OpR X (binaryOp .Mult) (rI NP fun i j=>.int (i*j)):=opI fun _ _ _ _ _ _ _ hc q=>mul_int q hc.ok
theorem rM:OpR X (binaryOp .FloorDiv) (rI XX fun i j=>.int (i/j)):=opI fun i j _ _ _ _ _ hc q=>by have h1:(0:Int)<j:=hc.1;have h2:j<1073741824:=hc.2;exact floordiv_int (by omega) (by rw[Int.fdiv_eq_ediv_of_nonneg i (by omega)];exact q) (.inl (PyProof.noPylong_small (by omega)))
theorem BF:OpR X (binaryOp .Mod) (rI (fun _ j=>0<j) fun i j=>.int (i%j)):=opI fun i j _ _ _ _ _ hc q=>by have h1:(0:Int)<j:=hc;exact mod_int' (by omega) (by rw[Int.fmod_eq_emod_of_nonneg i (by omega)];exact q)
theorem unI{f:Value->Sem Value}{g:Int->Int}
  (rule:∀(i:Int)(t:Tok)(s:Shared)(Q:Value->Shared->Prop)(E:Value->Shared->Prop),Q (.int (g i) s.toks) {s with toks:=s.toks+1}->wpAny (model X.prog X.w) X.A (f (.int i t)) Q E s):
  UnR X f (rU fun i=>.int (g i)):=by
 intro jj s σ H x v Q I rx h;obtain⟨i,rfl,q⟩:=h;obtain⟨t,rfl⟩:=rx;exact rule i t s _ _ ⟨.int (g i),H,I.tok _,⟨_,rfl⟩,q⟩
theorem G9:UnR X (unaryOp .USub) (rU fun i=>.int (-i)):=unI fun _ _ _ _ _ q=>neg_int q
end
noncomputable def O9:V->V->Bool
 | .non,.non=>true| .non,.int _=>true| .int _,.non=>true| .non,.bl _=>true| .bl _,.non=>true| .non,.str _=>true| .str _,.non=>true
 | .int _,.int _=>true| .bl _,.bl _=>true| .str _,.str _=>true| .byt _,.byt _=>true
 | .int _,.str _=>true| .str _,.int _=>true| .bl _,.str _=>true| .str _,.bl _=>true
 |_,_=>false
def rEq:R2:=fun x y H Q=>O9 x y=true/\Q (.bl (decide (x=y))) H
def rNe:R2:=fun x y H Q=>O9 x y=true/\Q (.bl (!decide (x=y))) H
theorem rO{i j:Int}:decide (V.int i=V.int j)=(i==j):=by rw[dh];simp
theorem IZ{i j:Bool}:decide (V.bl i=V.bl j)=(i==j):=by rw[dh];simp
theorem DW{i j:Str}:decide (V.str i=V.str j)=(i==j):=by rw[dh];simp
theorem DX{i j:Array UInt8}:decide (V.byt i=V.byt j)=(i.toList==j.toList):=by rw[dh];cases i;cases j;simp
section
variable {X:Cx}{a b c:Expr}{ta tb tc:TE}{pos:Pos}
theorem bP{jj:List (Addr×Obj)}{σ:St}{H:Hp}{s:Shared}{Q:VK}{k k':Bool}(I:Inv X jj σ H s)(q:Q (.bl k) H)(e:k=k'):EP X jj σ Q (.bool k') s:=by subst e;exact⟨.bl k,H,I,rfl,q⟩
theorem jV:OpR X (compareOp .Eq) rEq:=by
 intro jj s σ H x y v u Q I rx ry h;obtain⟨hs,q⟩:=h;cases x with
 |non=>
  cases rx;cases y with
  |non=>cases ry;exact PySem.EqNone.eq_none_none (bP I q (by simp))
  |bl j=>cases ry;exact PySem.EqNone.eq_none_bool (bP I q (by simp))
  |int j=>obtain⟨t',rfl⟩:=ry;exact PySem.EqNone.eq_none_int (bP I q (by simp))
  |str j=>obtain⟨t',rfl⟩:=ry;exact PySem.EqNone.eq_none_str (bP I q (by simp))
  |_=>exact absurd (show false=true from hs) bp
 |bl i=>
  cases rx;cases y with
  |non=>cases ry;exact PySem.EqNone.eq_bool_none (bP I q (by simp))
  |bl j=>cases ry;exact eq_bool (bP I q IZ)
  |str j=>obtain⟨t',rfl⟩:=ry;exact PySem.EqMixed.eq_bool_str (bP I q (by simp))
  |_=>exact absurd (show false=true from hs) bp
 |int i=>
  obtain⟨t,rfl⟩:=rx;cases y with
  |non=>cases ry;exact PySem.EqNone.eq_int_none (bP I q (by simp))
  |int j=>obtain⟨t',rfl⟩:=ry;exact eq_int (bP I q rO)
  |str j=>obtain⟨t',rfl⟩:=ry;exact PySem.EqMixed.eq_int_str (bP I q (by simp))
  |_=>exact absurd (show false=true from hs) bp
 |str i=>
  obtain⟨t,rfl⟩:=rx;cases y with
  |non=>cases ry;exact PySem.EqNone.eq_str_none (bP I q (by simp))
  |bl j=>cases ry;exact PySem.EqMixed.eq_str_bool (bP I q (by simp))
  |int j=>obtain⟨t',rfl⟩:=ry;exact PySem.EqMixed.eq_str_int (bP I q (by simp))
  |str j=>obtain⟨t',rfl⟩:=ry;exact eq_str (bP I q DW)
  |_=>exact absurd (show false=true from hs) bp
 |byt i=>
  obtain⟨t,rfl⟩:=rx;cases y with
  |byt j=>obtain⟨t',rfl⟩:=ry;exact W.eq_bytes (bP I q DX)
  |_=>exact absurd (show false=true from hs) bp
 |_=>cases y<;>exact absurd (show false=true from hs) bp
theorem LM:OpR X (compareOp .NotEq) rNe:=by
 intro jj s σ H x y v u Q I rx ry h;obtain⟨hs,q⟩:=h;cases x with
 |non=>
  cases rx;cases y with
  |non=>cases ry;exact PySem.EqNone.ne_none_none (bP I q (by simp))
  |bl j=>cases ry;exact PySem.EqNone.ne_none_bool (bP I q (by simp))
  |int j=>obtain⟨t',rfl⟩:=ry;exact PySem.EqNone.ne_none_int (bP I q (by simp))
  |str j=>obtain⟨t',rfl⟩:=ry;exact PySem.EqNone.ne_none_str (bP I q (by simp))
  |_=>exact absurd (show false=true from hs) bp
 |bl i=>
  cases rx;cases y with
  |non=>cases ry;exact PySem.EqNone.ne_bool_none (bP I q (by simp))
  |bl j=>cases ry;exact ne_bool (bP I q (congrArg not IZ))
  |str j=>obtain⟨t',rfl⟩:=ry;exact PySem.EqMixed.ne_bool_str (bP I q (by simp))
  |_=>exact absurd (show false=true from hs) bp
 |int i=>
  obtain⟨t,rfl⟩:=rx;cases y with
  |non=>cases ry;exact PySem.EqNone.ne_int_none (bP I q (by simp))
  |int j=>obtain⟨t',rfl⟩:=ry;exact ne_int (bP I q (congrArg not rO))
  |str j=>obtain⟨t',rfl⟩:=ry;exact PySem.EqMixed.ne_int_str (bP I q (by simp))
  |_=>exact absurd (show false=true from hs) bp
 |str i=>
  obtain⟨t,rfl⟩:=rx;cases y with
  |non=>cases ry;exact PySem.EqNone.ne_str_none (bP I q (by simp))
  |bl j=>cases ry;exact PySem.EqMixed.ne_str_bool (bP I q (by simp))
  |int j=>obtain⟨t',rfl⟩:=ry;exact PySem.EqMixed.ne_str_int (bP I q (by simp))
  |str j=>obtain⟨t',rfl⟩:=ry;exact ne_str (bP I q (congrArg not DW))
  |_=>exact absurd (show false=true from hs) bp
 |byt i=>
  obtain⟨t,rfl⟩:=rx;cases y with
  |byt j=>obtain⟨t',rfl⟩:=ry;exact W.ne_bytes (bP I q (congrArg not DX))
  |_=>exact absurd (show false=true from hs) bp
 |_=>cases y<;>exact absurd (show false=true from hs) bp
theorem yY:OpR X (compareOp .Lt) (rI0 fun i j=>.bl (decide (i<j))):=JZ fun _ _ _ _ _ _ _ q=>lt_int q
theorem LN:OpR X (compareOp .LtE) (rI0 fun i j=>.bl (decide (i<=j))):=JZ fun _ _ _ _ _ _ _ q=>le_int q
theorem vN:OpR X (compareOp .Gt) (rI0 fun i j=>.bl (decide (j<i))):=JZ fun _ _ _ _ _ _ _ q=>gt_int q
theorem OF:OpR X (compareOp .GtE) (rI0 fun i j=>.bl (decide (j<=i))):=JZ fun _ _ _ _ _ _ _ q=>ge_int q
theorem c8(b:Expr){op:CmpOp}(h:op≠ .In:=by decide)(h2:op≠ .NotIn:=by decide):behindInMarks op b=false:=by
 have e1:(op==CmpOp.In)=false:=by cases op<;>first|rfl|exact absurd rfl h
 have e2:(op==CmpOp.NotIn)=false:=by cases op<;>first|rfl|exact absurd rfl h2
 cases b<;>simp[behindInMarks,e1,e2]
theorem wY{op:CmpOp}{r:R2}(ho:OpR X (compareOp op) r)(ha:PE X a ta)(hb:PE X b tb)(hm:behindInMarks op b=false):PE X (.Compare a [op] [b] pos) (tOp r ta tb):=by intro jj s σ H Q I h;exact wpAny_Compare1 (NM ha hb I h fun v u s2 x y H2 I2 rx ry q=>ho jj s2 σ H2 x y v u Q I2 rx ry q) hm
def NU(t:TE):TT:=fun σ H Q=>t σ H fun x H'=>∃k,x=.bl k/\Q k H'
theorem bU{op:CmpOp}{r:R2}(ho:OpR X (compareOp op) r)(ha:PE X a ta)(hb:PE X b tb)(hm:behindInMarks op b=false):PT X (.Compare a [op] [b] pos) (NU (tOp r ta tb)):=by
 intro jj s σ H Q I h;refine wpAny_isTrue_Compare1 (thn (ha jj s σ H _ I h) fun v s1 ⟨x,H1,I1,r1,q1⟩=>thn (hb jj s1 σ H1 _ I1 q1) fun u s2 ⟨y,H2,I2,r2,q2⟩=>
  thn (ho jj s2 σ H2 x y v u _ I2 r1 r2 q2) fun c s3 ⟨z,H3,I3,r3,k,e,q3⟩=>?_) hm
 subst e;cases r3;exact wpAny_truthy_bool ⟨H3,I3,q3⟩
noncomputable def M7(r r':R2)(ta tb tc:TE):TE:=fun σ H Q=>ta σ H fun x H1=>tb σ H1 fun y H2=>r x y H2 fun z H3=>∃k,z=.bl k/\
 (if k=true then tc σ H3 fun w' H4=>r' y w' H4 Q else Q (.bl false) H3)
theorem yQ{op op':CmpOp}{r r':R2}(ho:OpR X (compareOp op) r)(rm:OpR X (compareOp op') r')(ha:PE X a ta)(hb:PE X b tb)(hc:PE X c tc)
  (hm:lastMarks [op,op'] [b,c]=false:=by with_unfolding_all rfl):PE X (.Compare a [op,op'] [b,c] pos) (M7 r r' ta tb tc):=by
 intro jj s σ H Q I h;refine Compare_chain (thn (ha jj s σ H _ I h) fun v s1 ⟨x,H1,I1,r1,q1⟩=>chain_link (thn (hb jj s1 σ H1 _ I1 q1) fun u s2 ⟨y,H2,I2,r2,q2⟩=>
  thn (ho jj s2 σ H2 x y v u _ I2 r1 r2 q2) fun d s3 ⟨z,H3,I3,r3,k,e,q3⟩=>?_)) hm
 subst e;cases r3;refine wpAny_truthy_bool ?_;cases k with
 |false=>exact ite_ff ⟨.bl false,H3,I3,rfl,q3⟩
 |true=>exact ite_tt (chain_last (thn (hc jj s3 σ H3 _ I3 q3) fun w' s4 ⟨z',H4,I4,r4,q4⟩=>rm jj s4 σ H4 y z' u w' Q I4 r2 r4 q4))
noncomputable def T5(K:W.Frag)(x:V)(H:Hp)(k:Bool):Prop:=
 match x with
 | .non=>k=false
 | .bl b=>k=b
 | .int i=>k=(i !=0)
 | .str y=>y.length<=sizeLine/\k=((y.length:Int) !=0)
 | .byt y=>y.size<=sizeLine/\k=((y.size:Int) !=0)
 | .ref p=>(∃xs,SqL K H p xs/\k=!xs.isEmpty)\/(∃xs,SqT K H p xs/\k=!xs.isEmpty)\/∃kvs,H p=some (.dK kvs)/\k=!kvs.isEmpty
 |_=>False
theorem BY{κ:Type}{kvs:List (κ×V)}{vs:List (κ×Value)}(r:KV kvs vs):(!vs.isEmpty)=!kvs.isEmpty:=by cases r<;>rfl
theorem tL{xs:List V}{its:List Value}(r:Vals xs its):(!its.toArray.isEmpty)=!xs.isEmpty:=by cases r<;>simp
theorem tG:(sizeLine:Nat)<2^63:=by rw[sizeLine_eq];decide
theorem LW:XU X (fun x H Q=>∃k,T5 X.K x H k/\Q k H):=by
 intro jj s σ H x v Q I rx h;obtain⟨k,e,q⟩:=h;have hl:=tG;have hs:sizeLine=16777216:=sizeLine_eq;cases x with
 |non=>cases rx;have e':k=false:=e;subst e';exact truthy_none ⟨H,I,q⟩
 |bl b=>cases rx;have e':k=b:=e;subst e';exact wpAny_truthy_bool ⟨H,I,q⟩
 |int i=>obtain⟨t,rfl⟩:=rx;have e':k=(i !=0):=e;subst e';exact PySem.P.truthy_int ⟨H,I,q⟩
 |str y=>obtain⟨t,rfl⟩:=rx;obtain⟨hy,e'⟩:y.length<=sizeLine/\k=((y.length:Int) !=0):=e;subst e';exact PySem.P.truthy_str (by omega) ⟨H,I.tok _,q⟩
 |byt y=>obtain⟨t,rfl⟩:=rx;obtain⟨hy,e'⟩:y.size<=sizeLine/\k=((y.size:Int) !=0):=e;subst e';exact W.truthy_bytes (by omega) ⟨H,I.tok _,q⟩
 |ref p=>
  cases rx;have e':(∃xs,SqL X.K H p xs/\k=!xs.isEmpty)\/(∃xs,SqT X.K H p xs/\k=!xs.isEmpty)\/∃kvs,H p=some (.dK kvs)/\k=!kvs.isEmpty:=e
  rcases e' with⟨xs,hx,e'⟩|⟨xs,hx,e'⟩|⟨kvs,hx,e'⟩
  ·subst e';obtain⟨its,r,pl,hz⟩:=I.list hx;have jt:=r.length;exact wpAny_truthy_list pl.isList (by simp only[bj];omega) ⟨H,I.tok _,by rw[tL r];exact q⟩
  ·subst e';obtain⟨its,r,pl,hz⟩:=I.tuple hx;have jt:=r.length;exact truthy_tuple pl (by simp only[bj];omega) ⟨H,I.tok _,by rw[tL r];exact q⟩
  ·subst e';obtain⟨hz,hS,vs,r,m⟩:kvs.length<=sizeLine/\(p==sysModules)=false/\∃vs,KV kvs vs/\s.heap.DictOf (c6 X.prog X.w) p vs:=I.hok p _ hx
   have jt:kvs.length=vs.length:=Paired.length r;exact wpAny_truthy_dict hS m (by omega) ⟨H,I.tok _,by rw[BY r];exact q⟩
 |_=>exact(show False from e).elim
theorem sS(ha:PE X a ta)(he:∀mh,isTrue a X.env mh=(do let v<- mh;standAt a.pos;holding [v] (truthy v))):
  PT X a (fun σ H Q=>ta σ H fun x H'=>∃k,T5 X.K x H' k/\Q k H'):=by
 intro jj s σ H Q I h;exact isTrue_plain (thn (ha jj s σ H _ I h) fun v s1 ⟨x,H1,I1,r1,q1⟩=>LW jj s1 σ H1 x v Q I1 r1 q1) (he _)
theorem vals1{x:V}{us:List Value}(r:Vals [x] us):∃u,us=[u]/\RelV x u:=by
 cases r with
 |cons r1 r2=>cases r2;exact⟨_,rfl,r1⟩
theorem vals2{x y:V}{us:List Value}(r:Vals [x,y] us):∃u w',us=[u,w']/\RelV x u/\RelV y w':=by
 cases r with
 |cons r1 r2=>
  cases r2 with
  |cons r3 r4=>cases r4;exact⟨_,_,rfl,r1,r3⟩
theorem FY(hc:X.calm=true):mL X (.builtin "max") (fun xs H Q=>∃i j,xs=[.int i,.int j]/\Q (.int (if j>i then j else i)) H):=by
 intro jj s σ H xs us Q I r h;obtain⟨i,j,rfl,q⟩:=h;obtain⟨u,w',rfl,⟨t,rfl⟩,⟨t',rfl⟩⟩:=vals2 r;refine max_two_ints (I.ok.hd hc) fun h' tk k=>⟨_,H,I.kept k,?_,q⟩
 by_cases hj:j>i
 ·rw[ah hj,ah hj];exact⟨_,rfl⟩
 ·rw[af hj,af hj];exact⟨_,rfl⟩
theorem FW(hc:X.calm=true):mL X (.builtin "min") (fun xs H Q=>∃i j,xs=[.int i,.int j]/\Q (.int (if j<i then j else i)) H):=by
 intro jj s σ H xs us Q I r h;obtain⟨i,j,rfl,q⟩:=h;obtain⟨u,w',rfl,⟨t,rfl⟩,⟨t',rfl⟩⟩:=vals2 r;refine min_two_ints (I.ok.hd hc) fun h' tk k=>⟨_,H,I.kept k,?_,q⟩
 by_cases hj:j<i
 ·rw[ah hj,ah hj];exact⟨_,rfl⟩
 ·rw[af hj,af hj];exact⟨_,rfl⟩
end
structure G2(h:Heap)(x dx C:Addr)(mA:Str->Option Value):Prop where
 obj:h.get? x=some (W.instObj C dx)
 ns:h.Ns1 dx mA
 ne:dx≠x
theorem EV{h:Heap}{dx:Addr}{mA:Str->Option Value}(n:h.Ns1 dx mA):∃od,h.get? dx=some od/\∀name,W.lookIn name od=some (mA name):=by
 obtain⟨o,es,ep,ho,hd,hk,_,hm⟩:=n;refine⟨o,ho,fun name=>?_⟩;have e:=hm name;unfold nsFind findBy at e;rw[<- Array.find?_toList]at e;unfold W.lookIn;rw[hd];dsimp only;split
 ·rename_i y q;rw[q]at e;exact congrArg some e
 ·rename_i q;rw[q]at e;have a:es.toList.any (·.refKey)=false:=by rw[List.any_eq_false];intro y hy;obtain⟨z,t,me⟩:=hk y (Array.mem_toList_iff.mp hy);simp[DictEntry.refKey,me]
  have a':¬es.toList.any (·.refKey)=true:=by rw[a];exact bp
  rw[af a'];exact congrArg some e
theorem G2.look{h:Heap}{x dx C:Addr}{mA:Str->Option Value}(I:G2 h x dx C mA):∃od,W.InstAt h x (W.instObj C dx) C (some od)/\∀name,W.lookIn name od=some (mA name):=
 let⟨od,ho,hl⟩:=EV I.ns
 ⟨od,⟨I.obj,rfl,rfl,ho⟩,hl⟩
section
variable {prog:Program}{w:World}{A:Around}{E:Value->Shared->Prop}{s:Shared}{K:W.Frag}{x dx C f:Addr}{mA:Str->Option Value}{name:Str}{v:Value}
theorem get_map{expr:Bool}{Q:Value->Shared->Prop}(X:K.In s.heap)(I:G2 s.heap x dx C mA)(hg:W.plainGet K C name=true)(hh:W.hasDictIn K C=true)
  (ha:W.findIn K (.ref C) name=some none) (hv:mA name=some v) (hv':W.handedIn v=true) (h:Q v {s with toks:=s.toks+1}):
  wpAny (model prog w) A (getAttr (.ref x) name expr) Q E s:=by
 obtain⟨od,J,hl⟩:=I.look;exact W.get_value X J (W.plainGet_of hg).1 (W.findObj_own hh ha rfl (by rw[hl,hv])) hv' h
theorem JN{ns:List Str}{Q:Unit->Shared->Prop}(X:K.In s.heap)(I:G2 s.heap x dx C mA)
  (hs:W.findIn K (.ref C) "__setattr__" =some (some (.builtin "object.__setattr__"))) (hp:W.plainOver K C=true) (ht:W.takerIn K C name=some none) (hh:W.hasDictIn K C=true)
  (hw:PySem.Within mA ns) (hsz:ns.length<=sizeLine)
  (h:∀h',G2 h' x dx C (fun y=>if y=name then some v else mA y)->Heap.SameBut dx s.heap h'->Q () {s with heap:=h',toks:=s.toks+2}):
  wpAny (model prog w) A (setAttr (.ref x) name v) Q E s:=by
 obtain⟨od,J,hl⟩:=I.look;refine W.set_plain X J hs (W.osa_open (s:={s with toks:=s.toks+1}) (r:=none) X J hp ht fun b=>?_);obtain⟨cd,hc,we⟩:=W.any_some hh;have hx:s.heap.get? x=some ⟨.ref C,some dx,.plain,#[]⟩:=I.obj;refine aa (ag (aa (aa (wpAny_loadPart hx (aa (W.Looks.here (s:={s with toks:=s.toks+1}) (W.looks_clsIn X hc) ?_))))));rw[we];refine ag (a:=some dx) (aa (ag (aa ?_)));refine wpAny_nsSet1 (s:={s with toks:=s.toks+1}) I.ns fun h' Ab qi=>?_
 obtain⟨oD,esD,epD,hoD,hdD,hcD⟩:=Ab.count (PySem.Within.cons name v hw);refine aa (wpAny_lookBehind hoD (by rw[hdD];exact pastItsLine_dict (de hcD (by rw[bo];omega))) ?_);exact ag (h _ ⟨(qi.2 _ (Ne.symm I.ne)).trans I.obj,Ab,I.ne⟩ qi)
theorem HU{R:Result->Shared->Prop}{vs:List Value}{kw:List (Str×Value)}(X:K.In s.heap)(hm:W.makesIn K C=true)
  (hi:W.findIn K (.ref C) "__init__" =some (some (.ref f))) (hf:W.typeIn K (.ref f)=some (.type "function"))
  (h:codeAny (model prog w) (A.under (.builtin "type.__call__" ⟨.ref C::vs,kw⟩)) (.call (.ref f) ⟨.ref (s.heap.objs.size+1)::vs,kw⟩) (W.InitBack (s.heap.objs.size+1) R)
   {s with heap:=(s.heap.push W.emptyDict).push (W.instObj C s.heap.objs.size)}):
  codeAny (model prog w) A (.call (.ref C) ⟨vs,kw⟩) R s:=by
 obtain⟨hh,g,d,t,os⟩:=s;exact W.make_core (W.makes_of X hm) (W.looks_findIn X hi) (fun self=>W.bind_fn X self hf) (.inl rfl) h
end
noncomputable def bV(f:Str)(v:V):List (Str×V)->List (Str×V)
 |[]=>[(f,v)]
 |(g,x)::r=>if g=f then(g,v)::r else(g,x)::bV f v r
theorem bN(f g:Str)(v:V):∀fs:List (Str×V),(bV f v fs).lookup g=if g=f then some v else fs.lookup g
 |[]=>by
  show List.lookup g [(f,v)]=_
  by_cases h:g=f
  ·have hb:(g==f)=true:=beq_iff_eq.mpr h;simp only[List.lookup,hb,ah h]
  ·have hb:(g==f)=false:=beq_eq_false_iff_ne.mpr h;simp only[List.lookup,hb,af h]
 |(k,x)::r=>by
  have ih:=bN f g v r;rw[show bV f v ((k,x)::r)=(if k=f then(k,v)::r else(k,x)::bV f v r)from rfl];by_cases hk:k=f
  ·rw[ah hk];by_cases h:g=k
   ·have hb:(g==k)=true:=beq_iff_eq.mpr h;simp only[List.lookup,hb,ah (h.trans hk)]
   ·have hb:(g==k)=false:=beq_eq_false_iff_ne.mpr h;simp only[List.lookup,hb,af (fun e:g=f=>h (e.trans hk.symm))]
  ·rw[af hk];by_cases h:g=k
   ·have hb:(g==k)=true:=beq_iff_eq.mpr h;simp only[List.lookup,hb,af (fun e:g=f=>hk (h.symm.trans e))]
   ·have hb:(g==k)=false:=beq_eq_false_iff_ne.mpr h;simp only[List.lookup,hb];exact ih
theorem pU(f:Str)(v:V):∀fs:List (Str×V),f∈(bV f v fs).map (·.1)/\∀g,g∈fs.map (·.1)->g∈(bV f v fs).map (·.1)
 |[]=>⟨by simp[bV],fun g h=>by simp at h⟩
 |(k,x)::r=>by
  obtain⟨i1,i2⟩:=pU f v r;rw[show bV f v ((k,x)::r)=(if k=f then(k,v)::r else(k,x)::bV f v r)from rfl];by_cases hk:k=f
  ·rw[ah hk];subst hk;exact⟨by simp,fun g h=>by simpa using h⟩
  ·rw[af hk];refine⟨?_,fun g h=>?_⟩
   ·rw[bh];exact ar _ i1
   ·rw[bh]at h ⊢;rcases ak.mp h with e|e
    ·exact ak.mpr (.inl e)
    ·exact ar _ (i2 g e)
theorem dC(f:Str)(v:V):∀fs:List (Str×V),(bV f v fs).length<=fs.length+1
 |[]=>by simp[bV]
 |(k,x)::r=>by
  have ih:=dC f v r;rw[show bV f v ((k,x)::r)=(if k=f then(k,v)::r else(k,x)::bV f v r)from rfl];by_cases hk:k=f
  ·rw[ah hk,bo,bo];omega
  ·rw[af hk,bo,bo];omega
theorem mZ.some_of{v:V}{o:Option Value}(r:mZ (some v) o):∃u,o=some u/\RelV v u:=by
 cases o with
 |none=>exact(show False from r).elim
 |some u=>exact⟨u,rfl,r⟩
theorem F7{v:V}{u:Value}(r:RelV v u):W.handedIn u=true:=by
 cases v with
 |non=>cases (show u=Value.none from r);rfl
 |bl b=>cases (show u=Value.bool b from r);rfl
 |int i=>obtain⟨t,e⟩:=(show∃t,u=Value.int i t from r);cases e;rfl
 |str x=>obtain⟨t,e⟩:=(show∃t,u=Value.str x t from r);cases e;rfl
 |byt b=>obtain⟨t,e⟩:=(show∃t,u=Value.bytes b t from r);cases e;rfl
 |flt b=>obtain⟨t,e⟩:=(show∃t,u=Value.float b t from r);cases e;rfl
 |ref a=>cases (show u=Value.ref a from r);rfl
 |ty n=>cases (show u=Value.type n from r);rfl
section
variable {P:Program}{w:World}{H H':Hp}{h h':Heap}{a C dx:Addr}{fs fs':List (Str×V)}
theorem DN(hok:HOk P w H h)(e:H a=some (.ins C dx fs)):∃mA,G2 h a dx C mA/\(∀f,mZ (fs.lookup f) (mA f))/\PySem.Within mA (fs.map (·.1))/\fs.length<=1000/\H dx=some (.own a):=by obtain⟨d,z,ne,ob,mA,n,r,q⟩:=(show cO P w H h a (.ins C dx fs)from hok a _ e);exact⟨mA,⟨ob,n,ne⟩,r,q,z,d⟩
end
structure Cls(K:W.Frag)(C:Addr):Prop where
 pg:W.plainGet K C Str.empty=true
 hd:W.hasDictIn K C=true
 po:W.plainOver K C=true
 sa:W.findIn K (.ref C) "__setattr__" =some (some (.builtin "object.__setattr__"))
theorem Cls.get{K:W.Frag}{C:Addr}(c:Cls K C)(f:Str):W.plainGet K C f=true:=c.pg
def fY(K:W.Frag)(C:Addr)(f:Str):Prop:=W.findIn K (.ref C) f=some none
theorem fY.NT{K:W.Frag}{C:Addr}{f:Str}(n:fY K C f):W.takerIn K C f=some none:=by unfold W.takerIn;rw[show W.findIn K (.ref C) f=some none from n];rfl
section
variable {X:Cx}{jj:List (Addr×Obj)}{σ:St}{H:Hp}{s:Shared}{a C dx:Addr}{fs:List (Str×V)}{f:Str}{v:V}{A:Around}{E:Value->Shared->Prop}
theorem C6{b:Bool}{Q:Value->Shared->Prop}(I:Inv X jj σ H s)(e:H a=some (.ins C dx fs))(c:Cls X.K C)(n:fY X.K C f)(l:fs.lookup f=some v)
  (h:∀u s',Inv X jj σ H s'->RelV v u->Q u s'):wpAny (model X.prog X.w) A (getAttr (.ref a) f b) Q E s:=by
 obtain⟨mA,O,r,_,_,_⟩:=DN I.hok e;obtain⟨u,hu,ru⟩:=mZ.some_of (v:=v) (o:=mA f) (by rw[<- l];exact r f);exact get_map I.kIn O (c.get f) c.hd n hu (F7 ru) (h u _ (I.tok _) ru)
theorem B3{y:V}{u:Value}{Q:Unit->Shared->Prop}(I:Inv X jj σ H s)(e:H a=some (.ins C dx fs))(c:Cls X.K C)(n:fY X.K C f)(hl:fs.length<1000)(ry:RelV y u)
  (h:∀s',Inv X jj σ (upd H a (.ins C dx (bV f y fs))) s'->Q () s'):wpAny (model X.prog X.w) A (setAttr (.ref a) f u) Q E s:=by
 obtain⟨mA,O,r,wi,_,ho⟩:=DN I.hok e;have hz:(fs.map (·.1)).length<=sizeLine:=by rw[ai,sizeLine_eq];omega
 refine JN I.kIn O c.sa c.po n.NT c.hd wi hz fun h' O' sb=>h _ ?_
 have hd:∃o,h'.get? dx=some o:=let⟨o,_,_,e',_⟩:=O'.ns;⟨o,e'⟩
 refine I.write (x:=a) (e:=dx) (by rw[e];exact True.intro) (.inr ho) (fun b q hb z=>(sb.2 b hb).trans z) hd ?_;refine⟨by rw[aB O.ne];exact ho,?_,O.ne,O'.obj,_,O'.ns,fun g=>?_,fun g hg=>?_⟩
 ·have:=dC f y fs;omega
 ·show mZ ((bV f y fs).lookup g) (if g=f then some u else mA g)
  rw[bN];by_cases q:g=f
  ·rw[ah q,ah q];exact ry
  ·rw[af q,af q];exact r g
 ·by_cases q:g=f
  ·rw[q];exact(pU f y fs).1
  ·refine(pU f y fs).2 g (wi g fun z=>hg ?_);show(if g=f then some u else mA g)=none
   rw[af q];exact z
theorem Inv.made(I:Inv X jj σ H s):Inv X jj σ (upd (upd H s.heap.objs.size (.own (s.heap.objs.size+1))) (s.heap.objs.size+1) (.ins C s.heap.objs.size []))
  {s with heap:=(s.heap.push W.emptyDict).push (W.instObj C s.heap.objs.size)}:=by
 have e1:(s.heap.push W.emptyDict).get? s.heap.objs.size=some W.emptyDict:=az s.heap rfl;have e2:((s.heap.push W.emptyDict).push (W.instObj C s.heap.objs.size)).get? (s.heap.objs.size+1)=some (W.instObj C s.heap.objs.size):=by
  have:=az (s.heap.push W.emptyDict) (o:=W.instObj C s.heap.objs.size) rfl
  rwa [ft]at this
 have e3:(s.heap.push W.emptyDict).Ns s.heap.objs.size (fun _=>none):=⟨W.emptyDict,#[],_,e1,rfl,(fun e he=>absurd he (by simp)),fun _=>rfl⟩;have I1:=I.laid (a:=s.heap.objs.size) (o:=.own (s.heap.objs.size+1)) (h':=s.heap.push W.emptyDict) (t':=s.toks) (fun b u q=>ao _ q) (au _) ⟨_,e1⟩;refine I1.laid (a:=s.heap.objs.size+1) (o:=.ins C s.heap.objs.size []) (t':=s.toks) (fun b u q=>ao _ q) (ie (ft _ _)) ?_;have ne:s.heap.objs.size≠s.heap.objs.size+1:=cv (Nat.lt_succ_self _);refine⟨by rw[aB ne,a8],bz _,ne,e2,fun _=>none,(Heap.Ns1.of_empty e3).at fun o q=>ao _ q,fun _=>True.intro,fun y hy=>absurd rfl hy⟩
theorem LB{prog:Program}{w:World}{env:Env}{e:Expr}{f:Str}{pos:Pos}{s:Shared}{Q:Value->Shared->Prop}(hb:attributeBase e f env (eval e env)=eval e env)
  (h:wpAny (model prog w) A (eval e env) (fun o s₁=>wpAny (model prog w) A (getAttr o f true) Q E s₁) E s):wpAny (model prog w) A (eval (.Attribute e f pos) env) Q E s:=
 Attribute_any_ h (by rw[arm_eval_Attribute,hb])
end
noncomputable def TM(K:W.Frag)(ta:TE)(f:Str):TE:=fun σ H Q=>ta σ H fun x H1=>∃a C dx fs v,x=.ref a/\H1 a=some (.ins C dx fs)/\Cls K C/\fY K C f/\fs.lookup f=some v/\Q v H1
noncomputable def U0(K:W.Frag)(ta tv:TE)(f:Str):TS:=fun D σ H=>tv σ H fun y H1=>ta σ H1 fun x H2=>∃a C dx fs,x=.ref a/\H2 a=some (.ins C dx fs)/\Cls K C/\fY K C f/\fs.length<1000/\
 D.nx σ (upd H2 a (.ins C dx (bV f y fs)))
section
variable {X:Cx}{o e js:Expr}{f:Str}{pos kb mq:Pos}{ta tv:TE}
theorem gQ(he:PE X e ta)(hb:attributeBase e f X.env (eval e X.env)=eval e X.env):PE X (.Attribute e f pos) (TM X.K ta f):=by intro jj s σ H Q I h;refine LB hb (thn (he jj s σ H _ I h) fun u s1 ⟨x,H1,I1,rx,a,C,dx,fs,v,ex,ea,c,n,l,q⟩=>?_);subst ex;obtain rfl:u=Value.ref a:=rx;exact C6 I1 ea c n l fun u' s2 I2 ru=>⟨v,H1,I2,ru,q⟩
theorem pI(ha:PE X o ta)(hv:PE X js tv)(hs:swapsWith js (some (.Attribute o f kb)) pos.line X.env=pure false):PS X (.Assign [.Attribute o f kb] js pos) (U0 X.K ta tv f):=by intro jj s σ H D I h;refine plainObj_wpAny_Assign_Attribute (thn (hv jj s σ H _ I h) fun u s1 ⟨y,H1,I1,ry,q⟩=>thn (ha jj s1 σ H1 _ I1 q) fun ov s2 ⟨x,H2,I2,rx,a,C,dx,fs,ex,ea,c,n,l,q2⟩=>?_) hs;subst ex;obtain rfl:ov=Value.ref a:=rx;exact B3 I2 ea c n l ry fun s3 I3=>⟨σ,_,I3,q2⟩
end
structure cT(k:Nat)(A:Around):Prop where
 hd:A.handled=none
 dp:A.depth+3*k+5<recursionLimit
 un:A.units+16*k+200<cLine
theorem cT.mono{j k:Nat}{A:Around}(r:cT k A)(h:j<=k):cT j A:=⟨r.hd,by have:=r.dp;omega,by have:=r.un;omega⟩
theorem cT.deeper{k:Nat}{A:Around}(r:cT (k+1) A)(env:Env):cT k (A.deeper env):=
 ⟨r.hd,by have:=r.dp;show A.depth+1+3*k+5< _;omega,by have:=r.un;show A.units+3+16*k+200< _;omega⟩
theorem cT.in1{k:Nat}{A:Around}(r:cT (k+1) A):cT k A.in1:=
 ⟨r.hd,by have:=r.dp;show A.depth+3*k+5< _;omega,by have:=r.un;show A.units+1+16*k+200< _;omega⟩
theorem BQ{A:Around}{C:Addr}{us:List Value}{kw:List (Str×Value)}:(A.under (.builtin "type.__call__" ⟨.ref C::us,kw⟩)).depth=A.depth+1:=by first|rfl|simp[Around.under,Code.weight,Code.isCreation,Code.isGuard,Code.isCaller,Code.frames,Code.isFrame,guardIds]
theorem BP{A:Around}{C:Addr}{us:List Value}{kw:List (Str×Value)}:(A.under (.builtin "type.__call__" ⟨.ref C::us,kw⟩)).units=A.units+1:=by first|rfl|simp[Around.under,Code.cUnits,Code.frames,Code.isFrame]
theorem cT.make{k:Nat}{A:Around}(r:cT (k+1) A)(C:Addr)(us:List Value)(kw:List (Str×Value)):cT k (A.under (.builtin "type.__call__" ⟨.ref C::us,kw⟩)):=
 ⟨r.hd,by have:=r.dp;rw[BQ];omega,by have:=r.un;rw[BP];omega⟩
theorem cT.depth{k:Nat}{A:Around}(r:cT k A):A.depth<recursionLimit:=by have:=r.dp;omega
theorem cT.units{k:Nat}{A:Around}(r:cT k A):A.units+64<cLine:=by have:=r.un;omega
def M0:TA:=fun _ H Q=>Q [] H
noncomputable def CY(ta:TE)(tr:TA):TA:=fun σ H Q=>ta σ H fun x H1=>tr σ H1 fun xs H2=>Q (x::xs) H2
section
variable {X:Cx}{e:Expr}{es:List Expr}{te:TE}{t:TA}{pos:Pos}
theorem aC:PA X [] M0:=fun _ _ _ _ H Q I h=>Calls.spliced_nil ⟨[],H,I,.nil,h⟩
theorem a7(ha:PE X e te)(hr:PA X es t)(hs:starEach (e::es) X.env=(false,eval e X.env)::starEach es X.env:=by rfl):PA X (e::es) (CY te t):=by
 intro pos jj s σ H Q I h;rw[hs];show wpAny _ _ (spliced ((false,eval e X.env)::backTo pos (starEach es X.env))) _ _ s
 refine Calls.spliced_cons (thn (ha jj s σ H _ I h) fun u s1 ⟨x,H1,I1,r1,q1⟩=>?_);exact thn (hr pos jj s1 σ H1 _ I1 q1) fun us s2 ⟨xs,H2,I2,r2,q2⟩=>⟨x::xs,H2,I2,.cons r1 r2,q2⟩
noncomputable def T9(t:TA):TE:=fun σ H Q=>t σ H fun xs H1=>xs.length<=sizeLine/\∀p,H1 p=none->Q (.ref p) (upd H1 p (.tup xs))
noncomputable def TF(t:TA):TE:=fun σ H Q=>t σ H fun xs H1=>xs.length<=sizeLine/\∀p,H1 p=none->Q (.ref p) (upd H1 p (.lst xs))
theorem cJ{x1}(h:PA X es t):PE X (.Tuple es x1 pos) (T9 t):=by intro jj s σ H Q I hq;refine wpAny_Tuple_spliced (thn (h pos jj s σ H _ I hq) fun us s1 ⟨xs,H1,I1,r,z,q⟩=>⟨by rw[<- r.length];exact z,?_⟩);have hf:H1 s1.heap.objs.size=none:=I1.hok.fresh (au _);refine⟨.ref s1.heap.objs.size,upd H1 s1.heap.objs.size (.tup xs),I1.laid (t':=s1.toks) (fun b u e=>ao _ e) (au _) ?_,rfl,q _ hf⟩;exact⟨z,us,r,⟨_,az _ rfl,rfl,_,rfl⟩⟩
theorem fF(h:PA X es t):PE X (.List es pos) (TF t):=by intro jj s σ H Q I hq;refine wpAny_List_spliced (thn (h pos jj s σ H _ I hq) fun us s1 ⟨xs,H1,I1,r,z,q⟩=>⟨by rw[<- r.length];exact z,?_⟩);have hf:H1 s1.heap.objs.size=none:=I1.hok.fresh (au _);refine⟨.ref s1.heap.objs.size,upd H1 s1.heap.objs.size (.lst xs),I1.laid (t':=s1.toks) (fun b u e=>ao _ e) (au _) ?_,rfl,q _ hf⟩;exact⟨z,us,0,r,az _ rfl⟩
end
abbrev Sp:=List V->Hp->VK->XK->Prop
abbrev CXT:=List Env->Hp->Shared->XK->Value->Shared->Prop
structure oX(P:Program)(w:World)(K:W.Frag)(mg:Str->Option Value)(base:Heap)(A:Around)(outer:List Env)(s:Shared)(H:Hp):Prop where
 frames:A.frames=some outer
 mod:Mod K mg base
 bs:∀b o,base.get? b=some o->s.heap.get? b=some o/\H b=none
 bsz:base.objs.size<=s.heap.objs.size
 kW:s.heap.FunFrames base outer
 frf:∀b∈frs outer,H b=none
 hok:HOk P w H s.heap
 bare:AllBare s.gens
noncomputable def CE(outer:List Env)(P:Program)(w:World)(H:Hp)(s:Shared)(Q:VK)(u:Value)(s':Shared):Prop:=
 ∃v H',s'.os=s.os/\AllBare s'.gens/\Un (frs outer) [] H H' s.heap s'.heap/\HOk P w H' s'.heap/\RelV v u/\Q v H'
noncomputable def CR(CX:CXT)(outer:List Env)(P:Program)(w:World)(H:Hp)(s:Shared)(Q:VK)(E:XK)(r:Result)(s':Shared):Prop:=
 match r with
 | .ok (.ret u)=>CE outer P w H s Q u s'
 | .ok _=>False
 | .error e=>CX outer H s E e s'
structure bI(P:Program)(w:World)(K:W.Frag)(mg:Str->Option Value)(base:Heap)(CX:CXT)(k:Nat)(f:Addr)(fd:FuncData)(ps:List Str)(sp:Sp):Prop where
 len:∀vs H Q E,sp vs H Q E->vs.length=ps.length
 run:∀(A:Around)(outer:List Env)(s:Shared)(H:Hp)(args:Args)(us:List Value)(vs:List V)(Q:VK)(E:XK),cT k A->oX P w K mg base A outer s H->BindsTo s fd args (ps.zip us)->Vals vs us->sp vs H Q E ->
  codeAny (model P w) A (.call (.ref f) args) (CR CX outer P w H s Q E) s
theorem oX.make{P:Program}{w:World}{K:W.Frag}{mg:Str->Option Value}{base:Heap}{A:Around}{outer:List Env}{s:Shared}{H:Hp}(e:oX P w K mg base A outer s H)(C:Addr)(us:List Value)(kw:List (Str×Value)):
  oX P w K mg base (A.under (.builtin "type.__call__" ⟨.ref C::us,kw⟩)) outer s H:=⟨by first|exact e.frames|(simpa[Around.under,Code.envs,Code.isFrame,pushEnvs]using e.frames),e.mod,e.bs,e.bsz,e.kW,e.frf,e.hok,e.bare⟩
theorem oX.in1{P:Program}{w:World}{K:W.Frag}{mg:Str->Option Value}{base:Heap}{A:Around}{outer:List Env}{s:Shared}{H:Hp}(e:oX P w K mg base A outer s H):
  oX P w K mg base A.in1 outer s H:=⟨e.frames,e.mod,e.bs,e.bsz,e.kW,e.frf,e.hok,e.bare⟩
section
variable {X:Cx}{jj:List (Addr×Obj)}{σ:St}{H:Hp}{s s':Shared}
theorem Inv.IT(I:Inv X jj σ H s):oX X.prog X.w X.K X.mg X.base X.A X.stack s H:=
 ⟨I.ok.frames,I.ok.mod,I.bs,de I.ok.bsz I.sz,I.stack,I.wO,I.hok,I.bare⟩
theorem Inv.after{Q:VK}{u:Value}(I:Inv X jj σ H s)(h:CE X.stack X.prog X.w H s Q u s'):EP X jj σ Q u s':=by obtain⟨v,H',os,bare,un,hok,r,q⟩:=h;obtain⟨hh,g,d,t,os'⟩:=s';obtain rfl:os'=s.os:=os;exact⟨v,H',I.call (h':=hh) (g':=g) (d':=d) (t':=t) (ch:=[]) un hok bare (fun b z=>absurd z (by simp)),r,q⟩
end
noncomputable def CZ(sp:Sp)(qo:List V)(E:XK)(t:TA):TE:=fun σ H Q=>t σ H fun vs H1=>sp (vs++qo) H1 Q E
noncomputable def O3(C:Addr)(sp:Sp)(qo:List V)(E:XK)(t:TA):TE:=fun σ H Q=>t σ H fun vs H1=>∀x dx,H1 x=none->H1 dx=none->dx≠x ->
 sp (.ref x::(vs++qo)) (upd (upd H1 dx (.own x)) x (.ins C dx [])) (fun v H2=>v=.non/\Q (.ref x) H2) E
noncomputable def Binds(K:W.Frag)(fd:FuncData)(ps:List Str)(ds:List Value):Prop:=
 ∀(s:Shared)(us:List Value),K.In s.heap->(us++ds).length=ps.length->BindsTo s fd ⟨us,[]⟩ (ps.zip (us++ds))
theorem Binds.all{K:W.Frag}{fd:FuncData}{ps:List Str}(h:∀us:List Value,us.length=ps.length->bindArgs fd ⟨us,[]⟩=pure (ps.zip us)):Binds K fd ps []:=fun s us _ hl=>by rw[da]at hl ⊢;exact .of_eq (h us hl)
noncomputable def Passes(CX:CXT)(X:Cx)(E:XK):Prop:=∀(jj:List (Addr×Obj))(σ:St)(H:Hp)(s:Shared)(e:Value)(s':Shared),Inv X jj σ H s->CX X.stack H s E e s'->X.xe e s'
section
variable {X:Cx}{CX:CXT}{k:Nat}{f C:Addr}{fd:FuncData}{ps:List Str}{sp:Sp}{qo:List V}{ds:List Value}{E:XK}{x m:Str}{p pos kl:Pos}{e o:Expr}{es:List Expr}{ta:TE}{t:TA}
theorem MB{jj:List (Addr×Obj)}{σ:St}{H:Hp}{s:Shared}{Q:VK}{us:List Value}{vs:List V}(F:bI X.prog X.w X.K X.mg X.base CX k f fd ps sp)(hr:cT k X.A)(hb:Binds X.K fd ps ds)(hd:Vals qo ds)(hx:Passes CX X E)
  (I:Inv X jj σ H s) (r:Vals vs us) (h:sp (vs++qo) H Q E):wpAny (model X.prog X.w) X.A (call (.ref f) us) (EP X jj σ Q) X.xe s:=by
 have r2:Vals (vs++qo) (us++ds):=r.append hd;have hl:(us++ds).length=ps.length:=by rw[<- r2.length];exact F.len _ _ _ _ h
 refine wpAny_call (codeAny_mono (F.run X.A X.stack s H ⟨us,[]⟩ (us++ds) (vs++qo) Q E hr I.IT (hb s us I.kIn hl) r2 h) fun r s' hq=>?_);cases r with
 |error e=>exact hx jj σ H s e s' I hq
 |ok fl=>
  cases fl with
  |ret u=>exact I.after hq
  |next=>exact False.elim hq
  |brk=>exact False.elim hq
  |cont=>exact False.elim hq
theorem JX(F:bI X.prog X.w X.K X.mg X.base CX k f fd ps sp)(hr:cT k X.A)(hg:Gl X x)(hm:X.mg x=some (.ref f))(hk:W.keepIn X.K (.ref f)=true)(hb:Binds X.K fd ps ds)(hd:Vals qo ds)(hx:Passes CX X E)
  (ha:PA X (e::es) t) (rb:(x==("__debug__" : Str))=false:=by decide) (he:starEach (e::es) X.env=(false,eval e X.env)::starEach es X.env:=by rfl) (rl:(backTo pos (starEach es X.env)).any (·.1)=false:=by rfl):
  PE X (.Call (.Name x p) (e::es) [] pos) (CZ sp qo E t):=by
 intro jj s σ H Q I h;refine wpAny_Call_Name_kw (jJ I hg hm ?_ rb);refine W.callWith_K (h₀:=X.base) I.ok.mod.kin hk (thn (ha pos jj s σ H _ I h) fun us s1 ⟨vs,H1,I1,r,q⟩=>⟨I1.kIn,?_⟩) he rl;exact MB F hr hb hd hx I1 r q
structure Mk(K:W.Frag)(C f:Addr):Prop where
 makes:W.makesIn K C=true
 init:W.findIn K (.ref C) "__init__" =some (some (.ref f))
 fn:W.isFn K (.ref f)=true
 kp:W.keepIn K (.ref C)=true
theorem GL{jj:List (Addr×Obj)}{σ:St}{H:Hp}{s:Shared}{Q:VK}{us:List Value}{vs:List V}(M:Mk X.K C f)(F:bI X.prog X.w X.K X.mg X.base CX k f fd ps sp)(hr:cT (k+1) X.A)(hb:Binds X.K fd ps ds)(hd:Vals qo ds)
  (hx:Passes CX X E) (I:Inv X jj σ H s) (r:Vals vs us)
  (h:∀x dx,H x=none->H dx=none->dx≠x->sp (.ref x::(vs++qo)) (upd (upd H dx (.own x)) x (.ins C dx [])) (fun v H2=>v=.non/\Q (.ref x) H2) E):
  wpAny (model X.prog X.w) X.A (call (.ref C) us) (EP X jj σ Q) X.xe s:=by
 have hq:=h (s.heap.objs.size+1) s.heap.objs.size (I.hok.fresh (Nat.le_succ _)) (I.hok.fresh (au _)) (cv (Nat.lt_succ_self _));have I2:=Inv.made (C:=C) I;have r2:Vals (V.ref (s.heap.objs.size+1)::(vs++qo)) (Value.ref (s.heap.objs.size+1)::(us++ds)):=.cons rfl (r.append hd);have hl:(Value.ref (s.heap.objs.size+1)::us++ds).length=ps.length:=by have e:=r2.length;rw[F.len _ _ _ _ hq]at e;exact e.symm
 refine wpAny_call (HU (f:=f) I.kIn M.makes M.init (beq_iff_eq.mp M.fn) (codeAny_mono (F.run _ X.stack _ _ ⟨Value.ref (s.heap.objs.size+1)::us,[]⟩ (Value.ref (s.heap.objs.size+1)::(us++ds)) _ _ E (hr.make C us [])
  (I2.IT.make C us []) (hb _ (Value.ref (s.heap.objs.size+1)::us) I2.kIn hl) r2 hq) fun r s' qd=>?_))
 cases r with
 |error e=>exact hx jj σ _ _ e s' I2 qd
 |ok fl=>
  cases fl with
  |ret u=>obtain⟨v,H',I3,rv,ev,q3⟩:=I2.after qd;subst ev;exact⟨rv,⟨V.ref (s.heap.objs.size+1),H',I3,rfl,q3⟩⟩
  |next=>exact False.elim qd
  |brk=>exact False.elim qd
  |cont=>exact False.elim qd
theorem JV(M:Mk X.K C f)(F:bI X.prog X.w X.K X.mg X.base CX k f fd ps sp)(hr:cT (k+1) X.A)(hg:Gl X x)(hm:X.mg x=some (.ref C))(hb:Binds X.K fd ps ds)(hd:Vals qo ds)(hx:Passes CX X E)
  (ha:PA X (e::es) t) (rb:(x==("__debug__" : Str))=false:=by decide) (he:starEach (e::es) X.env=(false,eval e X.env)::starEach es X.env:=by rfl) (rl:(backTo pos (starEach es X.env)).any (·.1)=false:=by rfl):
  PE X (.Call (.Name x p) (e::es) [] pos) (O3 C sp qo E t):=by
 intro jj s σ H Q I h;refine wpAny_Call_Name_kw (jJ I hg hm ?_ rb);refine W.callWith_K (h₀:=X.base) I.ok.mod.kin M.kp (thn (ha pos jj s σ H _ I h) fun us s1 ⟨vs,H1,I1,r,q⟩=>⟨I1.kIn,?_⟩) he rl;exact GL M F hr hb hd hx I1 r q
end
structure aL(N P:List Str)(sc:Scope):Prop where
 kind:sc.kind=.function
 co:sc.isCoroutine=false
 gen:sc.isGenerator=false
 nd:N.Nodup
 pre:N.take P.length=P
 par:∀x∈P,sc.names.lookup x=some .local\/sc.names.lookup x=some .cell
 MM:∀y∈sc.names,y.2≠ .free
theorem wC{kindOf:Str->Option NameKind}{x:Str}:∀{binds:List (Str×Value)}{m:Str->Option Value},(∀v,(x,v)∉binds)->bindL kindOf binds m x=m x
 |[],_,_=>rfl
 |(n,v)::r,m,h=>by
  unfold bindL;rw[wC fun w hw=>h w (ar _ hw)];split
  ·have:x≠n:=by rintro rfl;exact h v bb
   simp[this]
  ·rfl
theorem wF{kindOf:Str->Option NameKind}{x:Str}:∀{binds:List (Str×Value)}{m:Str->Option Value},(∀v,(x,v)∉binds)->bindC kindOf binds m x=m x
 |[],_,_=>rfl
 |(n,v)::r,m,h=>by
  unfold bindC;rw[wF fun w hw=>h w (ar _ hw)];split
  ·rfl
  ·have:x≠n:=by rintro rfl;exact h v bb
   simp[this]
theorem wD{kindOf:Str->Option NameKind}{x:Str}{v:Value}:∀{P:List Str}{vs:List Value}{i:Nat}{m:Str->Option Value},P.Nodup->P[i]? =some x->vs[i]? =some v->kindOf x=some .local ->
  bindL kindOf (P.zip vs) m x=some v
 |[],_,_,_,_,h,_,_=>by simp at h
 |_::_,[],_,_,_,_,h,_=>by simp at h
 |p::P,w::vs,0,m,nd,h1,h2,hk=>by
  simp at h1 h2;subst h1;subst h2;show bindL kindOf ((p,w)::P.zip vs) m p=_
  unfold bindL;rw[wC fun v hv=>(dc.mp nd).1 (of_mem_zip hv).1,ah hk];simp
 |p::P,w::vs,i+1,m,nd,h1,h2,hk=>by
  show bindL kindOf ((p,w)::P.zip vs) m x=_
  unfold bindL;exact wD (i:=i) (dc.mp nd).2 (by simpa using h1) (by simpa using h2) hk
theorem wG{kindOf:Str->Option NameKind}{x:Str}{v:Value}:∀{P:List Str}{vs:List Value}{i:Nat}{m:Str->Option Value},P.Nodup->P[i]? =some x->vs[i]? =some v->kindOf x≠some .local ->
  bindC kindOf (P.zip vs) m x=some v
 |[],_,_,_,_,h,_,_=>by simp at h
 |_::_,[],_,_,_,_,h,_=>by simp at h
 |p::P,w::vs,0,m,nd,h1,h2,hk=>by
  simp at h1 h2;subst h1;subst h2;show bindC kindOf ((p,w)::P.zip vs) m p=_
  unfold bindC;rw[wF fun v hv=>(dc.mp nd).1 (of_mem_zip hv).1,af hk];simp
 |p::P,w::vs,i+1,m,nd,h1,h2,hk=>by
  show bindC kindOf ((p,w)::P.zip vs) m x=_
  unfold bindC;exact wG (i:=i) (dc.mp nd).2 (by simpa using h1) (by simpa using h2) hk
noncomputable def start(N:List Str)(vs:List V):St:=vs.map some++List.replicate (N.length - vs.length) none
noncomputable def uM(CX:CXT)(P:Program)(w:World)(K:W.Frag)(mg:Str->Option Value)(base:Heap)(N:List Str)(qual:Str)(scope:Scope)(f:Addr)(cd:Value)(A:Around)(outer:List Env)(s:Shared)(H:Hp)(E:XK):Cx where
 prog:=P
 w:=w
 K:=K
 mg:=mg
 base:=base
 A:=A.deeper (envOfC qual scope s.heap.objs.size f cd)
 N:=N
 s_0:=s
 H_0:=H
 env:=envOfC qual scope s.heap.objs.size f cd
 outer:=outer
 stack:=envOfC qual scope s.heap.objs.size f cd::outer
 ex:=[]
 calm:=true
 fn:=fun _=>true
 pn:=[]
 xe:=fun e s'=>wpAny (model P w) (A.deeper (envOfC qual scope s.heap.objs.size f cd)) (leaving (envOfC qual scope s.heap.objs.size f cd) e) (fun _ yg=>CX outer H s E e yg) (fun e' yg=>CX outer H s E e' yg) s'
theorem AI{sc:Scope}{n:Nat}{x:Str}(h:sc.names.lookup x=some .cell):∃c,(cellsFrom n sc.names []).lookup x=some c:=by have q:=W.cellsFrom_some sc.names n [] (.inl h);exact Option.isSome_iff_exists.mp q
theorem pV{CX:CXT}{P:Program}{w:World}{K:W.Frag}{mg:Str->Option Value}{base:Heap}{N ps:List Str}{qual:Str}{scope:Scope}{f:Addr}{cd:Value}{A:Around}{outer:List Env}{s s1:Shared}{H:Hp}{E:XK}{us:List Value}{vs:List V}
  (S:aL N ps scope) (hd:A.handled=none) (e0:oX P w K mg base A outer s H) (hl:vs.length=ps.length) (r:Vals vs us)
  (x:InCallC s s.heap.objs.size (bindL (envOfC qual scope s.heap.objs.size f cd).kindOf (ps.zip us) fun _=>none) (cellsFrom (s.heap.objs.size+1) scope.names []) (bindC (envOfC qual scope s.heap.objs.size f cd).kindOf (ps.zip us) fun _=>none) s1):
  Inv (uM CX P w K mg base N qual scope f cd A outer s H E) [] (start N vs) H s1:=by
 have rl:ps.length<=N.length:=by have:=congrArg List.length S.pre;rw[bu]at this;omega
 obtain⟨h1,tk,rfl,hk⟩:=x.done;have noA:∀b:Addr,b∉ (uM CX P w K mg base N qual scope f cd A outer s H E).ex:=fun b z=>absurd (show b∈([]:List Addr)from z) (by simp)
 refine⟨⟨e0.mod,S.kind,rfl,rfl,au _,fun y z c h1 h2=>?_,fun y hy=>?_,fun y c _ h=>?_,fun _=>hd,Around.frames_deeper e0.frames,.inr ⟨rfl,rfl⟩,fun b z=>absurd z (noA b),e0.bs,e0.bsz,fun b _ _=>noA b,fun b z=>absurd z (noA b),e0.kW,e0.frf⟩,
  rfl,e0.bare,Un.kept hk,⟨_,x.toInCall.ns,fun i y v h1 h2 h3=>?_⟩,fun y c h=>⟨_,x.cell y c h⟩,e0.hok.fresh (au _),fun y c h=>?_,fun p hp=>absurd (show p∈([]:List (Addr×Obj))from hp) (by simp),e0.hok.kept hk,?_⟩
 ·exact name_of_addr x.apart (PySem.mem_of_lookup h1) (PySem.mem_of_lookup h2)
 ·have hy:scope.names.lookup y=some .cell\/scope.names.lookup y=some .free:=hy;rcases hy with hy|hy
  ·exact AI hy
  ·exact absurd rfl (S.MM _ (PySem.mem_of_lookup hy))
 ·exact le_of_lt (x.above y c (PySem.mem_of_lookup h))
 ·have hi:i<vs.length:=by
   unfold start at h2;by_cases hi:i<vs.length
   ·exact hi
   ·rw[dj (by simpa using hi)]at h2;rw[List.getElem?_replicate]at h2;split at h2<;>cases h2
  have ha:vs[i]? =some v:=by
   unfold start at h2;rw[gy (by simpa using hi),bf]at h2;cases e:vs[i]? with
   |none=>rw[e]at h2;cases h2
   |some a=>rw[e]at h2;cases h2;rfl
  obtain⟨u,hu,rv⟩:=r.get ha;have hp:ps[i]? =some y:=by rw[<- S.pre,fu (by omega)];exact h1
  have ndP:ps.Nodup:=by rw[<- S.pre];exact S.nd.sublist (List.take_sublist _ _)
  refine⟨u,rv,?_⟩;rcases S.par y (ay hp)with k|k
  ·exact .inl ⟨k,wD ndP hp hu k⟩
  ·obtain⟨c,e⟩:=AI (n:=s.heap.objs.size+1) k;refine .inr ⟨.inl k,c,e,?_⟩;have q:=x.cell y c e;rw[wG ndP hp hu (by show scope.names.lookup y≠ _;rw[k];decide)]at q;exact q
 ·exact e0.hok.fresh (le_of_lt (x.above y c (PySem.mem_of_lookup h)))
 ·unfold start;show _=N.length
  rw[aj,ai,List.length_replicate];omega
theorem SS{CX:CXT}{P:Program}{w:World}{K:W.Frag}{mg:Str->Option Value}{base:Heap}{k:Nat}{f:Addr}{name qual:Str}{params:Arguments}{body:List Stmt}{scope:Scope}{dV kV kx pm jo ct oc:Value}{an od:Option Addr}
  {mf:Array (Option Value)}{N ps:List Str}{sp:Sp} (lk:K.lookup f=some ⟨oc,od,.func (W.fnOf name qual params body scope dV kV kx pm an jo ct),mf⟩) (nu:W.codeIn K jo qual=true) (S:aL N ps scope)
  (len:∀vs H Q E,sp vs H Q E->vs.length=ps.length)
  (ko:∀(A:Around)(outer:List Env)(s:Shared)(H:Hp)(vs:List V)(Q:VK)(E:XK),cT k (A.deeper (envOfC qual scope s.heap.objs.size f jo))->sp vs H Q E ->
   ∃t,PSs (uM CX P w K mg base N qual scope f jo A outer s H E) body t/\t {nx:=fun _ H'=>Q .non H',rt:=Q} (start N vs) H):
  bI P w K mg base CX (k+1) f (W.fnOf name qual params body scope dV kV kx pm an jo ct) ps sp:=by
 refine⟨len,fun A outer s H args us vs Q E hr e0 hb r sv=>?_⟩;have hl:=len _ _ _ _ sv;have KX:K.In s.heap:=e0.mod.kin.keeps fun b o e=>(e0.bs b o e).1
 have yl:s.heap.NoLimit:=e0.mod.nolimit.keeps fun b o e=>(e0.bs b o e).1
 have pj:∀y∈ps.zip us,scope.names.lookup y.1=some .local\/(scope.names.lookup y.1=some .cell/\((cellsFrom (s.heap.objs.size+1) scope.names []).lookup y.1).isSome=true):=fun⟨n,v⟩ hy=>by
  rcases S.par n (of_mem_zip hy).1 with q|q
  ·exact .inl q
  ·exact .inr ⟨q,W.cellsFrom_some _ _ _ (.inl q)⟩
 refine codeAny_call_function hr.depth (KX _ _ lk) rfl S.co S.gen rfl (W.codeRec_of KX nu) (hb _ _ _ _ ?_);refine wpAny_newFunctionEnv_cells S.kind pj fun env he s1 x=>?_
 subst he;refine⟨yl.keeps x.toInCall.keep,codeAny_func ?_⟩;obtain⟨t,ht,hq⟩:=ko A outer s H vs Q E (hr.deeper _) sv;have I:Inv (uM CX P w K mg base N qual scope f jo A outer s H E) [] (start N vs) H s1:=pV S hr.hd e0 hl r x;refine wpAny_mono (ht [] s1 (start N vs) H _ I hq) (fun fl s' hs=>?_) fun e s' hs=>hs
 have fin:∀{σ':St}{H':Hp}{v:V}{u:Value},Inv (uM CX P w K mg base N qual scope f jo A outer s H E) [] σ' H' s'->RelV v u->Q v H'->CE outer P w H s Q u s':=
  fun{σ' H' v u} J rv q=>⟨v,H',J.os,J.bare,J.base,J.hok,rv,q⟩
 cases fl with
 |ret u=>obtain⟨v,σ',H',J,rv,q⟩:=hs;exact fin J rv q
 |next=>obtain⟨σ',H',J,q⟩:=hs;exact fin (v:=V.non) (u:=Value.none) J rfl q
 |brk=>obtain⟨_,_,_,q⟩:=hs;exact False.elim q
 |cont=>obtain⟨_,_,_,q⟩:=hs;exact False.elim q
section
variable {X:Cx}{x:Str}{p pos:Pos}{e:Expr}{es:List Expr}{t:TA}{id T:String}{r:List V->Hp->VK->Prop}
noncomputable def tCB(r:List V->Hp->VK->Prop)(t:TA):TE:=fun σ H Q=>t σ H fun vs H1=>r vs H1 Q
theorem bM(hc:mL X (.builtin id) r)(hg:Gl X x)(hm:X.mg x=none)(hv:bootBuiltins x=some (.builtin id))(ha:PA X (e::es) t)(hn:x≠ "__name__" :=by decide)(rb:(x==("__debug__" : Str))=false:=by decide)
  (he:starEach (e::es) X.env=(false,eval e X.env)::starEach es X.env:=by rfl) (rl:(backTo pos (starEach es X.env)).any (·.1)=false:=by rfl):PE X (.Call (.Name x p) (e::es) [] pos) (tCB r t):=by
 intro jj s σ H Q I h;refine wpAny_Call_Name_kw (pS I hg hm hv ?_ hn rb);exact PyProof.Rows.callWith_builtin1 (thn (ha pos jj s σ H _ I h) fun us s1 ⟨vs,H1,I1,r1,q1⟩=>hc jj s1 σ H1 vs us Q I1 r1 q1) he rl
theorem vI(hc:mL X (.type T) r)(hg:Gl X x)(hm:X.mg x=none)(hv:bootBuiltins x=some (.type T))(ha:PA X (e::es) t)(hn:x≠ "__name__" :=by decide)(rb:(x==("__debug__" : Str))=false:=by decide)
  (he:starEach (e::es) X.env=(false,eval e X.env)::starEach es X.env:=by rfl) (rl:(backTo pos (starEach es X.env)).any (·.1)=false:=by rfl):PE X (.Call (.Name x p) (e::es) [] pos) (tCB r t):=by
 intro jj s σ H Q I h;refine wpAny_Call_Name_kw (pS I hg hm hv ?_ hn rb);exact PyProof.Rows.callWith_type1 (thn (ha pos jj s σ H _ I h) fun us s1 ⟨vs,H1,I1,r1,q1⟩=>hc jj s1 σ H1 vs us Q I1 r1 q1) he rl
end
end L2
namespace HT
open PySem PyProof.Rows
section
variable {prog:Program}{w:World}{A:Around}{E:Value->Shared->Prop}{s:Shared}
noncomputable def sIx(n d:Nat):Option Int->Nat
 |none=>d
 |some v=>if v<0 then(v+(n:Int)).toNat else min v.toNat n
end
end HT
namespace L2
open PySem PySem.Spec PyProof.Rows
abbrev TO:=St->Hp->(Option Int->Hp->Prop)->Prop
noncomputable def PO(X:Cx)(e:Option Expr)(t:TO):Prop:=
 ∀(jj:List (Addr×Obj))(s:Shared)(σ:St)(H:Hp)(Q:Option Int->Hp->Prop),Inv X jj σ H s->t σ H Q ->
  wpAny (model X.prog X.w) X.A (evalPart e X.env) (fun u s'=>∃o H',Inv X jj σ H' s'/\IsPart u o/\Q o H') X.xe s
def JJ:TO:=fun _ H Q=>Q none H
def NX(t:TE):TO:=fun σ H Q=>t σ H fun x H1=>∃i,x=.int i/\Q (some i) H1
section
variable {X:Cx}{e:Expr}{te:TE}{lo hi:Option Expr}{tl th:TO}{pos p2:Pos}
theorem JQ:PO X none JJ:=by intro jj s σ H Q I h;rw[evalPart_none];exact ag ⟨none,H,I,.none,h⟩
theorem JP(h:PE X e te):PO X (some e) (NX te):=by
 intro jj s σ H Q I hw;rw[evalPart_some];refine thn (h jj s σ H _ I hw) fun u s1 ⟨x,H1,I1,r1,q1⟩=>?_
 obtain⟨i,rfl,q⟩:=q1;obtain⟨t,rfl⟩:=r1;exact⟨some i,H1,I1,.int i t,q⟩
noncomputable def SlR(X:Cx)(r:V->Option Int->Option Int->Hp->VK->Prop):Prop:=
 ∀(jj:List (Addr×Obj))(s:Shared)(σ:St)(H:Hp)(x:V)(v vl vu:Value)(lo hi:Option Int)(sl:Addr)(Q:VK),Inv X jj σ H s->RelV x v->s.heap.IsSliceOf sl vl vu .none->IsPart vl lo->IsPart vu hi->r x lo hi H Q ->
  ∃T id,typeLookup (.type T) "__getitem__" =pure (some (.builtin id))/\s.TypeIs v T/\wpAny (model X.prog X.w) X.A (getItem v (.ref sl)) (EP X jj σ Q) X.xe s
noncomputable def tSl(r:V->Option Int->Option Int->Hp->VK->Prop)(te:TE)(tl th:TO):TE:=fun σ H Q=>te σ H fun x H1=>tl σ H1 fun l H2=>th σ H2 fun u H3=>r x l u H3 Q
theorem HE{r:V->Option Int->Option Int->Hp->VK->Prop}(hr:SlR X r)(he:PE X e te)(hl:PO X lo tl)(hu:PO X hi th):PE X (.Subscript e (.Slice lo hi none p2) pos) (tSl r te tl th):=by
 intro jj s σ H Q I h;refine Subscript_ (thn (he jj s σ H _ I h) fun v s1 ⟨x,H1,I1,r1,q1⟩=>?_);refine wpAny_Slice (thn (hl jj s1 σ H1 _ I1 q1) fun vl s2 ⟨l,H2,I2,pl,q2⟩=>thn (hu jj s2 σ H2 _ I2 q2) fun vu s3 ⟨u,H3,I3,pu,q3⟩=>?_);rw[evalPart_none];refine ag ?_;have I4:Inv X jj σ H3 {s3 with heap:=s3.heap.push {cls:=.type "slice",data:=.fields #[vl,vu,.none]}}:=I3.kept (t':=s3.toks) fun b ob q=>ao _ q
 obtain⟨T,id,hT,ht,hg⟩:=hr jj {s3 with heap:=s3.heap.push {cls:=.type "slice",data:=.fields #[vl,vu,.none]}} σ H3 x v vl vu l u s3.heap.objs.size Q I4 r1 (Heap.IsSliceOf.new ..) pl pu q3;show wpAny (model X.prog X.w) X.A (subscriptTail e (.Slice lo hi none p2) v (.ref s3.heap.objs.size)) (EP X jj σ Q) X.xe {s3 with heap:=s3.heap.push {cls:=.type "slice",data:=.fields #[vl,vu,.none]}}
 exact tail_any (ops:=[.ref s3.heap.objs.size,v]) ht hT hg (by with_unfolding_all rfl)
noncomputable def FR(xs:List V)(lo hi:Option Int):List V:=(xs.drop (HT.sIx xs.length 0 lo)).take (HT.sIx xs.length xs.length hi - HT.sIx xs.length 0 lo)
theorem AF(xs:List V)(lo hi:Option Int):(FR xs lo hi).length<=xs.length:=by unfold FR;rw[bu,gz];omega
end
noncomputable def ixN(n:Nat)(i:Int):Option Nat:=if 0<=i then(if i<n then some i.toNat else none)else if -(n:Int)<=i then some (i+n).toNat else none
def atI{α:Type}(xs:List α)(i:Int):Option α:=(ixN xs.length i).bind fun j=>xs[j]?
theorem KH{n:Nat}{i:Int}{j:Nat}(h:ixN n i=some j):seqIndex? i n=some j/\j<n/\-(n:Int)<=i/\i<n:=by
 unfold ixN at h;by_cases h0:0<=i
 ·rw[ah h0]at h;by_cases h1:i<n
  ·rw[ah h1]at h;have e:i.toNat=j:=Option.some.inj h;exact⟨by rw[seqIndex_of h0 h1,e],by omega,by omega,h1⟩
  ·rw[af h1]at h;cases h
 ·rw[af h0]at h;by_cases h1:-(n:Int)<=i
  ·rw[ah h1]at h;have e:(i+n).toNat=j:=Option.some.inj h;exact⟨by rw[seqIndex_neg (by omega) h1,e],by omega,h1,by omega⟩
  ·rw[af h1]at h;cases h
theorem E2{α:Type}{xs:List α}{i:Int}{v:α}(h:atI xs i=some v):∃j,seqIndex? i xs.length=some j/\xs[j]? =some v/\j<xs.length/\-(xs.length:Int)<=i/\i<xs.length:=by
 unfold atI at h;cases e:ixN xs.length i with
 |none=>rw[e]at h;cases h
 |some j=>rw[e]at h;obtain⟨h1,h2,h3,h4⟩:=KH e;exact⟨j,h1,h,h2,h3,h4⟩
theorem LF{α:Type}{xs:List α}{j:Nat}{v:α}(h:xs[j]? =some v):atI xs (j:Int)=some v:=by
 have hj:j<xs.length:=(aq.mp h).1;have e:ixN xs.length (j:Int)=some j:=by unfold ixN;rw[ah (by omega),ah (by omega)];simp
 unfold atI;rw[e];exact h
def LH(b:Expr):Prop:=∀o i,subscripted b false o i=operate [o,i] (getItem o i)
noncomputable def IxR(X:Cx)(r:R2):Prop:=
 ∀(js slice:Expr)(jj:List (Addr×Obj))(s:Shared)(σ:St)(H:Hp)(x y:V)(v u:Value)(Q:VK),Inv X jj σ H s->RelV x v->RelV y u->r x y H Q ->
  subscripted slice false v u=operate [v,u] (getItem v u)->wpAny (model X.prog X.w) X.A (subscriptTail js slice v u) (EP X jj σ Q) X.xe s
noncomputable def MtR(X:Cx)(id:String)(r:V->List V->Hp->VK->Prop):Prop:=
 ∀(jj:List (Addr×Obj))(s:Shared)(σ:St)(H:Hp)(x:V)(xs:List V)(v:Value)(us:List Value)(Q:VK),Inv X jj σ H s->RelV x v->Vals xs us->r x xs H Q ->
  wpAny (model X.prog X.w) X.A (call (.builtin id) (v::us)) (EP X jj σ Q) X.xe s
section
variable {X:Cx}{a b:Expr}{ta tb:TE}{pos:Pos}
theorem bK{r:R2}(hr:IxR X r)(ha:PE X a ta)(hb:PE X b tb)(hs:LH b):PE X (.Subscript a b pos) (tOp r ta tb):=by intro jj s σ H Q I h;exact Subscript_ (NM ha hb I h fun v u s2 x y H2 I2 rx ry q=>hr a b jj s2 σ H2 x y v u Q I2 rx ry q (hs _ _))
noncomputable def U7(K:W.Frag):R2:=fun x y H Q=>∃p xs i v,x=.ref p/\y=.int i/\SqL K H p xs/\atI xs i=some v/\Q v H
noncomputable def U6(K:W.Frag):R2:=fun x y H Q=>∃p xs i v,x=.ref p/\y=.int i/\SqT K H p xs/\atI xs i=some v/\Q v H
theorem jL:IxR X (U7 X.K):=by
 intro js slice jj s σ H x y v u Q I rx ry h hs;obtain⟨p,xs,i,z,rfl,rfl,hq,he,q⟩:=h;cases rx;obtain⟨t,rfl⟩:=ry;obtain⟨its,r,pl,hz⟩:=I.list hq;obtain⟨j,h1,h2,h3,h4,h5⟩:=E2 he;obtain⟨w,ew,qu⟩:=r.get h2;have hl:=r.length;have hn:=tG;have fin:EP X jj σ Q w s:=⟨z,H,I,qu,q⟩;by_cases h0:0<=i
 ·have hj:i.toNat=j:=by rw[seqIndex_of h0 h5]at h1;exact Option.some.inj h1
  exact item_listR pl.isList h0 (by omega) (by rw[hj];simpa using ew) fin hs
 ·have hj:(i+(its.toArray.size:Int)).toNat=j:=by rw[seqIndex_neg (by omega) h4]at h1;rw[bj,<- hl];exact Option.some.inj h1
  exact subscriptTail_builtinR (x:=w) pl.isList.typeIs slot_list_getitem.lookup
   (wpAny_getItem_list_neg (Q:=fun r s'=>r=w/\EP X jj σ Q r s') pl.isList (by omega) (by rw[bj]<;>omega) (by omega) (by rw[hj];simpa using ew) ⟨rfl,fin⟩) hs
theorem bG:IxR X (U6 X.K):=by
 intro js slice jj s σ H x y v u Q I rx ry h hs;obtain⟨p,xs,i,z,rfl,rfl,hq,he,q⟩:=h;cases rx;obtain⟨t,rfl⟩:=ry;obtain⟨its,r,pl,hz⟩:=I.tuple hq;obtain⟨j,h1,h2,h3,h4,h5⟩:=E2 he;obtain⟨w,ew,qu⟩:=r.get h2;have hl:=r.length;have hn:=tG;have fin:EP X jj σ Q w s:=⟨z,H,I,qu,q⟩;exact subscriptTail_builtinR (x:=w) pl.typeIs slot_tuple_getitem.lookup
  (getItem_tuple (j:=j) (Q:=fun r s'=>r=w/\EP X jj σ Q r s') pl (by omega) (by omega) (by rw[bj,<- hl];exact h1) (by simpa using ew) ⟨rfl,fin⟩) hs
theorem wQ(lo hi:Option Int)(n:Nat):(sliceBounds lo hi none n).1=((HT.sIx n 0 lo:Nat):Int)/\(sliceBounds lo hi none n).2.1=((HT.sIx n n hi:Nat):Int)/\(sliceBounds lo hi none n).2.2=1:=by
 refine⟨?_,?_,rfl⟩
 ·cases lo with
  |none=>simp[sliceBounds,HT.sIx]
  |some i=>
   simp only[sliceBounds,HT.sIx,Option.getD_none,show(1:Int)>0 by decide,if_true];by_cases h:i<0
   ·simp only[h,if_true]<;>omega
   ·simp only[h,if_false]<;>omega
 ·cases hi with
  |none=>simp[sliceBounds,HT.sIx]
  |some i=>
   simp only[sliceBounds,HT.sIx,Option.getD_none,show(1:Int)>0 by decide,if_true];by_cases h:i<0
   ·simp only[h,if_true]<;>omega
   ·simp only[h,if_false]<;>omega
theorem uG(its:List Value)(lo hi:Option Int):slicePick its.toArray lo hi none=((its.drop (HT.sIx its.length 0 lo)).take (HT.sIx its.length its.length hi - HT.sIx its.length 0 lo)).toArray:=by obtain⟨h1,h2,h3⟩:=wQ lo hi its.toArray.size;unfold slicePick;rw[h1,h2,h3];simp only[sliceRange_one,pick_run,bj]<;>rfl
noncomputable def U2(K:W.Frag):V->Option Int->Option Int->Hp->VK->Prop:=fun x lo hi H Q=>∃a xs,x=.ref a/\SqL K H a xs/\∀p,H p=none->Q (.ref p) (upd H p (.lst (FR xs lo hi)))
theorem JM:SlR X (U2 X.K):=by intro jj s σ H x v vl vu lo hi sl Q I rx hs pl pu h;obtain⟨a,xs,rfl,hx,q⟩:=h;cases rx;obtain⟨its,r,ht,hz⟩:=I.list hx;have jt:=r.length;refine⟨"list",_,slot_list_getitem.lookup,ht.isList.typeIs,?_⟩;refine wpAny_getItem_list_slice ht.isList hs pl pu .none (by simp) ?_ (by rw[bj]<;>omega);rw[uG,<- jt];refine⟨.ref s.heap.objs.size,_,I.laid (t':=s.toks) (o:=.lst (FR xs lo hi)) (fun b ob q=>ao _ q) (au _) ?_,rfl,q _ (I.hok.fresh (au _))⟩;exact⟨de (AF xs lo hi) hz,_,0,(r.drop (HT.sIx xs.length 0 lo)).take (HT.sIx xs.length xs.length hi - HT.sIx xs.length 0 lo),az _ rfl⟩
theorem bS:mL X (.builtin "len") (fun xs H Q=>∃p ys,xs=[.ref p]/\(SqL X.K H p ys\/SqT X.K H p ys)/\Q (.int ys.length) H):=by
 intro jj s σ H xs us Q I r h;obtain⟨p,ys,rfl,hq,q⟩:=h;obtain⟨u,rfl,rx⟩:=vals1 r;cases rx;have hn:=tG;rcases hq with hq|hq
 ·obtain⟨its,r',pl,hz⟩:=I.list hq;have jt:=r'.length;exact Calls.call_len_list pl.isList (by simp only[bj]<;>omega) ⟨.int ys.length,H,I.tok _,⟨s.toks+1,by rw[bj,jt]⟩,q⟩
 ·obtain⟨its,r',pl,hz⟩:=I.tuple hq;have jt:=r'.length;exact len_tuple pl (by simp only[bj]<;>omega) ⟨.int ys.length,H,I.tok _,⟨s.toks+1,by rw[bj,jt]⟩,q⟩
noncomputable def tyV(K:W.Frag)(T:String)(x:V)(H:Hp):Prop:=match x with
 | .str _=>T= "str"
 | .int _=>T= "int"
 | .ref p=>(T= "list" /\∃xs,SqL K H p xs)\/(T= "tuple" /\∃o,K.lookup p=some o/\o.cls=.type "tuple" /\o.dict=none)\/
   (T= "dict" /\((∃kvs,H p=some (.dK kvs))\/∃kvs,H p=some (.dT kvs)))\/(T= "set" /\∃S n,H p=some (.set S n))
 |_=>False
theorem GA{jj:List (Addr×Obj)}{σ:St}{H:Hp}{s:Shared}{T:String}{x:V}{v:Value}(I:Inv X jj σ H s)(r:RelV x v)(ty:tyV X.K T x H):
  s.TypeIs v T/\∀a,v=.ref a->∃ob,s.heap.get? a=some ob/\ob.dict=none:=by
 cases x with
 |str z=>obtain⟨t,rfl⟩:=r;cases (show T= "str" from ty);exact⟨typeIs_str s z t,fun _ e=>nomatch e⟩
 |int i=>obtain⟨t,rfl⟩:=r;cases (show T= "int" from ty);exact⟨typeIs_int s i t,fun _ e=>nomatch e⟩
 |ref p=>
  cases r;rcases ty with⟨rfl,xs,hq⟩|⟨rfl,o,hk,hc,hd⟩|⟨rfl,hk⟩|⟨rfl,S,n,hk⟩
  ·obtain⟨its,_,pl,_⟩:=I.list hq;refine⟨pl.isList.typeIs,fun a e=>?_⟩;cases e;obtain⟨o,n,e,c,hd,_⟩:=pl;exact⟨o,e,hd⟩
  ·refine⟨⟨o,I.kIn p o hk,hc⟩,fun a e=>?_⟩;cases e;exact⟨o,I.kIn _ o hk,hd⟩
  ·have z:∃o,s.heap.get? p=some o/\o.ExactDict:=by
    rcases hk with⟨kvs,hk⟩|⟨kvs,hk⟩
    ·obtain⟨_,_,_,_,o,_,_,e,ex,_⟩:=I.hok p _ hk;exact⟨o,e,ex⟩
    ·obtain⟨_,_,_,_,o,_,_,e,ex,_⟩:=I.hok p _ hk;exact⟨o,e,ex⟩
   obtain⟨o,e,ex⟩:=z;refine⟨⟨o,e,ex.1⟩,fun a e2=>?_⟩;cases e2;exact⟨o,e,ex.2.1⟩
  ·obtain⟨o,_,_,_,e,ex,_⟩:=I.hok p _ hk;refine⟨⟨o,e,ex.1⟩,fun a e2=>?_⟩;cases e2;exact⟨o,e,ex.2.1⟩
 |_=>exact False.elim ty
noncomputable def TU(K:W.Frag)(T:String)(r:V->List V->Hp->VK->Prop)(to:TE):TE:=fun σ H Q=>to σ H fun x H1=>tyV K T x H1/\r x [] H1 Q
noncomputable def tBM(K:W.Frag)(T:String)(r:V->List V->Hp->VK->Prop)(to:TE)(t:TA):TE:=fun σ H Q=>to σ H fun x H1=>tyV K T x H1/\t σ H1 fun xs H2=>r x xs H2 Q
variable {o e:Expr}{es:List Expr}{to:TE}{t:TA}{name:Str}{kl jq:Pos}{T id:String}{r:V->List V->Hp->VK->Prop}
theorem B8(pa:PlainAttrs T)(slot:Slot T name id)(Bm:typeOf (.builtin id)=pure (.type "method_descriptor"))(hm:MtR X id r)(ho:PE X o to)
  (my:attributeBase o name X.env (eval o X.env)=eval o X.env:=by rfl) (pf:(kl.endLine==jq.line)=true:=by rfl):PE X (.Call (.Attribute o name kl) [] [] jq) (TU X.K T r to):=by
 intro jj s σ H Q I h;refine wpAny_Call_method0_late my pf (thn (ho jj s σ H _ I h) fun v s1 ⟨x,H1,I1,r1,ty,q1⟩=>?_);obtain⟨h1,h2⟩:=GA I1 r1 ty;exact⟨T,id,pa,slot,Bm,h1,h2,Calls.callWith_builtin rfl (PySem.evalArgs_none (hm jj s1 σ H1 x [] v [] Q I1 r1 .nil q1))⟩
theorem hO(pa:PlainAttrs T)(slot:Slot T name id)(Bm:typeOf (.builtin id)=pure (.type "method_descriptor"))(hm:MtR X id r)(ho:PE X o to)(ha:PA X (e::es) t)
  (my:attributeBase o name X.env (eval o X.env)=eval o X.env:=by rfl)
  (hfew:((backTo jq (starEach (e::es) X.env)).all (fun x=>!x.1)&& (backToKw jq (keywordEach [] X.env)).all (fun x=>x.1.isSome)
   && decide ((e::es).length+([]:List Keyword).length+(if([]:List Keyword).isEmpty then 0 else 1)<30))=true:=by rfl)
  (pf:(kl.endLine==jq.line)=true:=by rfl) (hs:starEach (e::es) X.env=(false,eval e X.env)::starEach es X.env:=by rfl) (zb:(backTo jq (starEach es X.env)).any (·.1)=false:=by rfl):
  PE X (.Call (.Attribute o name kl) (e::es) [] jq) (tBM X.K T r to t):=by
 intro jj s σ H Q I h;refine wpAny_Call_method_late my hfew pf rfl (thn (ho jj s σ H _ I h) fun v s1 ⟨x,H1,I1,r1,ty,q1⟩=>?_);obtain⟨h1,h2⟩:=GA I1 r1 ty;refine⟨T,id,pa,slot,Bm,h1,h2,?_⟩;have hA:=ha jq jj s1 σ H1 _ I1 q1;rw[hs]at hA ⊢;refine Calls.callWith_builtin (by show(false||(backTo jq (starEach es X.env)).any (·.1))=false;rw[zb]<;>rfl) (Calls.evalArgs_plain ?_);exact thn hA fun us s2 ⟨vs,H2,I2,r2,q2⟩=>hm jj s2 σ H2 x vs v us Q I2 r1 r2 q2
end
noncomputable def MtM(X:Cx)(id:String)(r:V->List V->Hp->VK->Prop):Prop:=
 ∀(jj:List (Addr×Obj))(s:Shared)(σ:St)(H:Hp)(x:V)(xs:List V)(v:Value)(us:List Value)(Q:VK),Inv X jj σ H s->RelV x v->Vals xs us->r x xs H Q ->
  wpAny (model X.prog X.w) X.A (call (.builtin id) (v::us)) (EP X jj σ Q) X.xe s
theorem Vals.one:∀{x:V}{us:List Value},Vals [x] us->∃u,us=[u]/\RelV x u
 |_,_,.cons r .nil=>⟨_,rfl,r⟩
theorem Vals.zero:∀{us:List Value},Vals [] us->us=[]
 |_,.nil=>rfl
theorem Vals.dropLast{xs:List V}{us:List Value}(h:Vals xs us):Vals xs.dropLast us.dropLast:=by
 induction h with
 |nil=>exact .nil
 |cons r t ih=>
  cases t with
  |nil=>exact .nil
  |cons q t'=>exact .cons r ih
theorem CG{α:Type}(l:List α):l.eraseIdx (l.length - 1)=l.dropLast:=by
 induction l with
 |nil=>rfl
 |cons a r ih=>
  cases r with
  |nil=>rfl
  |cons b r=>
   have e:(a::b::r).length - 1=((b::r).length - 1)+1:=by have h1:(a::b::r).length=r.length+2:=rfl;have h2:(b::r).length=r.length+1:=rfl;omega
   rw[e,List.eraseIdx_cons_succ,ih];all_goals rfl
section
variable {X:Cx}{jj:List (Addr×Obj)}{σ:St}{H:Hp}{s:Shared}{l b:Addr}{xs ys zs:List V}
theorem Inv.BS{its its':List Value}{n:Nat}{f:Array Value->Array Value}{t':Nat}(I:Inv X jj σ H s)(hH:H l=some (.lst xs))
  (e:s.heap.get? l=some {cls:=.type "list",data:=.seq its.toArray n}) (hf:f its.toArray=its'.toArray) (hv:Vals ys its') (hz:ys.length<=sizeLine):
  Inv X jj σ (upd H l (.lst ys)) {s with heap:=s.heap.update l (Obj.mapSeq f),toks:=t'}:=by
 have q:=PySem.IsL.update e f;rw[hf]at q;refine I.write (x:=l) (e:=l) (by rw[hH];exact trivial) (.inl rfl) (fun b' u hb hu=>(Heap.get?_update_other s.heap (Obj.mapSeq f) (Ne.symm hb)).trans hu) ⟨_,q⟩ ?_;exact⟨hz,its',_,hv,q⟩
theorem Inv.SI{its:List Value}{t':Nat}(I:Inv X jj σ H s)(hv:Vals ys its)(hz:ys.length<=sizeLine):
  Inv X jj σ (upd H s.heap.objs.size (.lst ys)) {s with heap:=s.heap.push {cls:=.type "list",data:=.seq its.toArray},toks:=t'}:=
 I.laid (fun _ _ q=>ao _ q) (au _) ⟨hz,its,0,hv,az _ rfl⟩
theorem Inv.fresh(I:Inv X jj σ H s):H s.heap.objs.size=none:=I.hok.fresh (au _)
theorem Inv.BR(I:Inv X jj σ H s)(hH:H l=some (.lst xs)):xs.length<=sizeLine/\∃(its:List Value)(n:Nat),Vals xs its/\xs.length=its.length/\s.heap.get? l=some {cls:=.type "list",data:=.seq its.toArray n}:=by obtain⟨z,its,n,r,e⟩:=I.hok l _ hH;exact⟨z,its,n,r,r.length,e⟩
theorem HQ{n:Nat}(h:n<=sizeLine):Builtin.List.listTooLong n=false:=by unfold Builtin.List.listTooLong;exact decide_eq_false (by omega)
end
section
variable {X:Cx}
noncomputable def JO:V->List V->Hp->VK->Prop:=fun x vs H Q=>∃l xs y,x=.ref l/\vs=[y]/\H l=some (.lst xs)/\xs.length<sizeLine/\Q .non (upd H l (.lst (xs++[y])))
theorem cH:MtM X "list.append" JO:=by intro jj s σ H x vs v us Q I rx rv h;obtain⟨l,xs,y,rfl,rfl,hH,hz,q⟩:=h;cases rx;obtain⟨u,rfl,ru⟩:=rv.one;obtain⟨z,its,n,r,hl,e⟩:=I.BR hH;refine call_meets F.slot_list_append ⟨_,e,rfl⟩ F.entry_list_append (F.args_list_append_2 _ _) (PySem.list_append l its.toArray n u (by rw[bj];omega)) ⟨e,?_⟩;refine⟨.non,_,I.BS (its':=its++[u]) hH e (by simp) (r.append (.cons ru .nil)) ?_,rfl,q⟩;rw[aj,List.length_singleton];omega
noncomputable def U3:V->List V->Hp->VK->Prop:=fun x vs H Q=>∃l xs y,x=.ref l/\vs=[]/\H l=some (.lst xs)/\xs[xs.length - 1]? =some y/\Q y (upd H l (.lst xs.dropLast))
theorem BK:MtM X "list.pop" U3:=by
 intro jj s σ H x vs v us Q I rx rv h;obtain⟨l,xs,y,rfl,rfl,hH,hy,q⟩:=h;cases rx;have hus:=rv.zero;subst hus;obtain⟨z,its,n,r,hl,e⟩:=I.BR hH;obtain⟨u,hu,ru⟩:=r.get hy;have qt:its.toArray[its.toArray.size - 1]? =some u:=by
  show its.toArray[its.length - 1]? =some u
  rw[<- gm,<- hl];exact hu
 refine call_meets F.slot_list_pop ⟨_,e,rfl⟩ F.entry_list_pop (F.args_list_pop_1 _) (MeetsSeq.list_pop_last l its.toArray n u qt (by rw[bj];omega)) ⟨e,?_⟩;refine⟨y,_,I.BS (its':=its.dropLast) hH e ?_ r.dropLast ?_,ru,q⟩
 ·show its.toArray.eraseIdxIfInBounds (its.toArray.size - 1)=its.dropLast.toArray
  rw[bj,List.eraseIdxIfInBounds_toArray,CG]
 ·rw[gj];omega
end
theorem Vals.ints:∀{ns:List Int}{us:List Value},Vals (ns.map V.int) us->IntsAre us ns
 |[],us,h=>by rw[iy]at h;cases h;exact IntsAre.nil
 |n::ns,us,h=>by
  rw[bh]at h;cases h with
  |cons r t=>obtain⟨k,rfl⟩:=r;exact IntsAre.cons n k (Vals.ints t)
theorem Vals.bls:∀{bs:List Bool}{us:List Value},Vals (bs.map V.bl) us->us=bs.map Value.bool
 |[],us,h=>by rw[iy]at h;cases h;rfl
 |b::bs,us,h=>by
  rw[bh]at h;cases h with
  |cons r t=>cases r;rw[Vals.bls t,bh]
theorem Vals.OD{a:Addr}{us:List Value}(r:Vals [V.ref a] us):us=[Value.ref a]:=by
 cases r with
 |cons r t=>cases t;cases r;rfl
section
variable {prog:Program}{w:World}{A:Around}{E:Value->Shared->Prop}{s:Shared}{l:Addr}{its:List Value}{ns:List Int}{Q:Value->Shared->Prop}
theorem K6(hh:A.handled=none)(hl:s.heap.IsList l its.toArray)(hi:IntsAre its ns)(jn:0<ns.length)
  (h:∀h' tk M t',(∀b o,s.heap.get? b=some o->h'.get? b=some o)->M∈ns->(∀a,a∈ns->M<=a)->Q (.int M t') {s with heap:=h',toks:=tk}):wpAny (model prog w) A (call (.builtin "min") [.ref l]) Q E s:=by
 obtain⟨xs,e⟩:=hi.allInts.items;have hn:numsOf (intItems xs).toList=ns:=by rw[<- e];exact hi.numsOf
 rw[nums_intItems]at hn;subst hn;rw[e]at hl;have hsz:0<xs.size:=by simpa using jn
 refine PySem.min_intList hh hl hsz fun v h' tk hv hk=>?_
 obtain⟨t,rfl⟩:=intItems_at hv;obtain⟨h1,h2⟩:=argBest_lt (numAt xs) (xs.size - 1);refine h h' tk _ t hk ?_ fun a ha=>?_
 ·rw[numAt_eq];exact PySem.getD_mem (by rw[ai,di];omega)
 ·obtain⟨j,hj,rfl⟩:=mem_getD ha;rw[ai,di]at hj;rw[<- numAt_eq];exact h2 j (by omega)
end
section
variable {X:Cx}
noncomputable def U5(K:W.Frag):List V->Hp->VK->Prop:=fun vs H Q=>∃(a:Addr)(ns:List Int),vs=[V.ref a]/\SqL K H a (ns.map V.int)/\0<ns.length/\∀m,m∈ns->(∀y,y∈ns->m<=y)->Q (.int m) H
theorem NH(hc:X.calm=true):mL X (.builtin "min") (U5 X.K):=by intro jj s σ H vs us Q I r h;obtain⟨a,ns,rfl,hs,jn,q⟩:=h;obtain⟨its,rv,hl,_⟩:=I.list hs;rw[Vals.OD r];exact K6 (I.ok.hd hc) hl.isList rv.ints jn fun h' tk m t' hk h1 h2=>⟨.int _,H,I.kept hk,⟨_,rfl⟩,q m h1 h2⟩
end
theorem IB{prog:Program}{w:World}{A:Around}{E:Value->Shared->Prop}{s:Shared}{l:Addr}{items:Array Value}{Q:Value->Shared->Prop}(hl:s.heap.IsList l items)
  (h:∀s₂:Shared,s₂={s with heap:=s.heap.push {cls:=.type "list_iterator",data:=.fields #[.ref l,.int 0 0]}} ->
   (s₂.heap.IsListIter s.heap.objs.size l 0/\s₂.heap.IsList l items)->l≠s.heap.objs.size->Q (.ref s.heap.objs.size) s₂):wpAny (model prog w) A (pyIter (.ref l)) Q E s:=by
 have jr:l<s.heap.objs.size:=by obtain⟨_,e,_⟩:=hl;exact bq e
 exact wpAny_pyIter_list hl (h _ rfl ⟨⟨_,az _ rfl,rfl,rfl⟩,hl.push _⟩ (cv jr))
theorem yD{prog:Program}{w:World}{A:Around}{bs:List Bool}{its:List Value}(e:its=bs.map Value.bool):
  TruthOf prog w A (fun i v=>its.toArray[i]? =some v) (fun i=>bs.getD i false):=fun i v s Q E hv hq=>by
 have hv':its[i]? =some v:=by simpa using hv
 rw[e,bf]at hv';obtain⟨b,hb,rfl⟩:=Option.map_eq_some_iff.mp hv';have hg:bs.getD i false=b:=by rw[List.getD_eq_getElem?_getD,hb]<;>rfl
 have qd:Q (bs.getD i false) s:=hq;rw[hg]at qd;exact wpAny_truthy_bool qd
theorem any_range:∀bs:List Bool,(List.range bs.length).any (fun i=>bs.getD i false)=bs.any id
 |[]=>rfl
 |b::bs=>by rw[bo,List.range_succ_eq_map,any_cons,any_map,any_cons,<- any_range bs];all_goals rfl
section
variable {X:Cx}
noncomputable def U8(K:W.Frag):List V->Hp->VK->Prop:=fun vs H Q=>∃(a:Addr)(bs:List Bool),vs=[V.ref a]/\SqL K H a (bs.map V.bl)/\Q (.bl (bs.any id)) H
theorem NI(hc:X.calm=true):mL X (.builtin "any") (U8 X.K):=by
 intro jj s σ H vs us Q I r h;obtain⟨a,bs,rfl,hs,q⟩:=h;obtain⟨its,rv,hl,_⟩:=I.list hs;rw[Vals.OD r];have hb:=rv.bls;refine call_any_walk (IB hl.isList fun s₂ e2 st jn=>?_);subst e2;refine⟨_,_,_,_,_,_,_,rfl,Walks.list (A:=X.A.in1) (I.ok.hd hc) _ a jn its.toArray,st,yD hb,fun h' tk hk=>?_⟩;refine⟨.bl _,H,I.kept fun b o eo=>hk b o (fun hmem=>?_) (ao _ eo),?_,q⟩
 ·rcases ak.mp hmem with e1|hmem
  ·exact absurd (e1▸bq eo) (gk _)
  ·cases hmem
 ·show Value.bool _=Value.bool _
  rw[<- any_range,hb,bj,ai]
end
mutual
inductive Dp (K:W.Frag) (H:Hp):V->PyData->Prop
 |non:Dp K H .non .none
 |bl (b:Bool):Dp K H (.bl b) (.bool b)
 |int (i:Int):Dp K H (.int i) (.int i)
 |str (x:Str):Dp K H (.str x) (.str x)
 |lst {a:Addr}{xs:List V}{ds:List PyData}:SqL K H a xs->uA K H xs ds->Dp K H (.ref a) (.list ds)
 |tup {a:Addr}{xs:List V}{ds:List PyData}:SqT K H a xs->uA K H xs ds->Dp K H (.ref a) (.tuple ds)
inductive uA (K:W.Frag) (H:Hp):List V->List PyData->Prop
 |nil:uA K H [] []
 |cons {v:V}{vs:List V}{d:PyData}{ds:List PyData}:Dp K H v d->uA K H vs ds->uA K H (v::vs) (d::ds)
end
section
variable {X:Cx}{jj:List (Addr×Obj)}{σ:St}{H:Hp}{s:Shared}
mutual
theorem Dp.reads(I:Inv X jj σ H s):∀(d:PyData)(v:V)(u:Value),Dp X.K H v d->RelV v u->∃as,Reads s.heap u d as
 | .none,_,_,h,r=>by cases h;cases r;exact⟨_,Reads.none⟩
 | .bool b,_,_,h,r=>by cases h;cases r;exact⟨_,Reads.bool b⟩
 | .int i,_,_,h,r=>by cases h;obtain⟨t,rfl⟩:=r;exact⟨_,Reads.int i t⟩
 | .str x,_,_,h,r=>by cases h;obtain⟨t,rfl⟩:=r;exact⟨_,Reads.str x t⟩
 | .list ds,_,_,h,r=>by
  cases h with
  |lst hs ha=>cases r;obtain⟨its,rv,⟨o,n,ho,hc,_,hd⟩,_⟩:=I.list hs;obtain⟨as,hr⟩:=Dp.readsAll I ds _ its ha rv;exact⟨_,Reads.list ho hc hd hr⟩
 | .tuple ds,_,_,h,r=>by
  cases h with
  |tup hs ha=>cases r;obtain⟨its,rv,⟨o,ho,hc,n,hd⟩,_⟩:=I.tuple hs;obtain⟨as,hr⟩:=Dp.readsAll I ds _ its ha rv;exact⟨_,Reads.tuple ho hc hd hr⟩
 | .dict _,_,_,h,_=>by cases h
theorem Dp.readsAll(I:Inv X jj σ H s):∀(ds:List PyData)(vs:List V)(us:List Value),uA X.K H vs ds->Vals vs us->∃as,ReadsAll s.heap us ds as
 |[],_,_,h,r=>by cases h;cases r;exact⟨_,ReadsAll.nil⟩
 |d::ds,_,_,h,r=>by
  cases h with
  |cons h1 h2=>
   cases r with
   |cons r1 r2=>obtain⟨as,q1⟩:=Dp.reads I d _ _ h1 r1;obtain⟨bs,q2⟩:=Dp.readsAll I ds _ _ h2 r2;exact⟨_,ReadsAll.cons q1 q2⟩
end
end
section
variable {X:Cx}
noncomputable def U4(K:W.Frag):R2:=fun x y H Q=>∃d e,Dp K H x d/\Dp K H y e/\SeqAt.shaped d=true/\SeqAt.shaped e=true/\Q (.bl (!PyData.eqv d e)) H
theorem MK(hu:X.A.units+64<cLine):OpR X (compareOp .NotEq) (U4 X.K):=by intro jj s σ H x y v u Q I rx ry h;obtain⟨d,e,hd,he,sd,se,q⟩:=h;obtain⟨as,r1⟩:=Dp.reads I d x v hd rx;obtain⟨bs,r2⟩:=Dp.reads I e y u he ry;exact SeqAt.compareNe_shaped r1 r2 sd se hu ⟨.bl _,H,I,rfl,q⟩
end
abbrev JF(h:Heap)(c:Addr)(v:Option Value):Prop:=h.IsCell c v
noncomputable def U1(scope sc:Scope):Scope:=
 {scope with names:=scope.names.map fun(n,k)=>if(k== .free&& sc.kind== .function&& sc.names.lookup n==some .cell)then(n,.cell)else(n,k)}
noncomputable def bF(cells:List (Str×Addr)):List (Str×NameKind)->List (Str×Addr)->List (Str×Addr)
 |[],acc=>acc
 |(n,k)::r,acc=>if k== .free then bF cells r ((n,(cells.lookup n).getD 0)::acc)else bF cells r acc
theorem oV(env:Env)(f:Str×NameKind->List (Str×Addr)->Sem (ForInStep (List (Str×Addr))))
  (hf:∀n k c,f (n,k) c=if k== .free then(do let a<- cellOf env n;pure (.yield ((n,a)::c)))else pure (.yield c)):
  ∀(names:List (Str×NameKind))(acc:List (Str×Addr)),(∀y∈names,y.2=.free->∃c,env.cells.lookup y.1=some c)->forIn names acc f=pure (bF env.cells names acc)
 |[],acc,_=>by rw[List.forIn_nil];rfl
 |(n,k)::r,acc,h=>by
  rw[List.forIn_cons,hf];have ih:=fun acc=>oV env f hf r acc fun y hy=>h y (ar _ hy)
  unfold bF;by_cases hk:(k==NameKind.free)=true
  ·rw[ah hk,ah hk];obtain⟨c,hc⟩:=h (n,k) bb (by simpa using hk);have e:cellOf env n=pure c:=by unfold cellOf;rw[hc]
   rw[e];have e2:(env.cells.lookup n).getD 0=c:=by rw[hc];rfl
   rw[e2];exact ih _
  ·rw[af hk,af hk];exact ih _
theorem mX{scope:Scope}{env:Env}(h:∀y∈scope.names,y.2=.free->∃c,env.cells.lookup y.1=some c):closureFor scope env=pure (bF env.cells scope.names []):=by simp only[closureFor];rw[oV env _ (fun n k c=>rfl) scope.names [] h];rfl
theorem mem_lookup{α:Type}:∀{l:List (Str×α)}{n:Str}{c:α},(n,c)∈l->∃c',l.lookup n=some c'
 |(k,v)::r,n,c,h=>by
  rw[gd];cases hb:n==k with
  |true=>exact⟨_,rfl⟩
  |false=>
   rcases ak.mp h with e|h
   ·cases e;simp at hb
   ·exact mem_lookup h
theorem fO{cells:List (Str×Addr)}:∀{names:List (Str×NameKind)}{acc:List (Str×Addr)}{n:Str}{c:Addr},(n,c)∈bF cells names acc->(n,c)∈acc\/((n,.free)∈names/\c=(cells.lookup n).getD 0)
 |[],_,_,_,h=>.inl h
 |(m,k)::r,acc,n,c,h=>by
  unfold bF at h;split at h
  ·rename_i hk;have hk:k=.free:=by simpa using hk
   rcases fO h with h|⟨h1,h2⟩
   ·rcases ak.mp h with e|h
    ·cases e;exact .inr ⟨hk▸bb,rfl⟩
    ·exact .inl h
   ·exact .inr ⟨ar _ h1,h2⟩
  ·rcases fO h with h|⟨h1,h2⟩
   ·exact .inl h
   ·exact .inr ⟨ar _ h1,h2⟩
theorem lD{cells:List (Str×Addr)}:∀{names:List (Str×NameKind)}{acc:List (Str×Addr)}{p:Str×Addr},p∈acc->p∈bF cells names acc
 |[],_,_,h=>h
 |(m,k)::r,acc,p,h=>by
  unfold bF;split
  ·exact lD (ar _ h)
  ·exact lD h
theorem iA{cells:List (Str×Addr)}:∀{names:List (Str×NameKind)}{acc:List (Str×Addr)}{n:Str},(n,.free)∈names->(n,(cells.lookup n).getD 0)∈bF cells names acc
 |(m,k)::r,acc,n,h=>by
  unfold bF;rcases ak.mp h with e|h
  ·cases e;exact lD bb
  ·split
   ·exact iA h
   ·exact iA h
theorem j7:∀{names:List (Str×NameKind)}{h:Heap}{acc:List (Str×Addr)}{x:Str}{c:Addr},(x,c)∈cellsFrom h.objs.size names acc ->
  (x,c)∈acc\/((x,.cell)∈names/\h.objs.size<=c/\JF (pushCells h names) c none)
 |[],_,_,_,_,h=>.inl h
 |(n,k)::r,h,acc,x,c,hm=>by
  unfold cellsFrom at hm;unfold pushCells;split at hm
  ·rename_i hk;rw[ah hk];have hk:k=.cell:=by simpa using hk
   rw[<- ft h {cls:=.type "cell",data:=.cell none}]at hm;rcases j7 hm with hm|⟨h1,h2,h3⟩
   ·rcases ak.mp hm with e|hm
    ·cases e;exact .inr ⟨hk▸bb,au _,_,pushCells_keeps r _ _ _ (az _ rfl),rfl⟩
    ·exact .inl hm
   ·rw[ft]at h2;exact .inr ⟨ar _ h1,jg h2,h3⟩
  ·rename_i hk;rw[af hk];rcases j7 hm with hm|⟨h1,h2,h3⟩
   ·exact .inl hm
   ·exact .inr ⟨ar _ h1,h2,h3⟩
theorem m8:∀{names:List (Str×NameKind)}{n:Nat}{acc:List (Str×Addr)}{p:Str×Addr},p∈acc->p∈cellsFrom n names acc
 |[],_,_,_,h=>h
 |(m,k)::r,n,acc,p,h=>by
  unfold cellsFrom;split
  ·exact m8 (ar _ h)
  ·exact m8 h
theorem qD:∀{names:List (Str×NameKind)}{n:Nat}{acc:List (Str×Addr)}{x:Str},(x,.cell)∈names->∃c,(x,c)∈cellsFrom n names acc
 |(m,k)::r,n,acc,x,h=>by
  unfold cellsFrom;rcases ak.mp h with e|h
  ·cases e;exact⟨n,m8 bb⟩
  ·split
   ·exact qD h
   ·exact qD h
theorem qC:∀{names:List (Str×NameKind)}{h:Heap}{acc:List (Str×Addr)}{x y:Str}{c:Addr},(∀p∈acc,p.2<h.objs.size)->(∀x y c,(x,c)∈acc->(y,c)∈acc->x=y) ->
  (x,c)∈cellsFrom h.objs.size names acc->(y,c)∈cellsFrom h.objs.size names acc->x=y
 |[],_,_,_,_,_,_,hi,h1,h2=>hi _ _ _ h1 h2
 |(n,k)::r,h,acc,x,y,c,hl,hi,h1,h2=>by
  unfold cellsFrom at h1 h2;split at h1
  ·rename_i hk;rw[ah hk]at h2;rw[<- ft h {cls:=.type "cell",data:=.cell none}]at h1 h2;refine qC (h:=h.push _) (fun p hp=>?_) (fun x y c a b=>?_) h1 h2
   ·rw[ft];rcases ak.mp hp with rfl|hp
    ·exact Nat.lt_succ_self _
    ·exact jh (hl p hp)
   ·rcases ak.mp a with e|a<;>rcases ak.mp b with e'|b
    ·cases e;cases e';rfl
    ·cases e;exact absurd (hl _ b) (gk _)
    ·cases e';exact absurd (hl _ a) (gk _)
    ·exact hi _ _ _ a b
  ·rename_i hk;rw[af hk]at h2;exact qC hl hi h1 h2
theorem qS{M:Model}{A:Around}{E:Value->Shared->Prop}{s:Shared}{scope:Scope}{globals:Addr}{closure:List (Str×Addr)}{qual:Str}{func:Option Addr}{code:Value}{uc:Env}{builtins:Addr}{Q:Env->Shared->Prop}
  (h:Q (newEnv scope s.heap.objs.size globals (cellsFrom (s.heap.objs.size+1) scope.names closure) qual func code (some uc) builtins)
   {s with heap:=pushCells (s.heap.push {cls:=.type "dict",data:=.dict #[]}) scope.names}):
  wpAny M A (newFunctionEnv scope globals closure [] qual func code (some uc) builtins) Q E s:=by
 simp only[newFunctionEnv,Option.isSome_some,if_true];refine aa (wpAny_alloc ?_);refine aa (wpAny_layCells _ (fun n k c=>rfl) scope.names closure _ _ ?_);rw[show({s with heap:=s.heap.push {cls:=.type "dict",data:=.dict #[]}}:Shared).heap.objs.size=s.heap.objs.size+1 from ft ..];rw[List.forIn_nil];exact aa (ag (ag h))
theorem kP{sc:Scope}:∀{names:List (Str×NameKind)}{x:Str}{k:NameKind},
  (names.map fun(n,k)=>if(k==NameKind.free&& sc.kind== .function&& sc.names.lookup n==some .cell)then(n,NameKind.cell)else(n,k)).lookup x=some k ->
  ∃k',names.lookup x=some k'/\(k=k'\/(k'=.free/\k=.cell))
 |[],_,_,h=>by simp at h
 |(n,k₀)::r,x,k,h=>by
  have ih:=@kP sc r x k;have h':List.lookup x ((if(k₀==NameKind.free&& sc.kind== .function&& sc.names.lookup n==some .cell)=true then(n,NameKind.cell)else(n,k₀))::(r.map _))=some k:=h;cases hx:x==n with
  |true=>
   simp only[gd,hx];by_cases hc:(k₀==NameKind.free&& sc.kind== .function&& sc.names.lookup n==some .cell)=true
   ·rw[ah hc]at h';simp only[gd,hx]at h';cases h';simp only[cg,beq_iff_eq]at hc;exact⟨k₀,rfl,.inr ⟨hc.1.1,rfl⟩⟩
   ·rw[af hc]at h';simp only[gd,hx]at h';cases h';exact⟨_,rfl,.inl rfl⟩
  |false=>
   simp only[gd,hx];by_cases hc:(k₀==NameKind.free&& sc.kind== .function&& sc.names.lookup n==some .cell)=true
   ·rw[ah hc]at h';simp only[gd,hx]at h';exact ih h'
   ·rw[af hc]at h';simp only[gd,hx]at h';exact ih h'
structure oY(N:List Str)(sc scope:Scope)(own:List (Str×Nat)):Prop where
 kind:scope.kind=.function
 uniq:∀y∈scope.names,scope.names.lookup y.1=some y.2
 ix:∀p∈own,N[p.2]? =some p.1
 free:∀y∈scope.names,y.2=.free->sc.names.lookup y.1=some .cell\/sc.names.lookup y.1=some .free
 own:∀y∈scope.names,y.2=.local\/y.2=.cell->y.1∈own.map (·.1)\/y.1∉N
def wipe(σ:St):List Nat->St
 |[]=>σ
 |v::vs=>(wipe σ vs).set v none
theorem gY(σ:St):∀vs:List Nat,(wipe σ vs).length=σ.length
 |[]=>rfl
 |v::vs=>by unfold wipe;rw[List.length_set,gY σ vs]
theorem lQ{σ:St}{i:Nat}{x:V}:∀{vs:List Nat},(wipe σ vs)[i]? =some (some x)->σ[i]? =some (some x)/\i∉vs
 |[],h=>⟨h,by simp⟩
 |v::vs,h=>by
  unfold wipe at h;by_cases hi:v=i
  ·subst hi;by_cases hv:v<(wipe σ vs).length
   ·rw[List.getElem?_set_self hv]at h;cases h
   ·rw[List.getElem?_eq_none (by simpa using hv)]at h;cases h
  ·rw[List.getElem?_set_ne hi]at h;obtain⟨h1,h2⟩:=lQ h;exact⟨h1,by simp only[ak,not_or];exact⟨fun e=>hi e.symm,h2⟩⟩
noncomputable abbrev Cx.blk(X:Cx)(s:Shared)(H:Hp)(scope:Scope)(jl:Env)(fp:List Addr):Cx:={X with s_0:=s,H_0:=H,env:=jl,outer:=X.stack,ex:=fp,fn:=fun x=>scope.names.lookup x==some .cell,pn:=[],xe:=fun _ _=>False}
section
variable {X:Cx}{jj:List (Addr×Obj)}{σ:St}{H:Hp}{s:Shared}
theorem rC{scope:Scope}{own:List (Str×Nat)}{fp:List Addr}(I:Inv X jj σ H s)(ok:oY X.N X.env.scope scope own)(hN:X.N.Nodup)(xi:∀b∈fp,n4 X jj H b/\b<s.heap.objs.size):
  Inv (X.blk s H scope (compEnvC scope (cellsFrom (s.heap.objs.size+1) scope.names (bF X.env.cells scope.names [])) s.heap.objs.size X.env) fp) [] (wipe σ (own.map (·.2))) H {s with heap:=pushCells (s.heap.push {cls:=.type "dict",data:=.dict #[]}) scope.names}:=by
 have kn:∀y∈scope.names,y.2=.free->∃c,X.env.cells.lookup y.1=some c:=fun y hy e=>by
  rcases ok.free y hy e with k|k
  ·exact I.ok.has _ (.inl k)
  ·exact I.ok.has _ (.inr k)
 generalize hcenv:compEnvC scope (cellsFrom (s.heap.objs.size+1) scope.names (bF X.env.cells scope.names [])) s.heap.objs.size X.env=jl;have kp:∀b o,s.heap.get? b=some o->(pushCells (s.heap.push {cls:=.type "dict",data:=.dict #[]}) scope.names).get? b=some o:=fun b o e=>pushCells_keeps _ _ _ _ (ao _ e)
 have hL:jl.locals=s.heap.objs.size:=by rw[<- hcenv];rfl
 have ni:jl.cells=cellsFrom (s.heap.objs.size+1) scope.names (bF X.env.cells scope.names []):=by rw[<- hcenv];rfl
 have hsc:jl.scope=U1 scope X.env.scope:=by rw[<- hcenv];rfl
 rw[<- ft s.heap {cls:=.type "dict",data:=.dict #[]}]at ni;have cm:∀{y c},(y,c)∈bF X.env.cells scope.names []->X.env.cells.lookup y=some c/\c<s.heap.objs.size:=fun{y c} hm=>by
  rcases fO hm with hm|⟨h1,rfl⟩
  ·cases hm
  ·obtain⟨c,hc⟩:=kn _ h1 rfl;rw[hc];obtain⟨w,z⟩:=I.cell _ _ hc;exact⟨rfl,z.lt⟩
 have mem:∀{y c},jl.cells.lookup y=some c->(X.env.cells.lookup y=some c/\c<s.heap.objs.size)\/(s.heap.objs.size+1<=c/\JF (pushCells (s.heap.push {cls:=.type "dict",data:=.dict #[]}) scope.names) c none):=fun{y c} e=>by
  rw[ni]at e;rcases j7 (PySem.mem_of_lookup e)with hm|⟨_,h2,h3⟩
  ·exact .inl (cm hm)
  ·rw[ft]at h2;exact .inr ⟨h2,h3⟩
 have look:∀{y},scope.names.lookup y=some .free->∃c,jl.cells.lookup y=some c/\X.env.cells.lookup y=some c:=fun{y} hl=>by
  have hy:(y,NameKind.free)∈scope.names:=PySem.mem_of_lookup hl;obtain⟨c',e'⟩:=mem_lookup (m8 (names:=scope.names) (n:=(s.heap.push {cls:=.type "dict",data:=.dict #[]}).objs.size) (iA (cells:=X.env.cells) (acc:=[]) hy));rw[<- ni]at e';refine⟨c',e',?_⟩;rw[ni]at e';rcases j7 (PySem.mem_of_lookup e')with hm|⟨h1,_,_⟩
  ·exact(cm hm).1
  ·have:=ok.uniq _ h1;rw[hl]at this;cases this
 have okB:(X.blk s H scope jl fp).Ok:=by
  refine⟨I.ok.mod,by show jl.scope.kind=_;rw[hsc];exact ok.kind,by show jl.globals=_;rw[<- hcenv];exact I.ok.glob,by show jl.builtins=_;rw[<- hcenv];exact I.ok.blt,by show s.heap.objs.size<=jl.locals;rw[hL];exact au _,
   fun y z c e1 e2=>?_,fun y hy=>?_,fun y c z e=>?_,I.ok.hd,I.ok.frames,.inl rfl,fun b hb=>⟨?_,fun y c e z=>?_⟩,I.bs,de I.ok.bsz I.sz,fun b o e hb=>?_,fun b hb z=>?_,I.stack,I.wO⟩
  ·have e1:jl.cells.lookup y=some c:=e1;have e2:jl.cells.lookup z=some c:=e2;rw[ni]at e1 e2;refine qC (fun p hp=>?_) (fun y z c a b=>I.ok.inj y z c (cm a).1 (cm b).1) (PySem.mem_of_lookup e1) (PySem.mem_of_lookup e2);rw[ft];exact jh (cm (y:=p.1) (c:=p.2) hp).2
  ·show∃c,jl.cells.lookup y=some c
   have key:∀k,jl.kindOf y=some k->(k=.cell\/k=.free)->∃c,jl.cells.lookup y=some c:=fun k hk hk'=>by
    unfold Env.kindOf at hk;rw[hsc]at hk;obtain⟨k',e,r⟩:=kP hk;have:k'=.cell\/k'=.free:=by
     rcases r with rfl|⟨rfl,_⟩
     ·exact hk'
     ·exact .inr rfl
    rcases this with rfl|rfl
    ·obtain⟨c,hm⟩:=qD (n:=(s.heap.push {cls:=.type "dict",data:=.dict #[]}).objs.size) (acc:=bF X.env.cells scope.names []) (PySem.mem_of_lookup e);obtain⟨c',e'⟩:=mem_lookup hm;exact⟨c',by rw[ni];exact e'⟩
    ·obtain⟨c,h1,_⟩:=look e;exact⟨c,h1⟩
   rcases hy with hy|hy
   ·exact key _ hy (.inl rfl)
   ·exact key _ hy (.inr rfl)
  ·have z:(scope.names.lookup y==some NameKind.cell)=true:=z;have z:scope.names.lookup y=some .cell:=by simpa using z
   have e:jl.cells.lookup y=some c:=e;rw[ni]at e;rcases j7 (PySem.mem_of_lookup e)with hm|⟨_,h2,_⟩
   ·rcases fO hm with hm|⟨h1,_⟩
    ·cases hm
    ·have q:=ok.uniq _ h1;rw[z]at q;cases q
   ·rw[ft]at h2;exact jg h2
  ·show b≠jl.locals
   rw[hL];exact cv (xi b hb).2
  ·have e:jl.cells.lookup y=some c:=e;rcases mem e with⟨h1,_⟩|⟨h1,_⟩
   ·exact(xi b hb).1.2.2.2.2.1 y c h1 z
   ·have h2:s.heap.objs.size+1<=b:=by rw[<- z];exact h1
    exact absurd (bw (xi b hb).2 (jg h2)) (gk _)
  ·rcases(xi b hb).1.2.2.2.1 with z|z
   ·exact I.ok.HR b o e z
   ·exact absurd (bw (bq e) (de I.ok.bsz z)) (gk _)
  ·rcases ak.mp (I.sC b z)with z|z
   ·exact(xi b hb).1.2.1 z
   ·exact(xi b hb).1.2.2.1 z
 refine⟨okB,rfl,I.bare,Un.kept kp,⟨fun _=>none,?_,fun i y av e1 e2 e3=>?_⟩,fun y c e=>?_,?_,fun y c e=>?_,fun p hp=>?_,I.hok.kept kp,by rw[gY];exact I.len⟩
 ·show Heap.Ns _ jl.locals _
  rw[hL];exact Heap.Ns.keeps (Heap.Ns.new ..) fun b o e=>pushCells_keeps _ _ _ _ e
 ·obtain⟨e2,jn⟩:=lQ e2;have vy:scope.names.lookup y=some .free/\(jl.kindOf y=some .cell\/jl.kindOf y=some .free):=by
   have key:∀k,jl.scope.names.lookup y=some k->k=.local\/k=.cell\/k=.free->scope.names.lookup y=some .free/\(jl.kindOf y=some .cell\/jl.kindOf y=some .free):=fun k hk hk'=>by
    have hk0:=hk;rw[hsc]at hk;obtain⟨k',e,r⟩:=kP hk;have no:¬(k'=.local\/k'=.cell):=fun hh=>by
     rcases ok.own _ (PySem.mem_of_lookup e) hh with e'|e'
     ·obtain⟨p,hp,hpy⟩:=ax.mp e';have e3:=ok.ix p hp;have:p.1=y:=hpy;rw[this]at e3;exact jn (ax.mpr ⟨p,hp,sY hN e3 e1⟩)
     ·exact e' (ay e1)
    rcases r with rfl|⟨rfl,rfl⟩
    ·rcases hk' with rfl|rfl|rfl
     ·exact absurd (.inl rfl) no
     ·exact absurd (.inr rfl) no
     ·exact⟨e,.inr hk0⟩
    ·exact⟨e,.inl hk0⟩
   have e3:Vis jl.scope y:=e3;rcases e3 with e3|e3|e3
   ·exact key _ e3 (.inl rfl)
   ·exact key _ e3 (.inr (.inl rfl))
   ·exact key _ e3 (.inr (.inr rfl))
  obtain⟨m,hn,hl⟩:=I.loc;have hvis:Vis X.env.scope y:=(ok.free _ (PySem.mem_of_lookup vy.1) rfl).elim (fun k=>.inr (.inl k)) (fun k=>.inr (.inr k));obtain⟨w,r,q⟩:=hl i y av e1 e2 hvis;refine⟨w,r,.inr ⟨vy.2,?_⟩⟩;obtain⟨c,h1,h2⟩:=look vy.1;rcases q with⟨k,_⟩|⟨_,c',e',z⟩
  ·have k:X.env.scope.names.lookup y=some .local:=k;rcases ok.free _ (PySem.mem_of_lookup vy.1) rfl with k'|k'<;>rw[show X.env.scope.names.lookup y=_ from k']at k<;>cases k
  ·rw[h2]at e';cases e';exact⟨c,h1,z.keeps kp⟩
 ·have e:jl.cells.lookup y=some c:=e;rcases mem e with⟨h1,_⟩|⟨_,z⟩
  ·obtain⟨w,z⟩:=I.cell y c h1;exact⟨w,z.keeps kp⟩
  ·exact⟨_,z⟩
 ·show H jl.locals=none
  rw[hL];exact I.hok.fresh (au _)
 ·have e:jl.cells.lookup y=some c:=e;rcases mem e with⟨h1,_⟩|⟨h1,_⟩
  ·exact I.hY y c h1
  ·exact I.hok.fresh (jg h1)
 ·exact absurd (show p∈([]:List (Addr×Obj))++[]from hp) (by simp)
theorem JA{E:Value->Shared->Prop}{D:Addr}{xs:List V}{y:V}{v:Value}{Q:Value->Shared->Prop}(I:Inv X jj σ H s)(hD:H D=some (.lst xs))(hz:xs.length<sizeLine)(r:RelV y v)
  (h:∀s',Inv X jj σ (upd H D (.lst (xs++[y]))) s'->Q .none s'):wpAny (model X.prog X.w) X.A (call (.builtin "list.append") [.ref D,v]) Q E s:=by
 obtain⟨xf,its,n,ri,e⟩:=I.hok D _ hD;have hl:=ri.length;refine append_at (hsz:=by rw[bj];omega) e fun h' sb rm=>?_
 refine h {s with heap:=h'} (I.write (t':=s.toks) (by rw[hD];trivial) (.inl rfl) (fun b u hb q=>(sb.2 b hb).trans q) ⟨_,rm⟩ ⟨by rw[aj];exact hz,its++[v],n+1,ri.append (.cons r .nil),?_⟩);rw[rm];simp
noncomputable def PTs(X:Cx)(oq:List Expr)(t:TT):Prop:=
 ∀(jj:List (Addr×Obj))(s:Shared)(σ:St)(H:Hp)(Q:Bool->Hp->Prop),Inv X jj σ H s->t σ H Q ->
  wpAny (model X.prog X.w) X.A (forIn oq true fun c r=>if r=true then do let ok<- isTrue c X.env (eval c X.env);pure (ForInStep.yield ok)else pure (ForInStep.yield r)) (TP X jj σ Q) X.xe s
def GC:TT:=fun _ H Q=>Q true H
theorem wV:PTs X [] GC:=fun _ _ _ H _ I h=>wpAny_tests_nil ⟨H,I,h⟩
theorem D6{c:Expr}{t:TT}(h:PT X c t):PTs X [c] t:=fun jj s σ H Q I hw=>wpAny_tests_one (h jj s σ H Q I hw)
end
theorem wM{α:Type}{t:Sem α}{Q Q':α->Shared->Prop}{M:Model}{A:Around}{E:Value->Shared->Prop}{s:Shared}(h:wpAny M A t Q (fun _ _=>False) s)(hQ:∀a s,Q a s->Q' a s):wpAny M A t Q' E s:=wpAny_mono h hQ fun _ _ z=>False.elim z
theorem oU{prog:Program}{w:World}{A:Around}{R:Result->Shared->Prop}{s:Shared}{lj lz iter:Expr}{oq:List Expr}{scope:Scope}{pos:Pos}{it acc:Value}{env:Env}(I:Nat->Shared->Prop)
  (ki:∀n s,I n s->wpAny (model prog w) A (pyNext it) (fun r s₁=>match r with
   |none=>R (.ok .next) s₁
   |some v=>wpAny (model prog w) A (letOwnedTupleGo lz it v) (fun _ s₁'=>wpAny (model prog w) A (assign lz env v) (fun _ s₂=>
     wpAny (model prog w) A (forIn oq true fun c r=>if r=true then do let ok<- isTrue c env (eval c env);pure (ForInStep.yield ok)else pure (ForInStep.yield r)) (fun ok s₃=>
      if ok=true then wpAny (model prog w) A (eval lj env) (fun x s₄=>
       wpAny (model prog w) A (call (.builtin "list.append") [acc,x]) (fun _ s₅=>∃m,m<n/\I m s₅) (notedBy (model prog w) A env fun e s'=>R (.error e) s') s₄) (notedBy (model prog w) A env fun e s'=>R (.error e) s') s₃
      else∃m,m<n/\I m s₃) (notedBy (model prog w) A env fun e s'=>R (.error e) s') s₂) (notedBy (model prog w) A env fun e s'=>R (.error e) s') s₁') (notedBy (model prog w) A env fun e s'=>R (.error e) s') s₁) (notedBy (model prog w) A env fun e s'=>R (.error e) s') s)
  (n:Nat) (h:I n s):
  codeAny (model prog w) A (.compLoop (.ListComp lj [⟨lz,iter,oq,0⟩] scope pos) 0 it acc env) R s:=by
 refine codeAny_loop rfl I (fun n s hI=>?_) n h;show wpAny _ A ((compTurn (.ListComp lj [⟨lz,iter,oq,0⟩] scope pos) 0 it acc env).onRaise (fun x=>do noteFrame x env;theTreesLotGoes x)) _ _ s
 refine wpAny_noted ?_;rw[compTurn_list];refine aa (wpAny_standAt (aa (wpAny_mono (ki n s hI) (fun r s₁ h₁=>?_) fun _ _ h'=>h')));cases r with
 |none=>exact ag h₁
 |some v=>
  refine aa (wpAny_mono h₁ (fun _ s₁' h₁'=>?_) fun _ _ h'=>h');refine aa (wpAny_mono h₁' (fun _ s₂ h₂=>aa (wpAny_mono h₂ (fun ok s₃ h₃=>?_) fun _ _ h'=>h')) fun _ _ h'=>h');cases ok with
  |false=>exact ag ⟨rfl,h₃⟩
  |true=>exact aa (aa (wpAny_mono h₃ (fun x s₄ h₄=>aa (wpAny_mono h₄ (fun _ s₅ h₅=>ag (ag ⟨rfl,h₅⟩)) fun _ _ h'=>h')) fun _ _ h'=>h'))
section
variable {X:Cx}
noncomputable def tLc(wi:TI)(g:TG)(tt:TT)(te:TE)(vs:List Nat):TE:=fun σ H Q=>wi σ H fun J H1=>∀D,H1 D=none->∃W:Nat->Nat->Hp->Prop,(∃m,W 0 m (upd H1 D (.lst [])))/\∀i m H,W i m H ->
 (J.stop i H/\Q (.ref D) H)\/(J.go i H/\∃Nx:Hp->Prop,(∀H',Nx H'->∃m',m'<m/\W (i+1) m' H')/\∀x H',J.yld i H x H'->g x (wipe σ vs) H' fun σ2 H2=>wipe σ2 vs=wipe σ vs/\tt σ2 H2 fun b H3=>
  if b=true then te σ2 H3 fun y H4=>∃acc,H4 D=some (.lst acc)/\acc.length<sizeLine/\Nx (upd H4 D (.lst (acc++[y])))else Nx H3)
theorem DH{jj:List (Addr×Obj)}{s:Shared}{σ:St}{H:Hp}{Q:VK}{lj tg iter:Expr}{oq:List Expr}{scope:Scope}{own:List (Str×Nat)}{pos kb:Pos}{wi:TI}{g:TG}{tt:TT}{te:TE}{use:Option (Value->Sem Unit)}{Qf:Value->Shared->Prop}
  (hc:X.calm=true) (hN:X.N.Nodup) (I:Inv X jj σ H s) (hi:PI X tg iter wi) (ok:oY X.N X.env.scope scope own)
  (hg:∀(s:Shared)(H:Hp)(C:Addr)(cl:List (Str×Addr))(fp:List Addr),PG (X.blk s H scope (compEnvC scope cl C X.env) fp) tg g) (ht:∀(s:Shared)(H:Hp)(C:Addr)(cl:List (Str×Addr))(fp:List Addr),PTs (X.blk s H scope (compEnvC scope cl C X.env) fp) oq tt)
  (he:∀(s:Shared)(H:Hp)(C:Addr)(cl:List (Str×Addr))(fp:List Addr),PE (X.blk s H scope (compEnvC scope cl C X.env) fp) lj te) (hs:∀x,foldedSetIterable iter X.env x=pure x)
  (h:tLc wi g tt te (own.map (·.2)) σ H Q)
  (hRR:∀D C s' m H',Inv X jj σ H' s'->Q (.ref D) H'->s'.heap.Ns C m->n4 X jj H' C->compPost (model X.prog X.w) X.A X.xe use Qf (.ref D) C (.ok .next) s'):
  wpAny (model X.prog X.w) X.A (comprehension (.ListComp lj [⟨tg,iter,oq,0⟩] scope pos) scope X.env kb (newList []) false (eval iter X.env) use) Qf X.xe s:=by
 have kn:∀y∈scope.names,y.2=.free->∃c,X.env.cells.lookup y.1=some c:=fun y hy e=>by
  rcases ok.free y hy e with k|k
  ·exact I.ok.has _ (.inl k)
  ·exact I.ok.has _ (.inr k)
 refine wpAny_comprehension_free (use:=use) rfl hs (mX kn) ok.kind (fun y hy e=>by rw[ok.uniq y hy,e])
  (thn (hi jj s σ H _ I h) fun xv s1 hx=>thn hx fun itv s2 h2=>?_)
 obtain⟨it,fp,tn,J,H2,e,I2,T,yb,f2,q⟩:=h2;subst e;refine wpAny_newObj_type (qS ?_) (by show 0<=sizeLine;decide);generalize hD:s2.heap.objs.size=D;have hDn:H2 D=none:=I2.hok.fresh (ie hD);obtain⟨W,⟨m0,w0⟩,ki⟩:=q D hDn;generalize hs3:({s2 with heap:=s2.heap.push {cls:=.type "list",data:=.seq ([]:List Value).toArray}}:Shared)=s3;have I3:Inv X jj σ (upd H2 D (.lst [])) s3:=by rw[<- hs3];refine I2.laid (t':=s2.toks) (fun b o e=>ao _ e) (ie hD) ⟨bz _,[],0,.nil,?_⟩;rw[<- hD];exact az _ rfl
 have h3:s3.heap=s2.heap.push {cls:=.type "list",data:=.seq ([]:List Value).toArray}:=by rw[<- hs3]
 have sz:∀b∈fp,b<s2.heap.objs.size:=fun b hb=>by obtain⟨o,e,_⟩:=T.obj _ _ yb b hb;exact bq e
 have f3:∀b∈fp,n4 X jj (upd H2 D (.lst [])) b/\b<s3.heap.objs.size:=fun b hb=>by have jr:=sz b hb;refine⟨⟨?_,(f2 b hb).2⟩,by rw[h3,ft];exact jh jr⟩;rw[aB (by rw[<- hD];exact cv jr)];exact(f2 b hb).1
 have zr:tn 0 s3.heap:=T.keep _ _ _ yb fun b _ o e=>by rw[h3];exact ao _ e
 have I4:=rC I3 ok hN f3;have pg:=hg s3 (upd H2 D (.lst [])) s3.heap.objs.size (cellsFrom (s3.heap.objs.size+1) scope.names (bF X.env.cells scope.names [])) fp;have pt:=ht s3 (upd H2 D (.lst [])) s3.heap.objs.size (cellsFrom (s3.heap.objs.size+1) scope.names (bF X.env.cells scope.names [])) fp;have pe:=he s3 (upd H2 D (.lst [])) s3.heap.objs.size (cellsFrom (s3.heap.objs.size+1) scope.names (bF X.env.cells scope.names [])) fp;show codeAny _ _ (.compStart (.ListComp lj [⟨tg,iter,oq,0⟩] scope pos) 0 (.ref it) (.ref D) (compEnvC scope (cellsFrom (s3.heap.objs.size+1) scope.names (bF X.env.cells scope.names [])) s3.heap.objs.size X.env)) (compPost (model X.prog X.w) X.A X.xe use Qf (.ref D) s3.heap.objs.size) {s3 with heap:=pushCells (s3.heap.push {cls:=.type "dict",data:=.dict #[]}) scope.names}
 have Bf:∀b∈fp,(upd H2 D (.lst [])) b=none:=fun b hb=>(f3 b hb).1.1
 generalize hce:compEnvC scope (cellsFrom (s3.heap.objs.size+1) scope.names (bF X.env.cells scope.names [])) s3.heap.objs.size X.env=ce at I4 pg pt pe ⊢;have cL:ce.locals=s3.heap.objs.size:=by subst hce;rfl
 generalize hH3:upd H2 D (.lst [])=H3 at I3 I4 pg pt pe w0 Bf f3;generalize hs4:({s3 with heap:=pushCells (s3.heap.push {cls:=.type "dict",data:=.dict #[]}) scope.names}:Shared)=s4 at I4 ⊢;have As:tn 0 s4.heap:=T.keep _ _ _ zr fun b _ o e=>by rw[<- hs4];exact pushCells_keeps _ _ _ _ (ao _ e)
 have mr:∀{σ':St}{H':Hp}{s':Shared},Inv (X.blk s3 H3 scope ce fp) [] σ' H' s'->(∀b∈fp,H' b=none)->∀b∈fp,n4 (X.blk s3 H3 scope ce fp) [] H' b:=fun{σ' H' s'} I' hn b hb=>
  ⟨hn b hb,(I'.ok.exf b hb).1,I'.ok.CF b hb,.inl hb,fun x c e=>(I'.ok.exf b hb).2 x c e,fun p hp=>absurd (show p∈([]:List (Addr×Obj))++[]from hp) (by simp)⟩
 have loop:codeAny (model X.prog X.w) X.A (.compLoop (.ListComp lj [⟨tg,iter,oq,0⟩] scope pos) 0 (.ref it) (.ref D) ce) (compPost (model X.prog X.w) X.A X.xe use Qf (.ref D) s3.heap.objs.size) s4:=by
  refine oU (fun n s'=>∃i H',Inv (X.blk s3 H3 scope ce fp) [] (wipe σ (own.map (·.2))) H' s'/\tn i s'.heap/\(∀b∈fp,H' b=none)/\W i n H') ?_ m0 ⟨0,H3,I4,As,Bf,w0⟩;rintro n s5 ⟨i,H5,I5,uw,n5,w5⟩;rcases ki i n H5 w5 with⟨stop,qq⟩|⟨go,Nx,hNx,step⟩
  ·have td:=T.done (X.blk s3 H3 scope ce fp) rfl rfl rfl hc i [] s5 _ H5 (fun _ _=>False) I5 (mr I5 n5) uw stop;refine wM td fun r s6 ⟨hr,I6⟩=>?_
   subst hr;have I7:Inv X jj σ H5 s6:=I3.DZ (ch:=fp) I6.os I6.base I6.hok I6.bare fun b hb=>⟨(f3 b hb).1.2.2.2.1,(f3 b hb).1.2.1,(f3 b hb).1.2.2.2.2.1,(f3 b hb).1.2.2.2.2.2⟩
   have nC:H5 s3.heap.objs.size=none:=by have z:H5 ce.locals=none:=I6.free;rw[cL]at z;exact z
   obtain⟨m,hn,_⟩:=I6.loc;have hn:s6.heap.Ns ce.locals m:=hn;rw[cL]at hn;exact hRR D s3.heap.objs.size s6 m H5 I7 qq hn (I3.C9 (au _) nC)
  ·have ti:=T.item (X.blk s3 H3 scope ce fp) rfl rfl rfl hc i [] s5 _ H5 (fun _ _=>False) I5 (mr I5 n5) uw go;refine wM ti fun r s6 ⟨u,hr,h6⟩=>?_
   subst hr;refine wM h6 fun _ s7 ⟨x,H7,I7,r7,y7,xy,n7⟩=>?_
   have I7':=I7.pinned (mr I7 n7) (T.obj _ _ xy);refine wM (pg _ s7 _ H7 x u _ I7' r7 (step x H7 y7)) fun _ s8 ⟨σ8,H8,I8,Bk,q8⟩=>?_
   refine wM (pt _ s8 σ8 H8 _ I8 q8) fun b s9 ⟨H9,I9,q9⟩=>?_
   have fin:∀{s':Shared}{H':Hp},Inv (X.blk s3 H3 scope ce fp) ([]++pJ fp s7.heap) σ8 H' s'->Nx H'->∃m,m<n/\∃i H',Inv (X.blk s3 H3 scope ce fp) [] (wipe σ (own.map (·.2))) H' s'/\tn i s'.heap/\(∀b∈fp,H' b=none)/\W i m H':=fun{s' H'} I' nx=>by
    obtain⟨m',hm,w'⟩:=hNx H' nx;have sf:∀b∈fp,∀o,s7.heap.get? b=some o->s'.heap.get? b=some o/\H' b=none:=fun b hb o e=>
     let z:=I'.pin (b,o) (bc _ (bc _ (jI hb e)))
     ⟨z.1,z.2.1⟩
    have hl:(wipe σ (own.map (·.2))).length=σ8.length:=by rw[<- Bk,gY]
    refine⟨m',hm,i+1,H',(I'.kB (jj:=[])).weak hl (fun j v e=>?_),T.keep _ _ _ xy fun b hb o e=>(sf b hb o e).1,fun b hb=>?_,w'⟩
    ·rw[<- Bk]at e;exact(lQ e).1
    ·obtain⟨o,e,_⟩:=T.obj _ _ xy b hb;exact(sf b hb o e).2
   cases b with
   |false=>simp only[dm,if_false]at q9 ⊢;exact fin I9 q9
   |true=>
    simp only[if_true]at q9 ⊢;refine wM (pe _ s9 σ8 H9 _ I9 q9) fun z zu ⟨yv,H10,I10,r10,acc,qm,yt,nx⟩=>?_
    exact JA (X:=X.blk s3 H3 scope ce fp) I10 qm yt r10 fun s11 I11=>fin I11 nx
 exact codeAny_compStart_list loop (T.self X.A 0 _ _ _ As loop)
theorem DA{lj tg iter:Expr}{oq:List Expr}{scope:Scope}{own:List (Str×Nat)}{pos:Pos}{wi:TI}{g:TG}{tt:TT}{te:TE}(hc:X.calm=true)(hN:X.N.Nodup)(hi:PI X tg iter wi)(ok:oY X.N X.env.scope scope own)
  (hg:∀(s:Shared)(H:Hp)(C:Addr)(cl:List (Str×Addr))(fp:List Addr),PG (X.blk s H scope (compEnvC scope cl C X.env) fp) tg g) (ht:∀(s:Shared)(H:Hp)(C:Addr)(cl:List (Str×Addr))(fp:List Addr),PTs (X.blk s H scope (compEnvC scope cl C X.env) fp) oq tt)
  (he:∀(s:Shared)(H:Hp)(C:Addr)(cl:List (Str×Addr))(fp:List Addr),PE (X.blk s H scope (compEnvC scope cl C X.env) fp) lj te) (hs:∀x,foldedSetIterable iter X.env x=pure x:=by intro _;rfl):
  PE X (.ListComp lj [⟨tg,iter,oq,0⟩] scope pos) (tLc wi g tt te (own.map (·.2))):=by
 intro jj s σ H Q I h;rw[eval_ListComp];refine DH hc hN I hi ok hg ht he hs h fun D C s' m H' I' q hn f=>⟨m,hn,fun wo sb=>?_⟩
 obtain⟨f0,f1,f2,f3,f4,f5⟩:=f;exact⟨.ref D,H',I'.turned (t':=s'.toks) (fun b o hb e=>(sb.2 b hb).trans e) f0 f1 f3 f4 f5,rfl,q⟩
theorem GX{i:Nat}{y:Str}{py:Pos}{lj tg iter:Expr}{oq:List Expr}{scope:Scope}{own:List (Str×Nat)}{pos rp:Pos}{wi:TI}{g:TG}{tt:TT}{te:TE}(hc:X.calm=true)(hN:X.N.Nodup)(hy:X.N[i]? =some y)(sq:X.env.scope.names.lookup y=some .local)
  (hsw:swapsWith (.ListComp lj [⟨tg,iter,oq,0⟩] scope pos) (some (.Name y py)) rp.line X.env=pure true) (hi:PI X tg iter wi) (ok:oY X.N X.env.scope scope own)
  (hg:∀(s:Shared)(H:Hp)(C:Addr)(cl:List (Str×Addr))(fp:List Addr),PG (X.blk s H scope (compEnvC scope cl C X.env) fp) tg g) (ht:∀(s:Shared)(H:Hp)(C:Addr)(cl:List (Str×Addr))(fp:List Addr),PTs (X.blk s H scope (compEnvC scope cl C X.env) fp) oq tt)
  (he:∀(s:Shared)(H:Hp)(C:Addr)(cl:List (Str×Addr))(fp:List Addr),PE (X.blk s H scope (compEnvC scope cl C X.env) fp) lj te) (hs:∀x,foldedSetIterable iter X.env x=pure x:=by intro _;rfl):
  PS X (.Assign [.Name y py] (.ListComp lj [⟨tg,iter,oq,0⟩] scope pos) rp) (B0 (tLc wi g tt te (own.map (·.2))) (jZ i)):=by
 intro jj s σ H D I h;rw[exec_Assign_Name_used _ _ _ _ hsw];refine aa (wpAny_standAt (aa ?_));show wpAny _ X.A (do let _<- comprehension (.ListComp lj [⟨tg,iter,oq,0⟩] scope pos) scope X.env (firstIterPos [⟨tg,iter,oq,0⟩] pos) (newList []) false (eval iter X.env) (some (assign (.Name y py) X.env))) _ _ s
 have h:tLc wi g tt te (own.map (·.2)) σ H (fun x H1=>jZ i x σ H1 D.nx):=h;refine aa (thn (DH (Qf:=fun _ s'=>SP X jj D .next s') hc hN I hi ok hg ht he hs h fun L C s' m H' I' q hn f=>?_) fun _ s' hq=>ag (ag hq));show wpAny _ _ (assign (.Name y py) X.env (.ref L)) _ _ _
 refine wpAny_assign_Name (pC (v:=V.ref L) I' hN hy (.inl sq) rfl (fun s2 I2 ⟨a,sb,ha⟩=>?_) (.inr sq));obtain⟨f0,f1,f2,f3,f4,f5⟩:=f;have haC:C≠a:=by
  rcases ha with z|z
  ·rw[z];exact f1
  ·exact fun e=>f4 y a z e.symm
 refine⟨m,hn.sameBut sb haC,fun h3 sb3=>?_⟩;exact⟨_,H',I2.turned (t':=s2.toks) (fun b o hb e=>(sb3.2 b hb).trans e) f0 f1 f3 f4 f5,q⟩
theorem wN{lj:Expr}{gs:List Comprehension}{scope:Scope}{pos py:Pos}{y:Str}{l:Nat}{env:Env}(hk:env.scope.kind=.function)(hy:env.scope.names.lookup y=some .local)(hl:(py.line==pos.line)=true)
  (ha:(scope.names.any fun(n,k)=>n==y&& (k== .local||k== .cell))=false):swapsWith (.ListComp lj gs scope pos) (some (.Name y py)) l env=pure true:=by
 have ky:env.kindOf y=some .local:=hy;have hb:env.blockKind=.function:=by unfold Env.blockKind;rw[hk];rfl
 unfold swapsWith;simp only[hb,ky,ha,Expr.pos,hl];rfl
end
theorem m4{K:W.Frag}{a:Addr}{xs:List V}{g:TG}{tt:TT}{te:TE}{vs:List Nat}{σ:St}{H1:Hp}{D:Addr}{Qd:Hp->Prop}(Pv:Nat->Hp->Prop)(h0:Pv 0 (upd H1 D (.lst [])))(hl:∀i H,i<=xs.length->Pv i H->SqL K H a xs)
  (hs:∀i x H,xs[i]? =some x->Pv i H->g x (wipe σ vs) H fun σ2 H2=>wipe σ2 vs=wipe σ vs/\tt σ2 H2 fun b H3=>
   if b=true then te σ2 H3 fun y H4=>∃acc,H4 D=some (.lst acc)/\acc.length<sizeLine/\Pv (i+1) (upd H4 D (.lst (acc++[y])))else Pv (i+1) H3) (hd:∀H,Pv xs.length H->Qd H):
  ∃W:Nat->Nat->Hp->Prop,(∃m,W 0 m (upd H1 D (.lst [])))/\∀i m H,W i m H ->
   ((Itl K a).stop i H/\Qd H)\/((Itl K a).go i H/\∃Nx:Hp->Prop,(∀H',Nx H'->∃m',m'<m/\W (i+1) m' H')/\∀x H',(Itl K a).yld i H x H'->g x (wipe σ vs) H' fun σ2 H2=>wipe σ2 vs=wipe σ vs/\tt σ2 H2 fun b H3=>
    if b=true then te σ2 H3 fun y H4=>∃acc,H4 D=some (.lst acc)/\acc.length<sizeLine/\Nx (upd H4 D (.lst (acc++[y])))else Nx H3):=by
 refine⟨fun i m H=>m=xs.length - i/\i<=xs.length/\Pv i H,⟨xs.length,by simp,bz _,h0⟩,?_⟩;rintro i m H ⟨rfl,hi,p⟩;have q:=hl i H hi p;by_cases jr:i<xs.length
 ·refine .inr ⟨⟨xs,xs[i],q,by simp[jr]⟩,Pv (i+1),fun H' p'=>⟨xs.length - (i+1),by omega,rfl,jr,p'⟩,fun x H' y=>?_⟩;obtain⟨e,y⟩:=y;subst e;exact hs i x _ (y xs q) p
 ·have e:i=xs.length:=by omega
  subst e;exact .inl ⟨⟨xs,q,au _⟩,hd H p⟩
theorem MQ{K:W.Frag}{a:Addr}{xs:List V}{g:TG}{tt:TT}{te:TE}{vs:List Nat}{σ:St}{H1:Hp}{D:Addr}{Qd:Hp->Prop}(Pv:Nat->Hp->Prop)(h0:Pv 0 (upd H1 D (.lst [])))(hl:∀i H,i<=xs.length->Pv i H->SqT K H a xs)
  (hs:∀i x H,xs[i]? =some x->Pv i H->g x (wipe σ vs) H fun σ2 H2=>wipe σ2 vs=wipe σ vs/\tt σ2 H2 fun b H3=>
   if b=true then te σ2 H3 fun y H4=>∃acc,H4 D=some (.lst acc)/\acc.length<sizeLine/\Pv (i+1) (upd H4 D (.lst (acc++[y])))else Pv (i+1) H3) (hd:∀H,Pv xs.length H->Qd H):
  ∃W:Nat->Nat->Hp->Prop,(∃m,W 0 m (upd H1 D (.lst [])))/\∀i m H,W i m H ->
   ((Itt K a).stop i H/\Qd H)\/((Itt K a).go i H/\∃Nx:Hp->Prop,(∀H',Nx H'->∃m',m'<m/\W (i+1) m' H')/\∀x H',(Itt K a).yld i H x H'->g x (wipe σ vs) H' fun σ2 H2=>wipe σ2 vs=wipe σ vs/\tt σ2 H2 fun b H3=>
    if b=true then te σ2 H3 fun y H4=>∃acc,H4 D=some (.lst acc)/\acc.length<sizeLine/\Nx (upd H4 D (.lst (acc++[y])))else Nx H3):=by
 refine⟨fun i m H=>m=xs.length - i/\i<=xs.length/\Pv i H,⟨xs.length,by simp,bz _,h0⟩,?_⟩;rintro i m H ⟨rfl,hi,p⟩;have q:=hl i H hi p;by_cases jr:i<xs.length
 ·refine .inr ⟨⟨xs,xs[i],q,by simp[jr]⟩,Pv (i+1),fun H' p'=>⟨xs.length - (i+1),by omega,rfl,jr,p'⟩,fun x H' y=>?_⟩;obtain⟨e,y⟩:=y;subst e;exact hs i x _ (y xs q) p
 ·have e:i=xs.length:=by omega
  subst e;exact .inl ⟨⟨xs,q,au _⟩,hd H p⟩
noncomputable def T1(N:List Str)(sc scope:Scope)(own:List (Str×Nat)):Bool:=
 (match scope.kind with| .function=>true|_=>false)&& (scope.names.all fun y=>decide (scope.names.lookup y.1=some y.2))&& (own.all fun p=>decide (N[p.2]? =some p.1))&&
  (scope.names.all fun y=>match y.2 with
   | .free=>(match sc.names.lookup y.1 with|some .cell=>true|some .free=>true|_=>false)
   | .local=>decide (y.1∈own.map (·.1))||decide (y.1∉N)
   | .cell=>decide (y.1∈own.map (·.1))||decide (y.1∉N)
   |_=>true)
theorem fQ{N:List Str}{sc scope:Scope}{own:List (Str×Nat)}(h:T1 N sc scope own=true):oY N sc scope own:=by
 unfold T1 at h;simp only[cg,fi,decide_eq_true_eq]at h;obtain⟨⟨⟨h1,h2⟩,h3⟩,h4⟩:=h;refine⟨?_,h2,h3,fun y hy e=>?_,fun y hy e=>?_⟩
 ·split at h1
  ·assumption
  ·cases h1
 ·have q:=h4 y hy;simp only[e]at q;split at q<;>first|exact .inl (by assumption)|exact .inr (by assumption)|cases q
 ·have q:=h4 y hy;rcases e with e|e<;>(simp only[e,or_eq_true,decide_eq_true_eq]at q;exact q)
section
variable {κ:Type} [DecidableEq κ]
noncomputable def rT(kvs:List (κ×V))(k:κ):Option V:=(kvs.find? fun kv=>decide (kv.1=k)).map (·.2)
noncomputable def putK(kvs:List (κ×V))(k:κ)(v:V):List (κ×V):=
 if(kvs.any fun kv=>decide (kv.1=k))=true then kvs.map (fun kv=>if kv.1=k then(kv.1,v)else kv)else kvs++[(k,v)]
theorem nB{p:κ×V}{r:List (κ×V)}{k:κ}(e:p.1=k):rT (p::r) k=some p.2:=by simp[rT,ij,e]
theorem nE{p:κ×V}{r:List (κ×V)}{k:κ}(e:¬p.1=k):rT (p::r) k=rT r k:=by simp[rT,ij,e]
theorem yA(k:κ):∀kvs:List (κ×V),(kvs.any fun kv=>decide (kv.1=k))=(rT kvs k).isSome
 |[]=>rfl
 |p::r=>by
  rw[any_cons];by_cases e:p.1=k
  ·simp only[nB e,decide_eq_true e,Bool.true_or,Option.isSome_some]
  ·rw[nE e,decide_eq_false e,Bool.false_or];exact yA k r
theorem kQ(kvs:List (κ×V))(k:κ)(v:V):(putK kvs k v).length<=kvs.length+1:=by
 unfold putK;split
 ·rw[ai];omega
 ·rw[aj,bo,dv];omega
theorem mZ.j4{o:Option V}{u:Option Value}(r:mZ o u):o.isSome=u.isSome:=by
 cases o with
 |none=>cases u with
  |none=>rfl
  |some _=>exact(show False from r).elim
 |some _=>cases u with
  |none=>exact(show False from r).elim
  |some _=>rfl
theorem mZ.getD{o:Option V}{u:Option Value}{d:V}{d':Value}(r:mZ o u)(rd:RelV d d'):RelV (o.getD d) (u.getD d'):=by
 cases o with
 |none=>cases u with
  |none=>exact rd
  |some _=>exact(show False from r).elim
 |some _=>cases u with
  |none=>exact(show False from r).elim
  |some _=>exact r
theorem KV.val{kvs:List (κ×V)}{vs:List (κ×Value)}(r:KV kvs vs)(k:κ):mZ (rT kvs k) (valueAt vs k):=by
 unfold KV at r;induction r with
 |nil=>exact True.intro
 | @cons p q ps qs h t ih=>
  obtain⟨h1,h2⟩:=h;by_cases e:p.1=k
  ·have e':q.1=k:=h1.symm.trans e;have b:valueAt (q::qs) k=some q.2:=by simp[valueAt,ij,e']
   rw[nB e,b];exact h2
  ·have e':¬q.1=k:=fun z=>e (h1.trans z)
   have b:valueAt (q::qs) k=valueAt qs k:=by simp[valueAt,ij,e']
   rw[nE e,b];exact ih
theorem KV.any{kvs:List (κ×V)}{vs:List (κ×Value)}(r:KV kvs vs)(k:κ):(kvs.any fun kv=>decide (kv.1=k))=vs.any fun kv=>decide (kv.1=k):=by
 unfold KV at r;induction r with
 |nil=>rfl
 |cons h t ih=>rw[any_cons,any_cons,ih,h.1]
theorem KV.MC{kvs:List (κ×V)}{vs:List (κ×Value)}(r:KV kvs vs)(k:κ){y:V}{u:Value}(ry:RelV y u):
  KV (kvs.map fun kv=>if kv.1=k then(kv.1,y)else kv) (vs.map fun kv=>if kv.1=k then(kv.1,u)else kv):=by
 unfold KV at r ⊢;induction r with
 |nil=>exact .nil
 | @cons p q ps qs h t ih=>
  rw[bh,bh];refine .cons ?_ ih;obtain⟨h1,h2⟩:=h;by_cases e:p.1=k
  ·rw[ah e,ah (h1.symm.trans e)];exact⟨h1,ry⟩
  ·rw[af e,af (fun z=>e (h1.trans z))];exact⟨h1,h2⟩
theorem KV.put{kvs:List (κ×V)}{vs:List (κ×Value)}(r:KV kvs vs)(k:κ){y:V}{u:Value}(ry:RelV y u):KV (putK kvs k y) (stored vs k u):=by
 unfold putK stored;rw[r.any k];by_cases e:(vs.any fun kv=>decide (kv.1=k))=true
 ·rw[ah e,ah e];exact r.MC k ry
 ·rw[af e,af e];exact Paired.snoc r ⟨rfl,ry⟩
theorem KV.length{kvs:List (κ×V)}{vs:List (κ×Value)}(r:KV kvs vs):kvs.length=vs.length:=Paired.length r
end
theorem tI{P:Program}{w:World}{k:Key}{u:Value}(r:RelV (kV k) u):(c6 P w).is k u=true:=by
 cases k with
 |inl i=>obtain⟨t,e⟩:=(show∃t,u=Value.int i t from r);subst e;exact zC P w i t
 |inr x=>obtain⟨t,e⟩:=(show∃t,u=Value.str x t from r);subst e;exact zB P w x t
theorem vU{P:Program}{w:World}:∀{ks:List Key}{us:List Value},Vals (ks.map kV) us->ItemsAre (c6 P w) ks us
 |[],_,r=>by rw[iy]at r;cases r;exact .nil
 |k::ks,_,r=>by
  rw[bh]at r;cases r with
  |cons h t=>exact .cons (tI h) (vU t)
noncomputable abbrev KT(H:Hp):List (List Key×V)->List (List Key×Addr×Value)->Prop:=Paired fun p q=>p.1=q.1/\H q.2.1=some (.tup (p.1.map kV))/\RelV p.2 q.2.2
theorem KT.val{H:Hp}{kvs:List (List Key×V)}{xs:List (List Key×Addr×Value)}(r:KT H kvs xs)(k:List Key):mZ (rT kvs k) ((atKey xs k).map (·.2)):=by
 induction r with
 |nil=>exact True.intro
 | @cons p q ps qs h t ih=>
  obtain⟨h1,_,h2⟩:=h;by_cases e:p.1=k
  ·have e':q.1=k:=h1.symm.trans e;have b:atKey (q::qs) k=some q.2:=by simp[atKey,ij,e']
   rw[nB e,b];exact h2
  ·have e':¬q.1=k:=fun z=>e (h1.trans z)
   have b:atKey (q::qs) k=atKey qs k:=by simp[atKey,ij,e']
   rw[nE e,b];exact ih
theorem KT.MC{H:Hp}{kvs:List (List Key×V)}{xs:List (List Key×Addr×Value)}(r:KT H kvs xs)(k:List Key){y:V}{u:Value}(ry:RelV y u):
  KT H (kvs.map fun kv=>if kv.1=k then(kv.1,y)else kv) (xs.map (putAt k u)):=by
 induction r with
 |nil=>exact .nil
 | @cons p q ps qs h t ih=>
  rw[bh,bh];refine .cons ?_ ih;obtain⟨h1,h2,h3⟩:=h;unfold putAt;by_cases e:p.1=k
  ·rw[ah e,ah (h1.symm.trans e)];exact⟨h1,h2,ry⟩
  ·rw[af e,af (fun z=>e (h1.trans z))];exact⟨h1,h2,h3⟩
theorem KT.put{H:Hp}{kvs:List (List Key×V)}{xs:List (List Key×Addr×Value)}(r:KT H kvs xs)(k:List Key){b:Addr}{y:V}{u:Value}(hb:H b=some (.tup (k.map kV)))(ry:RelV y u):
  KT H (putK kvs k y) (storedH xs k b u):=by
 have e:(kvs.any fun kv=>decide (kv.1=k))=(atKey xs k).isSome:=by rw[yA,(r.val k).j4,Option.isSome_map]
 unfold putK storedH;rw[e];by_cases q:(atKey xs k).isSome=true
 ·rw[ah q,ah q];exact r.MC k ry
 ·rw[af q,af q];exact Paired.snoc r ⟨rfl,hb,ry⟩
theorem KT.keeps{H H':Hp}{kvs:List (List Key×V)}{xs:List (List Key×Addr×Value)}(r:KT H kvs xs)(ht:∀b ys,H b=some (.tup ys)->H' b=some (.tup ys)):KT H' kvs xs:=
 Paired.K7 r fun _ _ z=>⟨z.1,ht _ _ z.2.1,z.2.2⟩
section
variable {P:Program}{w:World}{H:Hp}{h:Heap}{a:Addr}
theorem GQ{u:HO}(ok:HOk P w H h)(e:Rd H a u):cO P w H h a u:=e.ok ok
theorem rA{kvs:List (Key×V)}(ok:HOk P w H h)(e:Rd H a (.dK kvs)):kvs.length<=sizeLine/\(a==sysModules)=false/\∃vs,KV kvs vs/\h.DictOf (c6 P w) a vs:=
 show cO P w H h a (.dK kvs)from GQ ok e
theorem SX{kvs:List (Key×V)}(ok:HOk P w H h)(e:H a=some (.dK kvs)):kvs.length<=sizeLine/\(a==sysModules)=false/\∃vs,KV kvs vs/\h.DictOf (c6 P w) a vs:=rA ok (.inl e)
theorem kU{ks:List Key}(ok:HOk P w H h)(e:H a=some (.tup (ks.map kV))):(tupleKind (c6 P w)).is h ks a:=by obtain⟨_,its,r,o,h1,h2,n,h3⟩:=(show cO P w H h a (.tup (ks.map kV))from ok a _ e);exact⟨o,its.toArray,n,h1,h2,h3,by simpa using vU r⟩
theorem oR{kvs:List (List Key×V)}(ok:HOk P w H h)(e:Rd H a (.dT kvs)):kvs.length<=sizeLine/\(a==sysModules)=false/\
  ∃xs,KT H kvs xs/\h.DictOfH (tupleKind (c6 P w)) a xs:=by
 obtain⟨z,y,xs,r,o,es,ep,h1,h2,h3,h4,h5⟩:=(show cO P w H h a (.dT kvs)from GQ ok e);refine⟨z,y,xs,r,o,es,ep,h1,h2,h3,h4,fun x hx=>?_,h5⟩;have all:∀{l:List (List Key×V)}{m:List (List Key×Addr×Value)},KT H l m->∀x∈m,(tupleKind (c6 P w)).is h x.1 x.2.1:=by
  intro l m q;induction q with
  |nil=>intro x hx;exact nomatch hx
  | @cons p q ps qs hq t ih=>
   intro x hx;rcases ak.mp hx with e|hx
   ·subst e;exact kU ok (by rw[<- hq.1];exact hq.2.1)
   ·exact ih x hx
 exact all r x hx
theorem SW{kvs:List (List Key×V)}(ok:HOk P w H h)(e:H a=some (.dT kvs)):kvs.length<=sizeLine/\(a==sysModules)=false/\
  ∃xs,KT H kvs xs/\h.DictOfH (tupleKind (c6 P w)) a xs:=oR ok (.inl e)
end
noncomputable def lP(H:Hp)(a:Addr)(y:V)(r:Option V):Prop:=
 (∃kvs k,Rd H a (.dK kvs)/\y=kV k/\r=rT kvs k)\/∃kvs k b,Rd H a (.dT kvs)/\y=.ref b/\H b=some (.tup (k.map kV))/\r=rT kvs k
noncomputable def LK(H:Hp)(a:Addr)(y v:V)(H':Hp):Prop:=
 (∃kvs k,H a=some (.dK kvs)/\y=kV k/\kvs.length<sizeLine/\H'=upd H a (.dK (putK kvs k v)))\/
 ∃kvs k b,H a=some (.dT kvs)/\y=.ref b/\H b=some (.tup (k.map kV))/\kvs.length<sizeLine/\H'=upd H a (.dT (putK kvs k v))
section
variable {X:Cx}{jj:List (Addr×Obj)}{σ:St}{H:Hp}{s:Shared}{a:Addr}{y v:V}{u r:Value}{o:Option V}{A:Around}{E:Value->Shared->Prop}
theorem Inv.big(I:Inv X jj σ H s):sysModules<s.heap.objs.size:=by have h:mainGlobals<s.heap.objs.size:=(I.mod.glob.keeps I.bk).lt;exact Nat.lt_trans (by decide) h
theorem FP{Q:Value->Shared->Prop}(hu:A.units+1<cLine)(I:Inv X jj σ H s)(g:lP H a y (some v))(ry:RelV y u)(h:∀w' s',Inv X jj σ H s'->RelV v w'->Q w' s'):
  wpAny (model X.prog X.w) A (getItem (.ref a) u) Q E s:=by
 rcases g with⟨kvs,k,e,ey,l⟩|⟨kvs,k,b,e,ey,eb,l⟩
 ·subst ey;obtain⟨z,hd,vs,rel,dd⟩:=rA I.hok e;obtain⟨w',hw,qu⟩:=mZ.some_of (v:=v) (o:=valueAt vs k) (by rw[l];exact rel.val k);exact wpAny_getItem_of (tI ry) dd.mapOf hw (h w' _ (I.tok _) qu)
 ·subst ey;cases (show u=Value.ref b from ry);obtain⟨z,hd,xs,rel,dd⟩:=oR I.hok e;obtain⟨w',hw,qu⟩:=mZ.some_of (v:=v) (o:=(atKey xs k).map (·.2)) (by rw[l];exact rel.val k);obtain⟨p,hp,hp2⟩:=Option.map_eq_some_iff.mp hw;refine wpAny_getItem_heap (tupleKind_room_in1 hu) (kU I.hok eb) dd hp ?_;rw[hp2];exact h w' _ (I.tok _) qu
theorem XS{Q:Value->Shared->Prop}(hu:A.units+1<cLine)(I:Inv X jj σ H s)(g:lP H a y o)(ry:RelV y u)(h:∀s',Inv X jj σ H s'->Q (.bool o.isSome) s'):
  wpAny (model X.prog X.w) A (compareOp .In u (.ref a)) Q E s:=by
 rcases g with⟨kvs,k,e,ey,l⟩|⟨kvs,k,b,e,ey,eb,l⟩
 ·subst ey;obtain⟨z,hd,vs,rel,dd⟩:=rA I.hok e;refine wpAny_in_of (tI ry) hd dd.mapOf ?_;rw[<- (rel.val k).j4,<- l];exact h _ (I.tok _)
 ·subst ey;cases (show u=Value.ref b from ry);obtain⟨z,hd,xs,rel,dd⟩:=oR I.hok e;refine wpAny_in_heap (tupleKind_room_in1 hu) (kU I.hok eb) hd dd ?_;have q:=(rel.val k).j4;rw[Option.isSome_map]at q;rw[<- q,<- l];exact h _ (I.tok _)
theorem L7{Q:Value->Shared->Prop}(hu:A.units+1<cLine)(I:Inv X jj σ H s)(g:lP H a y o)(ry:RelV y u)(h:∀s',Inv X jj σ H s'->Q (.bool (!o.isSome)) s'):
  wpAny (model X.prog X.w) A (compareOp .NotIn u (.ref a)) Q E s:=by
 rcases g with⟨kvs,k,e,ey,l⟩|⟨kvs,k,b,e,ey,eb,l⟩
 ·subst ey;obtain⟨z,hd,vs,rel,dd⟩:=rA I.hok e;refine wpAny_notIn_of (tI ry) hd dd.mapOf ?_;rw[<- (rel.val k).j4,<- l];exact h _ (I.tok _)
 ·subst ey;cases (show u=Value.ref b from ry);obtain⟨z,hd,xs,rel,dd⟩:=oR I.hok e;refine wpAny_notIn_heap (tupleKind_room_in1 hu) (kU I.hok eb) hd dd ?_;have q:=(rel.val k).j4;rw[Option.isSome_map]at q;rw[<- q,<- l];exact h _ (I.tok _)
theorem xW{h':Heap}{t':Nat}{ob:HO}(I:Inv X jj σ H s)(mu:Mut (H a))(hs:Heap.SameBut a s.heap h')(he:∃q,h'.get? a=some q)(new:cO X.prog X.w (upd H a ob) h' a ob):
  Inv X jj σ (upd H a ob) {s with heap:=h',toks:=t'}:=
 I.write (x:=a) (e:=a) mu (.inl rfl) (fun b q hb z=>(hs.2 b hb).trans z) he new
theorem NB{P:Program}{w:World}{H':Hp}{h':Heap}{kvs:List (Key×V)}{vs:List (Key×Value)}(z:kvs.length<=sizeLine)(hd:(a==sysModules)=false)(rel:KV kvs vs)(dd:h'.DictOf (c6 P w) a vs):
  cO P w H' h' a (.dK kvs):=⟨z,hd,vs,rel,dd⟩
theorem FO{H':Hp}{Q:Unit->Shared->Prop}(hu:A.units+1<cLine)(I:Inv X jj σ H s)(g:LK H a y v H')(ry:RelV y u)(rv:RelV v r)(h:∀s',Inv X jj σ H' s'->Q () s'):
  wpAny (model X.prog X.w) A (setItem (.ref a) u r) Q E s:=by
 rcases g with⟨kvs,k,e,ey,l,eH⟩|⟨kvs,k,b,e,ey,eb,l,eH⟩
 ·subst ey eH;obtain⟨z,hd,vs,rel,dd⟩:=SX I.hok e;have hz:vs.length<=sizeLine:=by rw[<- rel.length];exact z
  have hl:(putK kvs k v).length<=sizeLine:=by have:=kQ kvs k v;omega
  refine wpAny_setItem_pairs (hsz:=hz) (tI ry) dd fun h' ur hs=>h _ ?_
  have he:∃q,h'.get? a=some q:=let⟨q,_,_,hq,_⟩:=ur;⟨q,hq⟩
  exact xW I (by rw[e];exact True.intro) hs he (NB hl hd (rel.put k rv) ur)
 ·subst ey eH;cases (show u=Value.ref b from ry);obtain⟨z,hd,xs,rel,dd⟩:=SW I.hok e;have hz:xs.length<=sizeLine:=by rw[<- Paired.length rel];exact z
  have hl:(putK kvs k v).length<=sizeLine:=by have:=kQ kvs k v;omega
  refine wpAny_setItem_heap (hsz:=hz) (tupleKind_room_in1 hu) (kU I.hok eb) dd fun h' ur hs=>h _ ?_
  obtain⟨q,es,ep,hq,h2,h3,h4,_,h5⟩:=ur;refine xW I (by rw[e];exact True.intro) hs ⟨q,hq⟩ ⟨hl,hd,_,(rel.put k eb rv).keeps fun c ys ec=>?_,q,es,ep,hq,h2,h3,h4,h5⟩;rw[aB (fE ec e (fun z=>nomatch z))];exact ec
end
noncomputable def T6(i:Expr):Prop:=∀ov iv,subscripted i false ov iv=operate [ov,iv] (getItem ov iv)
theorem JL{prog:Program}{w:World}{A:Around}{E:Value->Shared->Prop}{s:Shared}{env:Env}{js slice:Expr}{pos:Pos}{T id:String}{Q:Value->Shared->Prop}
  (hl:typeLookup (.type T) "__getitem__" =pure (some (.builtin id))) (hs:T6 slice)
  (h:wpAny (model prog w) A (eval js env) (fun o s₁=>wpAny (model prog w) A (eval slice env) (fun i s₂=>s₂.TypeIs o T/\wpAny (model prog w) A (getItem o i) Q E s₂) E s₁) E s):
  wpAny (model prog w) A (eval (.Subscript js slice pos) env) Q E s:=by
 refine Subscript_ (wpAny_mono h (fun o s₁ h₁=>wpAny_mono h₁ (fun i s₂ h₂=>?_) fun _ _ x=>x) fun _ _ x=>x);obtain⟨hT,h₂⟩:=h₂;unfold subscriptTail;refine aa ?_;rw[getitemInPython_of_ne hT.not_modules];refine aa (wpAny_specialOf hT hl ?_);have fin:wpAny (model prog w) A (subscripted slice false o i) (fun r s₃=>wpAny (model prog w) A (letTemporaryGo js o r>>=fun _=>pure r) Q E s₃) E s₂:=by rw[hs o i];exact wpAny_operating (wpAny_mono h₂ (fun r s₃ h₃=>aa (wpAny_letTemporaryGo (ag h₃))) fun _ _ x=>x)
 first
  |exact ag (aa fin)
  |exact aa (ag (aa fin))
  |exact aa fin
theorem AA{X:Cx}{jj:List (Addr×Obj)}{σ:St}{H:Hp}{s:Shared}{a:Addr}{y:V}{o:Option V}(I:Inv X jj σ H s)(g:lP H a y o):s.TypeIs (.ref a) "dict" :=by
 rcases g with⟨kvs,k,e,_,_⟩|⟨kvs,k,b,e,_,_,_⟩
 ·obtain⟨_,_,vs,_,dd⟩:=rA I.hok e;exact dd.typeIs
 ·obtain⟨_,_,xs,_,dd⟩:=oR I.hok e;exact dd.typeIs
noncomputable def O6(td ty:TE):TE:=fun σ H Q=>td σ H fun x H1=>ty σ H1 fun y H2=>∃a v,x=.ref a/\lP H2 a y (some v)/\Q v H2
noncomputable def TN(ty td:TE):TE:=fun σ H Q=>ty σ H fun y H1=>td σ H1 fun x H2=>∃a o,x=.ref a/\lP H2 a y o/\Q (.bl o.isSome) H2
noncomputable def JK(ty td:TE):TE:=fun σ H Q=>ty σ H fun y H1=>td σ H1 fun x H2=>∃a o,x=.ref a/\lP H2 a y o/\Q (.bl (!o.isSome)) H2
noncomputable def OC(td ty tv:TE):TS:=fun D σ H=>tv σ H fun v H1=>td σ H1 fun x H2=>ty σ H2 fun y H3=>∃a H4,x=.ref a/\LK H3 a y v H4/\D.nx σ H4
section
variable {X:Cx}{o i e js:Expr}{pos kb mq:Pos}{td ty tv:TE}
theorem lV(hu:X.A.units+1<cLine)(ho:PE X o td)(hi:PE X i ty)(hs:T6 i):PE X (.Subscript o i pos) (O6 td ty):=by intro jj s σ H Q I h;refine JL PySem.F.slot_dict_getitem.lookup hs (thn (ho jj s σ H _ I h) fun u s1 ⟨x,H1,I1,rx,q1⟩=>thn (hi jj s1 σ H1 _ I1 q1) fun iv s2 ⟨y,H2,I2,ry,a,v,ex,g,q2⟩=>?_);subst ex;obtain rfl:u=Value.ref a:=rx;exact⟨AA I2 g,FP hu I2 g ry fun w' s3 I3 qu=>⟨v,H2,I3,qu,q2⟩⟩
theorem B9(hu:X.A.units+1<cLine)(hi:PE X i ty)(ho:PE X o td):PC X .In i o (TN ty td):=by
 intro jj s σ H Q I h;refine thn (hi jj s σ H _ I h) fun iv s1 ⟨y,H1,I1,ry,q1⟩=>thn (ho jj s1 σ H1 _ I1 q1) fun u s2 ⟨x,H2,I2,rx,a,ov,ex,g,q2⟩=>?_
 subst ex;obtain rfl:u=Value.ref a:=rx;exact XS hu I2 g ry fun s3 I3=>⟨.bl ov.isSome,H2,I3,rfl,q2⟩
theorem cG(hu:X.A.units+1<cLine)(hi:PE X i ty)(ho:PE X o td):PC X .NotIn i o (JK ty td):=by
 intro jj s σ H Q I h;refine thn (hi jj s σ H _ I h) fun iv s1 ⟨y,H1,I1,ry,q1⟩=>thn (ho jj s1 σ H1 _ I1 q1) fun u s2 ⟨x,H2,I2,rx,a,ov,ex,g,q2⟩=>?_
 subst ex;obtain rfl:u=Value.ref a:=rx;exact L7 hu I2 g ry fun s3 I3=>⟨.bl (!ov.isSome),H2,I3,rfl,q2⟩
theorem eV(hu:X.A.units+1<cLine)(ho:PE X o td)(hi:PE X i ty)(hv:PE X js tv)(hs:swapsWith js (some (.Subscript o i kb)) pos.line X.env=pure false):
  PS X (.Assign [.Subscript o i kb] js pos) (OC td ty tv):=by
 intro jj s σ H D I h;refine wpAny_Assign_Subscript (thn (hv jj s σ H _ I h) fun r s1 ⟨v,H1,I1,rv,q1⟩=>thn (ho jj s1 σ H1 _ I1 q1) fun u s2 ⟨x,H2,I2,rx,q2⟩=>thn (hi jj s2 σ H2 _ I2 q2) fun iv s3 ⟨y,H3,I3,ry,a,H4,ex,g,q3⟩=>?_) hs;subst ex;obtain rfl:u=Value.ref a:=rx;exact FO hu I3 g ry rv fun s4 I4=>⟨σ,H4,I4,q3⟩
end
theorem IU{P:Program}{w:World}{H:Hp}(h:Heap)(hb:sysModules<h.objs.size):cO P w H (h.push {cls:=.type "dict",data:=.dict #[]}) h.objs.size (.dT []):=
 ⟨bz _,beq_eq_false_iff_ne.mpr (Ne.symm (cv hb)),[],.nil,_,#[],0,az _ rfl,⟨rfl,rfl,rfl⟩,rfl,rfl,nodup_nil⟩
def M4:TE:=fun _ H Q=>∀p,H p=none->Q (.ref p) (upd H p (.dT []))
section
variable {X:Cx}{pos:Pos}
theorem d9:PE X (.Dict [] [] pos) M4:=fun jj s σ H Q I h=>
 wpAny_Dict_empty ⟨.ref s.heap.objs.size,_,I.laid (a:=s.heap.objs.size) (o:=.dT []) (t':=s.toks) (fun _ _ q=>ao _ q) (au _) (IU s.heap I.big),rfl,h _ (I.hok.fresh (au _))⟩
end
structure M1(X:Cx)(o:Expr)(m:Str)(kl:Pos)(e:Expr)(jq:Pos):Prop where
 base:attributeBase o m X.env (eval o X.env)=eval o X.env
 few:((backTo jq (starEach [e] X.env)).all (fun x=>!x.1)&& (backToKw jq (keywordEach [] X.env)).all (fun x=>x.1.isSome)
  && decide (([e]:List Expr).length+([]:List Keyword).length+(if([]:List Keyword).isEmpty then 0 else 1)<30))=true
 line:(kl.endLine==jq.line)=true
 trees:backTo jq (starEach [e] X.env)=[(false,eval e X.env)]
structure M2(X:Cx)(o:Expr)(m:Str)(kl:Pos)(e f:Expr)(jq:Pos):Prop where
 base:attributeBase o m X.env (eval o X.env)=eval o X.env
 few:((backTo jq (starEach [e,f] X.env)).all (fun x=>!x.1)&& (backToKw jq (keywordEach [] X.env)).all (fun x=>x.1.isSome)
  && decide (([e,f]:List Expr).length+([]:List Keyword).length+(if([]:List Keyword).isEmpty then 0 else 1)<30))=true
 line:(kl.endLine==jq.line)=true
 trees:backTo jq (starEach [e,f] X.env)=[(false,eval e X.env),(false,eval f X.env)]
def IsD(H:Hp)(a:Addr):Prop:=(∃kvs,Rd H a (.dK kvs))\/∃kvs,Rd H a (.dT kvs)
theorem IE{X:Cx}{jj:List (Addr×Obj)}{σ:St}{H:Hp}{s:Shared}{a:Addr}(I:Inv X jj σ H s)(d:IsD H a):
  s.TypeIs (.ref a) "dict" /\(∀b,Value.ref a=.ref b->∃ob,s.heap.get? b=some ob/\ob.dict=none)/\(a==sysModules)=false:=by
 rcases d with⟨kvs,e⟩|⟨kvs,e⟩
 ·obtain⟨_,hd,vs,_,dd⟩:=rA I.hok e;refine⟨dd.typeIs,fun b q=>?_,hd⟩;cases q;obtain⟨ob,_,_,h1,h2,_⟩:=dd;exact⟨ob,h1,h2.2.1⟩
 ·obtain⟨_,hd,xs,_,dd⟩:=oR I.hok e;refine⟨dd.typeIs,fun b q=>?_,hd⟩;cases q;obtain⟨ob,_,_,h1,h2,_⟩:=dd;exact⟨ob,h1,h2.2.1⟩
section
variable {X:Cx}{jj:List (Addr×Obj)}{σ:St}{H:Hp}{s:Shared}{a:Addr}{y d:V}{u r:Value}{o:Option V}{A:Around}{E:Value->Shared->Prop}
theorem NG{Q:Value->Shared->Prop}(hu:A.units+1<cLine)(I:Inv X jj σ H s)(g:lP H a y o)(ry:RelV y u)(h:∀w' s',Inv X jj σ H s'->RelV (o.getD .non) w'->Q w' s'):
  wpAny (model X.prog X.w) A (call (.builtin "dict.get") [.ref a,u]) Q E s:=by
 rcases g with⟨kvs,k,e,ey,l⟩|⟨kvs,k,b,e,ey,eb,l⟩
 ·subst ey;obtain⟨z,hd,vs,rel,dd⟩:=rA I.hok e;refine call_meetsIn PySem.F.slot_dict_get dd.typeIs PySem.F.entry_dict_get (PySem.F.args_dict_get_2 _ _) (meets_dict_get (c6 X.prog X.w) a (tI ry) hd) ⟨_,dd.mapOf,h _ _ (I.tok _) ?_⟩;rw[l];exact(rel.val k).getD rfl
 ·subst ey;cases (show u=Value.ref b from ry);obtain⟨z,hd,xs,rel,dd⟩:=oR I.hok e;refine call_meetsIn PySem.F.slot_dict_get dd.typeIs PySem.F.entry_dict_get (PySem.F.args_dict_get_2 _ _) (meetsH_dict_get (tupleKind (c6 X.prog X.w)) a b hd) ⟨tupleKind_room_in1 hu,k,xs,kU I.hok eb,dd,h _ _ (I.tok _) ?_⟩;rw[l];exact(rel.val k).getD rfl
theorem NF{Q:Value->Shared->Prop}(hu:A.units+1<cLine)(I:Inv X jj σ H s)(g:lP H a y o)(ry:RelV y u)(rd:RelV d r)(h:∀w' s',Inv X jj σ H s'->RelV (o.getD d) w'->Q w' s'):
  wpAny (model X.prog X.w) A (call (.builtin "dict.get") [.ref a,u,r]) Q E s:=by
 rcases g with⟨kvs,k,e,ey,l⟩|⟨kvs,k,b,e,ey,eb,l⟩
 ·subst ey;obtain⟨z,hd,vs,rel,dd⟩:=rA I.hok e;refine call_meetsIn PySem.F.slot_dict_get dd.typeIs PySem.F.entry_dict_get (PySem.F.args_dict_get_3 _ _ _) (meets_dict_get_default (c6 X.prog X.w) a (tI ry) hd r) ⟨_,dd.mapOf,h _ _ (I.tok _) ?_⟩;rw[l];exact(rel.val k).getD rd
 ·subst ey;cases (show u=Value.ref b from ry);obtain⟨z,hd,xs,rel,dd⟩:=oR I.hok e;refine call_meetsIn PySem.F.slot_dict_get dd.typeIs PySem.F.entry_dict_get (PySem.F.args_dict_get_3 _ _ _) (meetsH_dict_get_default (tupleKind (c6 X.prog X.w)) a b hd r) ⟨tupleKind_room_in1 hu,k,xs,kU I.hok eb,dd,h _ _ (I.tok _) ?_⟩;rw[l];exact(rel.val k).getD rd
end
noncomputable def M6(td ty:TE):TE:=fun σ H Q=>td σ H fun x H1=>∃a,x=.ref a/\IsD H1 a/\ty σ H1 fun y H2=>∃o,lP H2 a y o/\Q (o.getD .non) H2
noncomputable def M5(td ty tx:TE):TE:=fun σ H Q=>td σ H fun x H1=>∃a,x=.ref a/\IsD H1 a/\ty σ H1 fun y H2=>tx σ H2 fun z H3=>∃o,lP H3 a y o/\Q (o.getD z) H3
section
variable {X:Cx}{o e f:Expr}{kl jq:Pos}{td ty tx:TE}
theorem HG(hu:X.A.units+1<cLine)(ho:PE X o td)(he:PE X e ty)(m:M1 X o "get" kl e jq):PE X (.Call (.Attribute o "get" kl) [e] [] jq) (M6 td ty):=by intro jj s σ H Q I h;refine wpAny_Call_method m.base m.few m.line PySem.F.plainAttrs_dict PySem.F.slot_dict_get PySem.F.type_dict_get (thn (ho jj s σ H _ I h) fun u s1 ⟨x,H1,I1,rx,a,ex,d,q1⟩=>?_);subst ex;obtain rfl:u=Value.ref a:=rx;obtain⟨t1,t2,_⟩:=IE I1 d;refine⟨t1,t2,?_⟩;rw[m.trees];refine Calls.callWith_builtin rfl (Calls.evalArgs_plain (Calls.spliced_cons (thn (he jj s1 σ H1 _ I1 q1) fun iv s2 ⟨y,H2,I2,ry,ov,g,q2⟩=>Calls.spliced_nil ?_)));exact NG hu I2 g ry fun w' s3 I3 qu=>⟨_,H2,I3,qu,q2⟩
theorem HF(hu:X.A.units+1<cLine)(ho:PE X o td)(he:PE X e ty)(hf:PE X f tx)(m:M2 X o "get" kl e f jq):PE X (.Call (.Attribute o "get" kl) [e,f] [] jq) (M5 td ty tx):=by
 intro jj s σ H Q I h;refine wpAny_Call_method m.base m.few m.line PySem.F.plainAttrs_dict PySem.F.slot_dict_get PySem.F.type_dict_get (thn (ho jj s σ H _ I h) fun u s1 ⟨x,H1,I1,rx,a,ex,d,q1⟩=>?_);subst ex;obtain rfl:u=Value.ref a:=rx;obtain⟨t1,t2,_⟩:=IE I1 d;refine⟨t1,t2,?_⟩;rw[m.trees];refine Calls.callWith_builtin rfl (Calls.evalArgs_plain (Calls.spliced_cons (thn (he jj s1 σ H1 _ I1 q1) fun iv s2 ⟨y,H2,I2,ry,q2⟩=>
  Calls.spliced_cons (thn (hf jj s2 σ H2 _ I2 q2) fun fv s3 ⟨z,H3,I3,rz,ov,g,q3⟩=>Calls.spliced_nil ?_))))
 exact NF hu I3 g ry rz fun w' s4 I4 qu=>⟨_,H3,I4,qu,q3⟩
end
theorem tF:typeLookup (.type "list") "keys" =pure none:=am_miss_of_fast (by first|decide+kernel|rfl)
theorem yB:entryFor table "dict.update.loop" =some Builtin.«dict.update.loop» :=entryFor_of_tree (by kernel_rfl)
theorem kC:plainId "dict.update.loop" =true:=by decide+kernel
section
variable {prog:Program}{w:World}{A:Around}{E:Value->Shared->Prop}
theorem ES{s:Shared}{a:Addr}{o:Obj}{xs:Array Value}{k:Nat}{Q:Option Value->Shared->Prop}(hx:s.heap.get? a=some o)(hc:o.cls=.type "list")(kj:o.data=.seq xs k)(hd:o.dict=none)(hA:A.handled=none)
  (h:∀h' tk,(∀b ob,s.heap.get? b=some ob->h'.get? b=some ob)->Q none {s with heap:=h',toks:=tk}):wpAny (model prog w) A (getAttr? (.ref a) "keys") Q E s:=by
 obtain⟨c,dct,dat,sl⟩:=o;simp only at hc kj hd;subst hc kj hd;obtain⟨hp,g,d,tk,os⟩:=s;have hT:∀tk',(⟨hp,g,d,tk',os⟩:Shared).TypeIs (.ref a) "list" :=fun _=>⟨_,hx,rfl⟩
 have Cc:=tF;have Ca:(["__module__","__name__","__qualname__","__doc__","__annotations__"]:List Str).contains "keys" =false:=by decide+kernel
 have hsz:("keys" : Str).length+100<=sizeLine:=by first|size_fits|decide+kernel
 have f1:=sub_AttributeError;have f3:=PySem.F.slot_list_getattribute.lookup;have f4:=PySem.F.slot_list_getattribute.bind (.ref a);have f5:=am_list_getattr_none;unfold getAttr? getAttrBy? getAttrBy
 repeat (any_goals (first|assumption|exact hT _|((with_reducible show wpAny _ _ (call (Value.builtin "list.__getattribute__") _ _) _ _ _);refine call_meets PySem.F.slot_list_getattribute (hT _) am_entry_list_getattribute (PySem.F.args_list_getattribute_2 _ _) (meets_getattribute_miss_list a xs k sl "keys" _ Cc Ca hsz) ⟨hx,hA,fun h' tk' e ud=>?_⟩)|wp_step))
 obtain⟨t',u',he⟩:=ud.there;show wpAny _ _ (getattributeRaised _ _ _ _ _ _ _) _ _ _
 unfold getattributeRaised
 repeat (any_goals (first|assumption|wp_step))
 all_goals first|exact h _ _ ud.keeps|(dsimp only;repeat (any_goals (first|assumption|exact h _ _ ud.keeps|wp_step)))
end
section
variable {X:Cx}
theorem jE:∀{ps:List Addr}{us:List Value},Vals (ps.map V.ref) us->us=ps.map Value.ref
 |[],us,r=>by rw[iy]at r;cases r;rfl
 |p::ps,us,r=>by
  rw[bh]at r;cases r with
  |cons h t=>cases h;rw[bh,<- jE t]
end
section
variable {X:Cx}{jj:List (Addr×Obj)}{σ:St}{H:Hp}{s:Shared}{h':Heap}
theorem Inv.uW{t':Nat}{ch:List Addr}{T:Addr}{ob:HO}(I:Inv X jj σ H s)(k:∀b o,b∉ch->s.heap.get? b=some o->h'.get? b=some o)(hf:∀b∈ch,n4 X jj H b)(hT:s.heap.objs.size<=T)
  (new:cO X.prog X.w (upd H T ob) h' T ob):Inv X jj σ (upd H T ob) {s with heap:=h',toks:=t'}:=by
 have hn:H T=none:=I.hok.fresh hT;have Be:∀b u,H b=some u->b∉ch:=fun b u e z=>by have q:=(hf b z).1;rw[q]at e;cases e
 refine I.step (g':=s.gens) (d':=s.drawn) (ch:=ch) (fun b hb=>⟨(hf b hb).2.2.2.1,(hf b hb).2.1,(hf b hb).2.2.2.2.1,(hf b hb).2.2.2.2.2⟩) (fun b o _ _ hc e _=>k b o hc e) (fun b o _ _ hc e _=>⟨o.slots,k b o hc e⟩)
  (fun b o _ e n=>?_) (fun b o hc e=>⟨o,k b o hc e⟩) (fun b xs e=>?_) (fun b o u e=>?_) (fun b ps e=>⟨#[],?_⟩) (fun m hm=>?_) (fun b u e=>?_) I.bare
 ·rw[aB (cv (bw (bq e) hT))];exact n
 ·rw[aB (aJ e hn)];exact e
 ·rw[aB (aJ e hn)];exact e
 ·rw[aB (aJ e hn),e];simp
 ·obtain⟨o,es,ep,ho,r⟩:=hm;exact⟨o,es,ep,k _ o (fun z=>(hf _ z).2.1 rfl) ho,r⟩
 ·by_cases hb:b=T
  ·subst hb;rw[a8]at e;cases e;exact new
  ·rw[aB hb]at e;refine(I.hok b u e).nH (fun c v hc q=>k c v ?_ q) (fun c q=>by rw[aB (aJ q hn)];exact q) fun c xs q=>by rw[aB (aJ q hn)];exact q
   rcases hc with z|z
   ·rw[z];exact Be b u e
   ·exact Be c _ z
theorem Inv.lock{d:Addr}{u:HO}(I:Inv X jj σ H s)(h:H d=some u)(mu:Mut (some u)):∃od,Inv X jj σ (upd H d (.frz od u)) s:=by
 have x:=I.hok d u h;have ex:∃od,s.heap.get? d=some od:=by
  cases u with
  |lst xs=>obtain⟨_,_,_,_,e⟩:=x;exact⟨_,e⟩
  |dK kvs=>obtain⟨_,_,_,_,o,_,_,e,_⟩:=x;exact⟨o,e⟩
  |dT kvs=>obtain⟨_,_,_,_,o,_,_,e,_⟩:=x;exact⟨o,e⟩
  |set S n=>obtain⟨o,_,_,_,e,_⟩:=x;exact⟨o,e⟩
  |ins C dx fs=>obtain⟨_,_,_,e,_⟩:=x;exact⟨_,e⟩
  |ext φ=>obtain⟨_,⟨_,e⟩,_⟩:=x;exact⟨_,e⟩
  |_=>exact False.elim mu
 obtain⟨od,e⟩:=ex;have new:cO X.prog X.w (upd H d (.frz od u)) s.heap d (.frz od u):=by
  refine⟨e,x.nH (fun b v _ q=>q) (fun b q=>?_) fun b xs q=>?_⟩
  ·rw[aB (fun z=>by rw[z,h]at q;cases q;exact mu)];exact q
  ·rw[aB (fun z=>by rw[z,h]at q;cases q;exact mu)];exact q
 exact⟨od,I.write (x:=d) (e:=d) (t':=s.toks) (h':=s.heap) (by rw[h];exact mu) (.inl rfl) (fun b v _ q=>q) ⟨od,e⟩ new⟩
theorem Inv.vP{d:Addr}{u:HO}(I:Inv X jj σ H s)(h:H d=some u)(mu:Mut (some u)):∀o' u',X.H_0 d≠some (.frz o' u'):=fun o' u' e=>by have q:=I.base.oJ d o' u' e;rw[h]at q;cases q;exact mu
theorem Inv.unlock{d:Addr}{od:Obj}{u:HO}(I:Inv X jj σ H s)(h:H d=some (.frz od u))(hn:∀o' u',X.H_0 d≠some (.frz o' u')):Inv X jj σ (upd H d u) s:=by
 have zx:∀b o,H b=some o->(∀o' u',o≠ .frz o' u')->b≠d:=fun b o e jn z=>by rw[z,h]at e;cases e;exact jn _ _ rfl
 have neN:∀b,H b=none->b≠d:=fun b e z=>by rw[z,h]at e;cases e
 refine⟨I.ok,I.os,I.bare,⟨I.base.keep,I.base.slot,fun b o e n hx=>?_,I.base.there,fun b xs e=>?_,fun b o x e=>?_,fun b ps e=>?_⟩,I.loc,I.cell,?_,fun x c e=>?_,fun p hp=>?_,fun b o e=>?_,I.len⟩
 ·rw[aB (neN b (I.base.free b o e n hx))];exact I.base.free b o e n hx
 ·have q:=I.base.kD b xs e;rw[aB (zx b _ q (fun _ _ z=>nomatch z))];exact q
 ·have q:=I.base.oJ b o x e;rw[aB (fun z=>by rw[z]at e;exact hn _ _ e)];exact q
 ·obtain⟨m,q⟩:=I.base.rY b ps e;exact⟨m,by rw[aB (zx b _ q (fun _ _ z=>nomatch z))];exact q⟩
 ·rw[aB (neN _ I.free)];exact I.free
 ·rw[aB (neN c (I.hY x c e))];exact I.hY x c e
 ·obtain⟨e,n,r⟩:=I.pin p hp;exact⟨e,by rw[aB (neN _ n)];exact n,r⟩
 ·by_cases hb:b=d
  ·rw[hb,a8]at e;cases e;rw[hb];obtain⟨_,x⟩:=I.hok d _ h;exact x.nH (fun c v _ q=>q) (fun c q=>by rw[aB (zx c _ q (fun _ _ z=>nomatch z))];exact q) fun c xs q=>by rw[aB (zx c _ q (fun _ _ z=>nomatch z))];exact q
  ·rw[aB hb]at e;exact(I.hok b o e).nH (fun c v _ q=>q) (fun c q=>by rw[aB (zx c _ q (fun _ _ z=>nomatch z))];exact q) fun c xs q=>by rw[aB (zx c _ q (fun _ _ z=>nomatch z))];exact q
end
noncomputable def O4(t:TS):TS:=fun D σ H=>∃d u,H d=some u/\Mut (some u)/\∀od,t ⟨fun σ' H'=>H' d=some (.frz od u)/\D.nx σ' (upd H' d u),fun v H'=>H' d=some (.frz od u)/\D.rt v (upd H' d u),fun σ' H'=>H' d=some (.frz od u)/\D.bk σ' (upd H' d u),fun σ' H'=>H' d=some (.frz od u)/\D.ct σ' (upd H' d u)⟩ σ (upd H d (.frz od u))
noncomputable def M3(t:TE):TE:=fun σ H Q=>∃d u,H d=some u/\Mut (some u)/\∀od,t σ (upd H d (.frz od u)) fun v H'=>H' d=some (.frz od u)/\Q v (upd H' d u)
section
variable {X:Cx}
theorem jF{st:Stmt}{t:TS}(h:PS X st t):PS X st (O4 t):=by
 intro jj s σ H D I hw;obtain⟨d,u,hd,mu,hw⟩:=hw;obtain⟨od,I1⟩:=I.lock hd mu;refine thn (h jj s σ _ _ I1 (hw od)) fun f s1 q=>?_
 cases f with
 |next=>obtain⟨σ',H',I2,e,q⟩:=q;exact⟨σ',_,I2.unlock e (I.vP hd mu),q⟩
 |brk=>obtain⟨σ',H',I2,e,q⟩:=q;exact⟨σ',_,I2.unlock e (I.vP hd mu),q⟩
 |cont=>obtain⟨σ',H',I2,e,q⟩:=q;exact⟨σ',_,I2.unlock e (I.vP hd mu),q⟩
 |ret v=>obtain⟨x,σ',H',I2,r,e,q⟩:=q;exact⟨x,σ',_,I2.unlock e (I.vP hd mu),r,q⟩
theorem JW{e:Expr}{t:TE}(h:PE X e t):PE X e (M3 t):=by
 intro jj s σ H Q I hw;obtain⟨d,u,hd,mu,hw⟩:=hw;obtain⟨od,I1⟩:=I.lock hd mu;refine thn (h jj s σ _ _ I1 (hw od)) fun v s1 ⟨x,H1,I2,r,e2,q⟩=>?_
 exact⟨x,_,I2.unlock e2 (I.vP hd mu),r,q⟩
theorem wX{tg:Expr}{jj:List (Addr×Obj)}{σ:St}{H:Hp}{s:Shared}{R:It->Hp->Prop}{J:It}{tn:Nat->Heap->Prop}{tk:Nat}(I:Inv X jj σ H s)(o:Obj)
  (T:Turn X.prog X.w X.K tg J [s.heap.objs.size] s.heap.objs.size tn) (st:tn 0 (s.heap.push o)) (q:R J H):PIE X jj σ tg R (.ref s.heap.objs.size) {s with heap:=s.heap.push o,toks:=tk}:=by
 refine⟨s.heap.objs.size,[s.heap.objs.size],tn,J,H,rfl,I.kept fun b ob e=>ao _ e,T,st,fun b hb=>?_,q⟩;have e:b=s.heap.objs.size:=by simpa using hb
 subst e;exact I.C9 (au _) (I.hok.fresh (au _))
end
section
variable {prog:Program}{w:World}{A:Around}{E:Value->Shared->Prop}{s:Shared}
theorem m5{d:Addr}{o:Obj}{es:Array DictEntry}{ep:Nat}{Q:Value->Shared->Prop}(hd:(d==sysModules)=false)(ho:s.heap.get? d=some o)(hc:o.ExactDict)(kj:o.data=.dict es ep)
  (hQ:Q (.ref s.heap.objs.size) {s with heap:=s.heap.push {cls:=.type "dict_keyiterator",data:=.fields #[.ref d,.int 0 0,.int es.size 0,.int ep 0]}}):
  wpAny (model prog w) A (pyIter (.ref d)) Q E s:=by
 have hT:s.TypeIs (.ref d) "dict" :=⟨o,ho,hc.1⟩;refine wpAny_pyIter_slot hT F.slot_dict_iter (wpAny_call_entry F.slot_dict_iter hT F.entry_dict_iter ?_ (F.args_dict_iter_1 _));unfold Builtin.«dict.__iter__»;refine aa ?_;unfold Builtin.Dict.dictSlotNone;refine aa (wpAny_notOrdered_dict hT ?_);show wpAny _ _ (pure (Value.ref d)) _ _ s
 refine ag ?_;show wpAny _ _ (Builtin.Dict.showsAll d>>= _) _ _ s
 unfold Builtin.Dict.showsAll;rw[af (by rw[hd];exact bp)];refine aa (ag ?_);refine aa (wpAny_dictEntries ho kj ?_);refine aa (wpAny_dictEpoch ho kj ?_);refine aa (wpAny_newObj_type (ag ⟨_,rfl,"dict_keyiterator",_,⟨_,az _ rfl,rfl⟩,F.slot_dict_keyiterator_next.lookup,?_⟩));simpa[rawInt]using hQ
theorem iJ{it d:Addr}{i n ep:Nat}{od:Obj}{es:Array DictEntry}{en:DictEntry}{Q:Option Value->Shared->Prop}(jz:s.heap.IsKeyIter it d i n ep)(ot:s.heap.get? d=some od)(xj:od.data=.dict es ep)
  (hsz:es.size=n) (hx:es[i]? =some en) (hQ:∀h',h'.IsKeyIter it d (i+1) n ep->Heap.SameBut it s.heap h'->Q (some en.key) {s with heap:=h'}):wpAny (model prog w) A (pyNext (.ref it)) Q E s:=by
 obtain⟨o,ho,hc,hd⟩:=id jz;unfold pyNext;refine aa (wpAny_attempt (wpAny_callSpecial?_slot (name:=Str.ofString "__next__") jz.typeIs F.slot_dict_keyiterator_next
  (wpAny_call_entry F.slot_dict_keyiterator_next jz.typeIs F.entry_dict_keyiterator_next ?_ (F.args_dict_keyiterator_next_1 _))))
 refine aa (ag ?_);refine aa ?_;refine aa ?_;first|refine aa (wpAny_typeNameOfWhole_keyiter jz.typeIs (ag ?_))|refine aa (wpAny_typeNameOf_keyiter jz.typeIs (ag ?_))
 refine aa (wpAny_fieldsOf ho hd ?_);have zc:Builtin.Dict_items.ownsTuple "dict_keyiterator" =false:=by decide
 simp only[zc,dm,if_false];show wpAny _ _ (if(Value.ref d==Value.none)=true then _ else _) _ _ s
 rw[af (show¬((Value.ref d==Value.none)=true)from bp)];refine aa (ag ?_);refine aa (wpAny_dictEntries ot xj ?_);rw[af (by rw[hsz];simp)];refine aa (ag ?_);refine aa (wpAny_dictEpoch ot xj ?_);rw[af (by simp)];refine ag ?_;obtain⟨hlt',ow⟩:=gf.mp hx;simp only[show¬((i:Int)<0)from by omega,if_false,ji,fx hlt'];refine aa ?_;first|refine aa (wpAny_typeNameOfWhole_keyiter jz.typeIs (ag ?_))|refine aa (wpAny_typeNameOf_keyiter jz.typeIs (ag ?_))
 refine aa (wpAny_isOneOf_keyiter jz.typeIs ?_);show wpAny _ _ (setField (.ref it) 1 (rawInt ((i:Int)+1))>>= _) _ _ s
 refine aa (wpAny_setField ho hd (by simp) ?_);have vt:(s.heap.update it (Obj.mapFields (·.setIfInBounds 1 (rawInt ((i:Int)+1))))).IsKeyIter it d (i+1) n ep:=
  ⟨_,Heap.get?_update_self _ ho (Obj.isFreed_of_fields (Obj.data_mapFields hd _)),(Obj.cls_mapFields ..).trans hc,by rw[Obj.data_mapFields hd];simp[rawInt]⟩
 refine aa (wpAny_holding ?_);refine aa (wpAny_isOneOf_keyiter (s:={s with heap:=s.heap.update it (Obj.mapFields (·.setIfInBounds 1 (rawInt ((i:Int)+1))))}) vt.typeIs ?_);show wpAny _ _ (pure es[i].key) _ _ _
 rw[ow];exact ag (ag ⟨_,rfl,ag (hQ _ vt (Heap.SameBut.update ..))⟩)
theorem gE{it d:Addr}{i n ep:Nat}{od:Obj}{es:Array DictEntry}{Q:Option Value->Shared->Prop}(hh:A.handled=none)(jz:s.heap.IsKeyIter it d i n ep)(ot:s.heap.get? d=some od)(xj:od.data=.dict es ep)
  (hsz:es.size=n) (zj:n<=i) (hQ:∀h',Heap.ExtBut it s.heap h'->Q none {s with heap:=h'}):wpAny (model prog w) A (pyNext (.ref it)) Q E s:=by
 obtain⟨o,ho,hc,hd⟩:=id jz;unfold pyNext;refine aa (wpAny_attempt (wpAny_callSpecial?_slot (name:=Str.ofString "__next__") jz.typeIs F.slot_dict_keyiterator_next
  (wpAny_call_entry F.slot_dict_keyiterator_next jz.typeIs F.entry_dict_keyiterator_next ?_ (F.args_dict_keyiterator_next_1 _))))
 refine aa (ag ?_);refine aa ?_;refine aa ?_;first|refine aa (wpAny_typeNameOfWhole_keyiter jz.typeIs (ag ?_))|refine aa (wpAny_typeNameOf_keyiter jz.typeIs (ag ?_))
 refine aa (wpAny_fieldsOf ho hd ?_);have zc:Builtin.Dict_items.ownsTuple "dict_keyiterator" =false:=by decide
 simp only[zc,dm,if_false];show wpAny _ _ (if(Value.ref d==Value.none)=true then _ else _) _ _ s
 rw[af (show¬((Value.ref d==Value.none)=true)from bp)];refine aa (ag ?_);refine aa (wpAny_dictEntries ot xj ?_);rw[af (by rw[hsz];simp)];refine aa (ag ?_);refine aa (wpAny_dictEpoch ot xj ?_);rw[af (by simp)];refine ag ?_;have hge':es.size<=i:=by rw[hsz];exact zj
 simp only[show¬((i:Int)<0)from by omega,if_false,ji,getElem?_eq_none hge'];refine aa ?_;first|refine aa (wpAny_typeNameOfWhole_keyiter jz.typeIs (ag ?_))|refine aa (wpAny_typeNameOf_keyiter jz.typeIs (ag ?_))
 show wpAny _ _ (setField (.ref it) 0 .none>>= _) _ _ s
 refine aa (wpAny_setField ho hd (by simp) ?_);show wpAny _ _ (newExc (.type "StopIteration") []>>= _) _ _ _
 refine aa ?_;simp only[newExc,newTuple];refine aa (wpAny_newObj_type ?_ (by size_fits));refine aa (m:=firstArgMember _ _) (wpAny_of_eq (a:=Value.none) (by first|rfl|(simp only[firstArgMember];rfl)) ?_);refine wpAny_newObj_type ?_ (by size_fits);simp only[raiseNew];refine aa (wpAny_handled ?_);rw[show A.in1.handled=none from hh];refine aa (ag (wpAny_throw ?_));refine aa (wpAny_isInstance (T:= "StopIteration") (b:=true) ⟨_,az _ rfl,rfl⟩ isSubtype_stop ?_);exact ag (hQ _ (((Heap.SameBut.update ..).extBut.push _).push _))
end
theorem MR{κ:Type}{kvs:List (κ×V)}{vs:List (κ×Value)}(h:KV kvs vs):∀{i:Nat}{k:κ}{v:V},kvs[i]? =some (k,v)->∃u,vs[i]? =some (k,u)/\RelV v u:=by
 unfold KV at h;induction h with
 |nil=>intro i k v e;simp at e
 | @cons a b l₁ l₂ r t ih=>
  intro i k v e;cases i with
  |zero=>simp only[List.getElem?_cons_zero,Option.some.injEq]at e;subst e;refine⟨b.2,?_,r.2⟩;simp only[List.getElem?_cons_zero];exact congrArg some (Prod.ext r.1.symm rfl)
  |succ j=>simp only[gp]at e ⊢;exact ih e
theorem BA{α β:Type}{G:α->β->Prop}{l₁:List α}{l₂:List β}(h:Paired G l₁ l₂):∀{i:Nat}{a:α},l₁[i]? =some a->∃b,l₂[i]? =some b/\G a b:=by
 induction h with
 |nil=>intro i a e;simp at e
 | @cons a b l₁ l₂ r t ih=>
  intro i a' e;cases i with
  |zero=>simp only[List.getElem?_cons_zero,Option.some.injEq]at e;subst e;exact⟨b,rfl,r⟩
  |succ j=>simp only[gp]at e ⊢;exact ih e
theorem GP{k:Key}{u:Value}(h:qV k u=true):RelV (kV k) u:=by
 rcases cE h with⟨i,t,rfl,rfl⟩|⟨x,t,rfl,rfl⟩
 ·exact⟨t,rfl⟩
 ·exact⟨t,rfl⟩
section
variable {X:Cx}{jj:List (Addr×Obj)}{σ:St}{H:Hp}{s:Shared}{d:Addr}{o:Obj}
theorem Inv.N9{kvs:List (Key×V)}(I:Inv X jj σ H s)(h:H d=some (.frz o (.dK kvs))):
  (d==sysModules)=false/\s.heap.get? d=some o/\o.ExactDict/\∃(es:Array DictEntry)(ep:Nat)(vs:List (Key×Value)),o.data=.dict es ep/\es.size=kvs.length/\KV kvs vs/\s.heap.DictAt (c6 X.prog X.w) d vs ep:=by
 obtain⟨hd,z,hs,vs,kv,o',es,ep,ho,hx,lg,r⟩:=I.hok d _ h;rw[hd]at ho;cases ho;refine⟨hs,hd,hx,es,ep,vs,lg,?_,kv,o,es,hd,hx,lg,r⟩;have l1:=r.2.1.length;have l2:kvs.length=vs.length:=Paired.length kv;rw[di]at l1;omega
theorem Inv.N7{kvs:List (List Key×V)}(I:Inv X jj σ H s)(h:H d=some (.frz o (.dT kvs))):
  (d==sysModules)=false/\s.heap.get? d=some o/\o.ExactDict/\∃(es:Array DictEntry)(ep:Nat),o.data=.dict es ep/\es.size=kvs.length/\
   ∀(i:Nat)(k:List Key)(v:V),kvs[i]? =some (k,v)->∃(en:DictEntry)(q:Addr),es[i]? =some en/\en.key=.ref q/\H q=some (.tup (k.map kV)):=by
 obtain⟨hd,z,hs,xs,pr,o',es,ep,ho,hx,lg,he,_⟩:=I.hok d _ h;rw[hd]at ho;cases ho;refine⟨hs,hd,hx,es,ep,lg,?_,fun i k v e=>?_⟩
 ·have l1:es.size=xs.length:=size_of_entries he;have l2:kvs.length=xs.length:=Paired.length pr;omega
 ·obtain⟨b,hb,e1,e2,_⟩:=BA pr e;have q:=entry_at he i;rw[hb]at q;exact⟨_,b.2.1,q,rfl,e2⟩
end
noncomputable def Itk(d:Addr)(o:Obj)(kvs:List (Key×V)):It:=
 ⟨fun i H=>H d=some (.frz o (.dK kvs))/\i<kvs.length,fun i H x H'=>H'=H/\∃k v,kvs[i]? =some (k,v)/\x=kV k,fun i H=>H d=some (.frz o (.dK kvs))/\kvs.length<=i⟩
noncomputable def AM(d:Addr)(o:Obj)(kvs:List (List Key×V)):It:=
 ⟨fun i H=>H d=some (.frz o (.dT kvs))/\i<kvs.length,fun i H x H'=>H'=H/\∃(k:List Key)(v:V)(q:Addr),kvs[i]? =some (k,v)/\x=.ref q/\H q=some (.tup (k.map kV)),fun i H=>H d=some (.frz o (.dT kvs))/\kvs.length<=i⟩
theorem jR{o:Obj}{es rf:Array DictEntry}{ep rg:Nat}(h:o.data=.dict es ep)(h':o.data=.dict rf rg):rf=es/\rg=ep:=by rw[h]at h';cases h';exact⟨rfl,rfl⟩
section
variable {P:Program}{w:World}{K:W.Frag}{tg:Expr}{d:Addr}{o:Obj}{es:Array DictEntry}{ep:Nat}
theorem EA{kvs:List (Key×V)}(it:Addr)(ot:o.data=.dict es ep):Turn P w K tg (Itk d o kvs) [it] it (fun i h=>h.IsKeyIter it d i kvs.length ep) where
 mem:=by simp
 obj:=fun i h st b hb=>by
  have e:b=it:=by simpa using hb
  subst e;obtain⟨oi,e,c,dd⟩:=st;exact⟨oi,e,fun v z=>by rw[dd]at z;cases z⟩
 keep:=fun i h h' st k=>st.at fun oi e=>k it (by simp) oi e
 item:=by
  intro X hP hw hK hc i jj s σ H E I hf st hg;subst hP hw hK;obtain⟨hd,hi⟩:=hg;obtain⟨f0,f1,f2,f3,f4,f5⟩:=hf it (by simp);obtain⟨hs,qf,hx,rf,rg,vs,lg,hsz,kv,hm⟩:=I.N9 hd;obtain⟨rfl,rfl⟩:=jR ot lg;obtain⟨⟨k,v⟩,uf⟩:∃p,kvs[i]? =some p:=⟨kvs[i],bx hi⟩
  obtain⟨u,hu,ru⟩:=MR kv uf;have hl:kvs.length=vs.length:=Paired.length kv;rw[hl]at st;refine wpAny_pyNext_dict_item st hm hu fun key h' me nv sb=>?_
  have I1:Inv X jj σ H {s with heap:=h'}:=I.turned (t':=s.toks) (fun b ob hb e=>(sb.2 b hb).trans e) f0 f1 f3 f4 f5;obtain⟨oi,e,c,dd⟩:=id nv;refine⟨key,rfl,vW (s:={s with heap:=h'}) e c dd (by decide) ⟨kV k,H,I1,GP (show qV k key=true from me),⟨rfl,k,v,uf,rfl⟩,?_,fun b hb=>(hf b hb).1⟩⟩;show h'.IsKeyIter it d (i+1) kvs.length _
  rw[hl];exact nv
 done:=by intro X hP hw hK hc i jj s σ H E I hf st hg;subst hP hw hK;obtain⟨hd,hi⟩:=hg;obtain⟨f0,f1,f2,f3,f4,f5⟩:=hf it (by simp);obtain⟨hs,qf,hx,rf,rg,vs,lg,hsz,kv,hm⟩:=I.N9 hd;obtain⟨rfl,rfl⟩:=jR ot lg;exact gE (I.ok.hd hc) st qf lg hsz hi fun h' eb=>⟨rfl,I.turned (t':=s.toks) (fun b ob hb e=>eb b ob hb e) f0 f1 f3 f4 f5⟩
 self:=fun A i s Q E st h=>wpAny_pyIter_keyiter st h
theorem AW{kvs:List (List Key×V)}(it:Addr)(ot:o.data=.dict es ep):Turn P w K tg (AM d o kvs) [it] it (fun i h=>h.IsKeyIter it d i kvs.length ep) where
 mem:=by simp
 obj:=fun i h st b hb=>by
  have e:b=it:=by simpa using hb
  subst e;obtain⟨oi,e,c,dd⟩:=st;exact⟨oi,e,fun v z=>by rw[dd]at z;cases z⟩
 keep:=fun i h h' st k=>st.at fun oi e=>k it (by simp) oi e
 item:=by
  intro X hP hw hK hc i jj s σ H E I hf st hg;subst hP hw hK;obtain⟨hd,hi⟩:=hg;obtain⟨f0,f1,f2,f3,f4,f5⟩:=hf it (by simp);obtain⟨hs,qf,hx,rf,rg,lg,hsz,uo⟩:=I.N7 hd;obtain⟨rfl,rfl⟩:=jR ot lg;obtain⟨⟨k,v⟩,uf⟩:∃p,kvs[i]? =some p:=⟨kvs[i],bx hi⟩
  obtain⟨en,q,ow,me,hq⟩:=uo i k v uf;refine iJ st qf lg hsz ow fun h' nv sb=>?_
  have I1:Inv X jj σ H {s with heap:=h'}:=I.turned (t':=s.toks) (fun b ob hb e=>(sb.2 b hb).trans e) f0 f1 f3 f4 f5;obtain⟨oi,e,c,dd⟩:=id nv;exact⟨en.key,rfl,vW (s:={s with heap:=h'}) e c dd (by decide) ⟨.ref q,H,I1,me,⟨rfl,k,v,q,uf,rfl,hq⟩,nv,fun b hb=>(hf b hb).1⟩⟩
 done:=by intro X hP hw hK hc i jj s σ H E I hf st hg;subst hP hw hK;obtain⟨hd,hi⟩:=hg;obtain⟨f0,f1,f2,f3,f4,f5⟩:=hf it (by simp);obtain⟨hs,qf,hx,rf,rg,lg,hsz,uo⟩:=I.N7 hd;obtain⟨rfl,rfl⟩:=jR ot lg;exact gE (I.ok.hd hc) st qf lg hsz hi fun h' eb=>⟨rfl,I.turned (t':=s.toks) (fun b ob hb e=>eb b ob hb e) f0 f1 f3 f4 f5⟩
 self:=fun A i s Q E st h=>by
  refine wpAny_pyIter_slot st.typeIs F.slot_dict_keyiterator_iter (wpAny_call_entry F.slot_dict_keyiterator_iter st.typeIs F.entry_dict_keyiterator_iter ?_ (F.args_dict_keyiterator_iter_1 _));show wpAny _ _ (ret (.ref it)) _ _ s
  exact ag ⟨_,rfl,"dict_keyiterator",_,st.typeIs,F.slot_dict_keyiterator_next.lookup,h⟩
end
noncomputable def SN(td:TE):TI:=fun σ H R=>td σ H fun x H1=>∃d o,x=.ref d/\((∃kvs,H1 d=some (.frz o (.dK kvs))/\R (Itk d o kvs) H1)\/∃kvs,H1 d=some (.frz o (.dT kvs))/\R (AM d o kvs) H1)
section
variable {X:Cx}{tg e:Expr}{td:TE}{kl jq:Pos}
theorem lU(he:PE X e td):PI X tg e (SN td):=by
 intro jj s σ H R I h;refine thn (he jj s σ H _ I h) fun u s1 ⟨x,H1,I1,rx,d,o,ex,q⟩=>?_
 subst ex;obtain rfl:u=Value.ref d:=rx;rcases q with⟨kvs,hd,q⟩|⟨kvs,hd,q⟩
 ·obtain⟨hs,qf,hx,es,ep,vs,lg,hsz,kv,hm⟩:=I1.N9 hd;refine m5 hs qf hx lg (wX (tk:=s1.toks) I1 _ (EA _ lg) ⟨_,az _ rfl,rfl,?_⟩ q);rw[hsz]<;>rfl
 ·obtain⟨hs,qf,hx,es,ep,lg,hsz,uo⟩:=I1.N7 hd;refine m5 hs qf hx lg (wX (tk:=s1.toks) I1 _ (AW _ lg) ⟨_,az _ rfl,rfl,?_⟩ q);rw[hsz]<;>rfl
end
noncomputable def Ite(K:W.Frag)(a:Addr):It:=
 ⟨fun i H=>∃(xs:List V)(x:V),SqL K H a xs/\xs[i]? =some x,fun i H v H'=>∃T x,v=.ref T/\H T=none/\H'=upd H T (.tup [.int (i:Nat),x])/\∀xs,SqL K H a xs->xs[i]? =some x,fun i H=>∃xs:List V,SqL K H a xs/\xs.length<=i⟩
theorem EB{P:Program}{w:World}{K:W.Frag}{qb:List Expr}{kk:Nat}{mq:Pos}(a e it:Addr):
  Turn P w K (.Tuple qb kk mq) (Ite K a) [e,it] e (fun i h=>(∃old,IsEnum h e it ((i:Nat):Int) old)/\h.IsListIter it a i/\e≠it) where
 mem:=by simp
 obj:=fun i h st b hb=>by
  obtain⟨⟨old,he⟩,⟨o,ho,hc,hd⟩,_⟩:=st;have e':b=e\/b=it:=by simpa using hb
  rcases e' with z|z
  ·rw[z];exact⟨_,he,fun v q=>nomatch q⟩
  ·rw[z];exact⟨o,ho,fun v q=>by rw[hd]at q;cases q⟩
 keep:=fun i h h' st k=>let⟨⟨old,he⟩,hi,jn⟩:=st;⟨⟨old,k e (by simp) _ he⟩,hi.at fun o q=>k it (by simp) o q,jn⟩
 item:=by
  intro X hP hw hK hc i jj s σ H E I hf st hg;subst hP hw hK;obtain⟨⟨old,he⟩,jz,jn⟩:=st;obtain⟨xs,x,hq,hx⟩:=hg;obtain⟨its,rv,p,hz⟩:=I.list hq;obtain⟨u,hu,ru⟩:=rv.get hx;have hel:e<s.heap.objs.size:=bq he;have ql:it<s.heap.objs.size:=by obtain⟨_,q,_⟩:=jz;exact bq q
  refine wpAny_pyNext_enum_item he jz p.isList (x:=u) (by simpa using hu) jn fun h' ho vt hT hsz hk=>?_
  refine⟨_,rfl,wpAny_letOwnedTupleGo_enum (s:={s with heap:=h',toks:=s.toks+1}) ho fun wo he' sb=>?_⟩;have xp:wo.get? s.heap.objs.size=some {cls:=.type "tuple",data:=.seq #[.int i s.toks,u]}:=(sb.2 _ (jd hel)).trans hT;have new:cO X.prog X.w (upd H s.heap.objs.size (.tup [.int (i:Nat),x])) wo s.heap.objs.size (.tup [.int (i:Nat),x]):=
   ⟨by show 2<=sizeLine;decide,[.int i s.toks,u],.cons ⟨_,rfl⟩ (.cons ru .nil),⟨_,xp,rfl,_,rfl⟩⟩
  have I1:Inv X jj σ (upd H s.heap.objs.size (.tup [.int (i:Nat),x])) {s with heap:=wo,toks:=s.toks+1}:=
   I.uW (ch:=[e,it]) (fun b ob hb q=>(sb.2 b (fun z=>hb (by simp[z]))).trans (hk b ob (fun z=>hb (by simp[z])) (fun z=>hb (by simp[z])) q)) hf (au _) new
  refine⟨.ref s.heap.objs.size,_,I1,rfl,⟨_,x,rfl,I.hok.fresh (au _),rfl,fun ys hy=>by rw[I.zD hy hq];exact hx⟩,⟨⟨u,?_⟩,vt.at fun o q=>(sb.2 it (Ne.symm jn)).trans q,jn⟩,fun b hb=>?_⟩
  ·have e1:((i+1:Nat):Int)=(i:Int)+1:=by omega
   rw[e1];exact he'
  ·have tw:b<s.heap.objs.size:=by
    have e':b=e\/b=it:=by simpa using hb
    rcases e' with z|z
    ·rw[z];exact hel
    ·rw[z];exact ql
   rw[aB (cv tw)];exact(hf b hb).1
 done:=by intro X hP hw hK hc i jj s σ H E I hf st hg;subst hP hw hK;obtain⟨⟨old,he⟩,jz,jn⟩:=st;obtain⟨xs,hq,hx⟩:=hg;obtain⟨its,rv,p,hz⟩:=I.list hq;obtain⟨f0,f1,f2,f3,f4,f5⟩:=hf it (by simp);have hl:=rv.length;exact wpAny_pyNext_enum_end (I.ok.hd hc) he jz p.isList (by simp;omega) fun h' eb=>⟨rfl,I.turned (t':=s.toks) (fun b o hb q=>eb b o hb q) f0 f1 f3 f4 f5⟩
 self:=fun A i s Q E st h=>let⟨⟨_,he⟩,_⟩:=st;wpAny_pyIter_enum he h
noncomputable def SO(K:W.Frag)(ta:TA):TI:=fun σ H R=>ta σ H fun vs H1=>∃a xs,vs=[.ref a]/\SqL K H1 a xs/\R (Ite K a) H1
theorem JR{X:Cx}{e:Expr}{ta:TA}{p pos mq:Pos}{qb:List Expr}{kk:Nat}(hg:Gl X "enumerate")(hm:X.mg "enumerate" =none)(ha:PA X [e] ta)(hs:starEach [e] X.env=[(false,eval e X.env)]:=by rfl):
  PI X (.Tuple qb kk mq) (.Call (.Name "enumerate" p) [e] [] pos) (SO X.K ta):=by
 intro jj s σ H R I h;refine Call_ (pS I hg hm boot_enumerate (PyProof.Rows.callWith_type1 (thn (ha pos jj s σ H _ I h) fun us s1 ⟨vs,H1,I1,r1,q1⟩=>?_) hs rfl));obtain⟨a,xs,ex,hq,q⟩:=q1;subst ex;cases r1 with
 |cons r rr=>
  cases rr;cases r;obtain⟨its,rv,p',hz⟩:=I1.list hq;refine call_enumerate_list p'.isList fun h' he jz hsz hk=>wpAny_pyIter_enum he ?_
  have I2:Inv X jj σ H1 {s1 with heap:=h'}:=I1.kept (t':=s1.toks) hk;refine⟨s1.heap.objs.size+1,[s1.heap.objs.size+1,s1.heap.objs.size],_,_,H1,rfl,I2,EB a (s1.heap.objs.size+1) s1.heap.objs.size,⟨⟨.none,he⟩,jz,Nat.succ_ne_self _⟩,fun b hb=>?_,q⟩;have e':b=s1.heap.objs.size+1\/b=s1.heap.objs.size:=by simpa using hb
  have ph:s1.heap.objs.size<=b:=by
   rcases e' with z|z
   ·rw[z];exact Nat.le_add_right _ _
   ·rw[z];exact au _
  exact I1.C9 ph (I1.hok.fresh ph)
theorem p9:∀{vs:List Value}{ns:List Int},IntsAre vs ns->Vals (ns.map V.int) vs
 |_,_,.nil=>.nil
 |_,_,.cons n t h=>.cons ⟨t,rfl⟩ (p9 h)
abbrev KOf{K:W.Frag}{h:Heap}(_:K.In h):W.Frag:=K
noncomputable def inClass(s:Stmt)(j:Nat):Stmt:=match s with
 | .ClassDef _ _ _ body _ _ _ _ _ _ _=>body.getD j (.Pass ⟨0,0,0,0⟩)
 |_=>.Pass ⟨0,0,0,0⟩
noncomputable def hZ(s:Stmt):Arguments:=match s with
 | .FunctionDef _ a _ _ _ _ _ _ _ _=>a
 |_=>{posonlyargs:=[],args:=[],vararg:=none,kwonlyargs:=[],kw_defaults:=[],kwarg:=none,defaults:=[]}
noncomputable def f7(s:Stmt):List Stmt:=match s with
 | .FunctionDef _ _ b _ _ _ _ _ _ _=>b
 |_=>[]
noncomputable def aH(s:Stmt):Scope:=match s with
 | .FunctionDef _ _ _ _ _ _ sc _ _ _=>sc
 |_=>{kind:=.function,names:=[],isGenerator:=false,isCoroutine:=false}
abbrev CX0:CXT:=fun _ _ _ _ _ _=>False
abbrev E0:XK:=fun _ _ _=>False
theorem aU{X:Cx}:Passes CX0 X E0:=fun _ _ _ _ _ _ _ h=>h.elim
structure Fun(K:W.Frag)(x qual:Str)(st:Stmt)(f:Addr)(fd:FuncData):Prop where
 ex:∃(oc:Value)(od:Option Addr)(kV kx pm:Value)(an:Option Addr)(jo ct:Value)(mf:Array (Option Value)),
  fd=W.fnOf x qual (hZ st) (f7 st) (aH st) .none kV kx pm an jo ct/\K.lookup f=some ⟨oc,od,.func fd,mf⟩/\W.codeIn K jo qual=true
 kp:W.keepIn K (.ref f)=true
section
variable {P:Program}{w:World}{K:W.Frag}{mg:Str->Option Value}{base:Heap}
theorem Fun.ok{x qual:Str}{st:Stmt}{f:Addr}{fd:FuncData}{N ps:List Str}{k:Nat}{sp:Sp}(F:Fun K x qual st f fd)(S:aL N ps (aH st))(len:∀vs H Q E,sp vs H Q E->vs.length=ps.length)
  (ko:∀(jo:Value)(A:Around)(outer:List Env)(s:Shared)(H:Hp)(vs:List V)(Q:VK)(E:XK),cT k (A.deeper (envOfC qual (aH st) s.heap.objs.size f jo))->sp vs H Q E ->
   ∃t,PSs (uM CX0 P w K mg base N qual (aH st) f jo A outer s H E).nox (f7 st) t/\t {nx:=fun _ H'=>Q .non H',rt:=Q} (start N vs) H):bI P w K mg base CX0 (k+1) f fd ps sp:=by
 obtain⟨oc,od,kV,kx,pm,an,jo,ct,mf,rfl,lk,nu⟩:=F.ex;refine SS lk nu S len fun A outer s H vs Q E hr sv=>?_
 obtain⟨t,h,q⟩:=ko jo A outer s H vs Q E hr sv;exact⟨t,h.nox,q⟩
theorem Fun.binds{x qual:Str}{st:Stmt}{f:Addr}{fd:FuncData}{ps:List Str}(F:Fun K x qual st f fd)
  (h:∀(kV kx pm:Value)(an:Option Addr)(jo ct:Value)(us:List Value),us.length=ps.length->bindArgs (W.fnOf x qual (hZ st) (f7 st) (aH st) .none kV kx pm an jo ct) ⟨us,[]⟩=pure (ps.zip us)):Binds K fd ps []:=by
 obtain⟨oc,od,kV,kx,pm,an,jo,ct,mf,rfl,lk,nu⟩:=F.ex;exact .all (h kV kx pm an jo ct)
theorem C7{x qual:Str}{st:Stmt}{f:Addr}{oc:Value}{od an:Option Addr}{mf:Array (Option Value)}{kV kx pm jo ct:Value}(l:K.lookup f=some ⟨oc,od,.func (W.fnOf x qual (hZ st) (f7 st) (aH st) .none kV kx pm an jo ct),mf⟩)
  (c:W.codeIn K jo qual=true) (k:W.keepIn K (.ref f)=true):Fun K x qual st f (W.fnOf x qual (hZ st) (f7 st) (aH st) .none kV kx pm an jo ct):=⟨⟨oc,od,kV,kx,pm,an,jo,ct,mf,rfl,l,c⟩,k⟩
end
theorem bE{A:Around}{k:Nat}(hr:cT k A):A.units+1<cLine:=ig (Nat.add_le_add_left (by decide:1<=64) _) hr.units
section
variable {X:Cx}
theorem pv(i:Nat){x:Str}{pos:Pos}(hN:X.N[i]? =some x:=by rfl)(hv:Vis X.env.scope x:=by first|exact Or.inl rfl|exact Or.inr (Or.inl rfl)|exact Or.inr (Or.inr rfl))(hd:(x==("__debug__" : Str))=false:=by decide)
  (nu:(x==("__classdict__" : Str))=false:=by decide):PE X (.Name x pos) (JI i):=HB hN hv hd nu
end
theorem zK{A B:Prop}(h:B):if false=true then A else B:=by rw[af bp];exact h
theorem F4{A B:Prop}(h:A):if true=true then A else B:=by rw[ah rfl];exact h
theorem bY{c A B:Prop}[Decidable c](h1:c->A)(h2:¬c->B):if c then A else B:=by
 by_cases h:c
 ·rw[ah h];exact h1 h
 ·rw[af h];exact h2 h
def a9(H H':Hp):Prop:=∀b o,H b=some o->H' b=some o
theorem a9.refl(H:Hp):a9 H H:=fun _ _ h=>h
theorem a9.trans{H H1 H2:Hp}(a:a9 H H1)(b:a9 H1 H2):a9 H H2:=fun c o h=>b c o (a c o h)
theorem a9.free{H H':Hp}(e:a9 H H'){l:Addr}(h:H' l=Option.none):H l=Option.none:=by
 cases q:H l with
 |none=>rfl
 |some o=>rw[e l o q]at h;cases h
theorem a9.seq{K:W.Frag}{H H':Hp}{a:Addr}{xs:List V}(e:a9 H H')(h:SqL K H a xs):SqL K H' a xs:=by
 rcases h with(h|⟨o,h⟩)|h
 ·exact .inl (.inl (e _ _ h))
 ·exact .inl (.inr ⟨o,e _ _ h⟩)
 ·exact .inr h
theorem at_of{xs:List V}{z:Int}{j:Nat}{v:V}(e:z=(j:Int))(h:xs[j]? =some v):atI xs z=some v:=by rw[e];exact LF h
theorem a9.made{H H1:Hp}{x dx C:Addr}(nx:H x=Option.none)(nd:H dx=Option.none)(k:∀b o,(upd (upd H dx (.own x)) x (.ins C dx [])) b=some o->b≠x->H1 b=some o):a9 H H1:=fun b o e=>
 k b o (by rw[aB (aJ e nx),aB (aJ e nd)];exact e) (aJ e nx)
end L2
namespace RM
open Roof
abbrev Pl:=Int×Int
noncomputable def parts(m:Int):List Int->List (List Int)
 |[]=>[[]]
 |v::r=>if v=m then[]::parts m r else
  match parts m r with
  |[]=>[[v]]
  |p::ps=>(v::p)::ps
def lB(v:Int):Option Int:=if v<48\/57<v then none else some (v - 48)
def hV(n v:Int):Option Int:=(lB v).map fun d=>n*10+d
noncomputable def d6(row:List Int):Option Int:=
 if row.length=0\/2<row.length then none
 else if 1<row.length/\row.head?=some 48 then none
 else(row.foldlM hV 0).bind fun n=>if 64<n then none else some n
noncomputable def d8(row:List Int):Option Pl:=((parts 44 row).mapM d6).bind fun ns=>match ns with
 |[a,b]=>some (a,b)
 |_=>none
noncomputable def iX(row:List Int):Option (List Pl):=((parts 32 row).mapM d8).bind fun cs=>if cs.length<4 then none else some cs
noncomputable def e9(t:List Int):Option (List (List Pl)):=
 if(parts 10 t).getLast?≠some []\/(parts 10 t).dropLast=[]then none else(parts 10 t).dropLast.mapM iX
theorem yS(m:Int):∀t,parts m t≠[]
 |[]=>by simp[parts]
 |v::r=>by
  unfold parts;split
  ·simp
  ·split<;>simp
theorem parts_free{m:Int}:∀{a:List Int},m∉a->parts m a=[a]
 |[],_=>rfl
 |v::r,h=>by
  have h1:¬v=m:=fun e=>h (by simp[e])
  have h2:m∉r:=fun e=>h (by simp[e])
  unfold parts;rw[af h1,parts_free h2]
theorem vJ{m:Int}:∀{a b:List Int},m∉a->parts m (a++m::b)=a::parts m b
 |[],b,_=>by
  show parts m (m::b)=_
  rw[parts,ah rfl]
 |v::r,b,h=>by
  have h1:¬v=m:=fun e=>h (by simp[e])
  have h2:m∉r:=fun e=>h (by simp[e])
  show parts m (v::(r++m::b))=_
  rw[parts,af h1,vJ h2]
noncomputable def glue(m:Int):List (List Int)->List Int
 |[]=>[]
 |[p]=>p
 |p::q::ps=>p++m::glue m (q::ps)
theorem F9{m v:Int}{p:List Int}{ps:List (List Int)}:glue m ((v::p)::ps)=v::glue m (p::ps):=by cases ps<;>simp[glue]
theorem jO(m:Int):∀t,glue m (parts m t)=t
 |[]=>rfl
 |v::r=>by
  have ih:=jO m r;have hn:=yS m r;unfold parts;split
  ·rename_i e;cases q:parts m r with
   |nil=>exact absurd q hn
   |cons p ps=>
    rw[q]at ih;show glue m ([]::p::ps)=_
    simp only[glue,nil_append];rw[ih,e]
  ·cases q:parts m r with
   |nil=>exact absurd q hn
   |cons p ps=>
    rw[q]at ih;show glue m ((v::p)::ps)=_
    rw[F9,ih]
theorem fG{m:Int}:∀{ps:List (List Int)},ps≠[]->(∀p∈ps,m∉p)->parts m (glue m ps)=ps
 |[],h,_=>absurd rfl h
 |[p],_,h=>by
  show parts m p=[p]
  exact parts_free (h p (by simp))
 |p::q::ps,_,h=>by
  show parts m (p++m::glue m (q::ps))=_
  rw[vJ (h p (by simp)),fG (by simp) fun x hx=>h x (by simp only[ak]at hx ⊢;exact .inr hx)]
noncomputable def pNum(n:Nat):List Int:=if n<10 then[48+(n:Int)]else[48+((n/10:Nat):Int),48+((n%10:Nat):Int)]
def cB(p:Point):List Int:=glue 44 [pNum p.1,pNum p.2]
def fV(w:Walk):List Int:=glue 32 (w.map cB)
def cX(ws:List Walk):List Int:=ws.flatMap fun w=>fV w++[10]
def iP(p:Point):Pl:=((p.1:Int),(p.2:Int))
def iW(w:Walk):List Pl:=w.map iP
def iWs(ws:List Walk):List (List Pl):=ws.map iW
def okP(p:Point):Prop:=p.1<=64/\p.2<=64
def okW(w:Walk):Prop:=4<=w.length/\∀p∈w,okP p
def BG(ws:List Walk):Prop:=ws≠[]/\∀w∈ws,okW w
theorem nP{n:Nat}(h:n<=64){x:Int}(hx:x∈pNum n):48<=x/\x<=57:=by
 unfold pNum at hx;split at hx
 ·simp at hx;omega
 ·simp at hx;omega
theorem kN{p:Point}(h:okP p){x:Int}(hx:x∈cB p):(48<=x/\x<=57)\/x=44:=by
 unfold cB glue glue at hx;simp only[aw,ak]at hx;rcases hx with hx|rfl|hx
 ·exact .inl (nP h.1 hx)
 ·exact .inr rfl
 ·exact .inl (nP h.2 hx)
theorem zZ{m:Int}:∀{ps:List (List Int)}{x:Int},x∈glue m ps->x=m\/∃p∈ps,x∈p
 |[],x,h=>by simp[glue]at h
 |[p],x,h=>.inr ⟨p,by simp,h⟩
 |p::q::ps,x,h=>by
  simp only[glue,aw,ak]at h;rcases h with h|rfl|h
  ·exact .inr ⟨p,by simp,h⟩
  ·exact .inl rfl
  ·rcases zZ h with h|⟨y,hy,hx⟩
   ·exact .inl h
   ·exact .inr ⟨y,by simp only[ak]at hy ⊢;exact .inr hy,hx⟩
theorem nN{w:Walk}(h:∀p∈w,okP p){x:Int}(hx:x∈fV w):(48<=x/\x<=57)\/x=44\/x=32:=by
 rcases zZ hx with h1|⟨q,hq,hx⟩
 ·exact .inr (.inr h1)
 ·obtain⟨p,hp,rfl⟩:=ax.mp hq;rcases kN (h p hp) hx with h1|h1
  ·exact .inl h1
  ·exact .inr (.inl h1)
theorem nS{n:Nat}(h:n<=64):d6 (pNum n)=some (n:Int):=by
 have key:∀k:Fin 65,d6 (pNum k.val)=some (k.val:Int):=by decide+kernel
 exact key ⟨n,by omega⟩
theorem nR{row:List Int}{z:Int}(h:d6 row=some z):∃n:Nat,n<=64/\z=n/\row=pNum n:=by
 unfold d6 at h;split at h
 ·cases h
 ·rename_i h1;split at h
  ·cases h
  ·rename_i h2;match row,h1,h2,h with
   |[],h1,_,_=>simp at h1
   |[a],h1,h2,h=>
    simp only[List.foldlM,hV,lB]at h;split at h
    ·simp at h
    ·rename_i ha;simp at h;obtain⟨h3,h4⟩:=h;refine⟨(a - 48).toNat,by omega,by omega,?_⟩;unfold pNum;rw[ah (by omega)];congr 1;omega
   |[a,b],h1,h2,h=>
    simp only[List.foldlM,hV,lB]at h;have h48:¬a=48:=by intro e;exact h2 ⟨by simp,by simp[e]⟩
    split at h
    ·simp at h
    ·rename_i ha;split at h
     ·simp at h
     ·rename_i hb;simp at h;obtain⟨h3,h4⟩:=h;refine⟨((a - 48)*10+(b - 48)).toNat,by omega,by omega,?_⟩;unfold pNum;rw[af (by omega)];congr 1
      ·omega
      ·congr 1;omega
   |_::_::_::_,h1,_,_=>simp at h1
inductive mD {α β:Type} (R:α->β->Prop):List α->List β->Prop where
 |nil:mD R [] []
 |cons {a:α}{b:β}{l:List α}{r:List β}:R a b->mD R l r->mD R (a::l) (b::r)
theorem mD.inv2{α β:Type}{R:α->β->Prop}{l:List α}{a b:β}(h:mD R l [a,b]):∃x y,l=[x,y]/\R x a/\R y b:=by
 cases h with
 |cons h1 h=>
  cases h with
  |cons h2 h=>cases h;exact⟨_,_,rfl,h1,h2⟩
theorem mapM_some{α β:Type}{f:α->Option β}:∀{l:List α}{r:List β},l.mapM f=some r->mD (fun a b=>f a=some b) l r
 |[],r,h=>by simp at h;subst h;exact .nil
 |a::l,r,h=>by
  rw[List.mapM_cons]at h;cases e1:f a with
  |none=>rw[e1]at h;simp at h
  |some b=>
   rw[e1]at h;cases e2:l.mapM f with
   |none=>rw[e2]at h;simp at h
   |some bs=>rw[e2]at h;simp at h;subst h;exact .cons e1 (mapM_some e2)
theorem lY{α β:Type}{f:α->Option β}:∀{l:List α}{r:List β},mD (fun a b=>f a=some b) l r->l.mapM f=some r
 |_,_,.nil=>rfl
 |_,_,.cons h t=>by rw[List.mapM_cons,h,lY t];rfl
theorem xX{row:List Int}{z:Pl}(h:d8 row=some z):∃p:Point,okP p/\z=iP p/\row=cB p:=by
 unfold d8 at h;cases e:(parts 44 row).mapM d6 with
 |none=>rw[e]at h;simp at h
 |some ns=>
  rw[e]at h;simp only[Option.bind_some]at h;have f:=mapM_some e;have g:=jO 44 row;match ns,f,h with
  |[],_,h=>simp at h
  |[_],_,h=>simp at h
  |_::_::_::_,_,h=>simp at h
  |[a,b],f,h=>simp at h;subst h;obtain⟨x,y,ex,f1,f2⟩:=f.inv2;obtain⟨n1,l1,r1,e1⟩:=nR f1;obtain⟨n2,l2,r2,e2⟩:=nR f2;refine⟨(n1,n2),⟨l1,l2⟩,by rw[r1,r2];rfl,?_⟩;rw[<- g,ex,e1,e2];rfl
theorem fX{p:Point}(h:okP p):d8 (cB p)=some (iP p):=by
 unfold d8 cB;rw[fG (by simp) fun q hq=>?_]
 ·rw[lY (r:=[(p.1:Int),(p.2:Int)]) (.cons (nS h.1) (.cons (nS h.2) .nil))];rfl
 ·simp at hq;rcases hq with rfl|rfl
  ·intro e;have:=nP h.1 e;omega
  ·intro e;have:=nP h.2 e;omega
theorem AR{row:List Int}{z:List Pl}(h:iX row=some z):∃w:Walk,okW w/\z=iW w/\row=fV w:=by
 unfold iX at h;cases e:(parts 32 row).mapM d8 with
 |none=>rw[e]at h;simp at h
 |some cs=>
  rw[e]at h;simp only[Option.bind_some]at h;split at h
  ·cases h
  ·rename_i hl;have h:cs=z:=by simpa using h
   subst h;have f:=mapM_some e;have g:=jO 32 row;have key:∀{l:List (List Int)}{r:List Pl},mD (fun a b=>d8 a=some b) l r->∃w:Walk,(∀p∈w,okP p)/\r=iW w/\l=w.map cB:=by
    intro l r f;induction f with
    |nil=>exact⟨[],by simp,rfl,rfl⟩
    |cons h1 _ ih=>
     obtain⟨w,a1,a2,a3⟩:=ih;obtain⟨p,b1,b2,b3⟩:=xX h1;refine⟨p::w,?_,?_,?_⟩
     ·intro q hq;rcases ak.mp hq with rfl|hq
      ·exact b1
      ·exact a1 q hq
     ·rw[a2,b2];rfl
     ·rw[a3,b3];rfl
   obtain⟨w,a1,a2,a3⟩:=key f;refine⟨w,⟨?_,a1⟩,a2,?_⟩
   ·rw[a2,iW,ai]at hl;omega
   ·rw[<- g,a3];rfl
theorem AS{w:Walk}(h:okW w):iX (fV w)=some (iW w):=by
 unfold iX fV;have jn:w.map cB≠[]:=by intro e;have h1:=h.1;rw[List.map_eq_nil_iff.mp e]at h1;simp at h1
 rw[fG jn fun q hq=>?_]
 ·have f:mD (fun a b=>d8 a=some b) (w.map cB) (iW w):=by
   have h2:=h.2;clear h jn;induction w with
   |nil=>exact .nil
   |cons p w ih=>exact .cons (fX (h2 p (by simp))) (ih fun q hq=>h2 q (by simp[hq]))
  rw[lY f];have:¬(iW w).length<4:=by have:=h.1;rw[iW,ai];omega
  simp[this]
 ·obtain⟨p,hp,rfl⟩:=ax.mp hq;intro e;rcases kN (h.2 p hp) e with h1|h1
  ·omega
  ·omega
theorem m6{m:Int}:∀{ps:List (List Int)},glue m (ps++[[]])=ps.flatMap fun p=>p++[m]
 |[]=>rfl
 |[p]=>by simp[glue]
 |p::q::ps=>by
  have ih:=m6 (m:=m) (ps:=q::ps);show p++m::glue m (q::ps++[[]])=_
  rw[ih];simp
theorem qI{t:List Int}{z:List (List Pl)}(h:e9 t=some z):∃ws:List Walk,BG ws/\z=iWs ws/\t=cX ws:=by
 unfold e9 at h;split at h
 ·cases h
 ·rename_i hc;have hc1:(parts 10 t).getLast?=some []:=by apply Classical.byContradiction;intro e;exact hc (.inl e)
  have xn:(parts 10 t).dropLast≠[]:=fun e=>hc (.inr e)
  have f:=mapM_some h;have key:∀{l:List (List Int)}{r:List (List Pl)},mD (fun a b=>iX a=some b) l r->∃w:List Walk,(∀p∈w,okW p)/\r=iWs w/\l=w.map fV:=by
   intro l r f;induction f with
   |nil=>exact⟨[],by simp,rfl,rfl⟩
   |cons h1 _ ih=>
    obtain⟨w,a1,a2,a3⟩:=ih;obtain⟨p,b1,b2,b3⟩:=AR h1;refine⟨p::w,?_,?_,?_⟩
    ·intro q hq;rcases ak.mp hq with rfl|hq
     ·exact b1
     ·exact a1 q hq
    ·rw[a2,b2];rfl
    ·rw[a3,b3];rfl
  obtain⟨ws,a1,a2,a3⟩:=key f;refine⟨ws,⟨?_,a1⟩,a2,?_⟩
  ·intro e;rw[e]at a3;exact xn a3
  ·have e:parts 10 t=(parts 10 t).dropLast++[[]]:=by obtain⟨ys,hys⟩:=List.getLast?_eq_some_iff.mp hc1;rw[hys];simp
   rw[<- jO 10 t,e,a3,m6,cX,flatMap_map]
theorem uD{ws:List Walk}(h:BG ws):e9 (cX ws)=some (iWs ws):=by
 have e:parts 10 (cX ws)=ws.map fV++[[]]:=by
  have:cX ws=glue 10 (ws.map fV++[[]]):=by rw[m6,cX,flatMap_map]
  rw[this];refine fG (by simp) fun q hq=>?_
  rcases aw.mp hq with hq|hq
  ·obtain⟨w,hw,rfl⟩:=ax.mp hq;intro e;rcases nN (h.2 w hw).2 e with h1|h1|h1
   ·omega
   ·omega
   ·omega
  ·simp at hq;subst hq;simp
 unfold e9;rw[e];have h1:¬((ws.map fV++[[]]).getLast?≠some []\/(ws.map fV++[[]]).dropLast=[]):=by simp;exact h.1
 rw[af h1];have e2:(ws.map fV++[[]]).dropLast=ws.map fV:=by simp
 rw[e2];refine lY ?_;have h2:=h.2;clear h e h1 e2;induction ws with
 |nil=>exact .nil
 |cons w ws ih=>exact .cons (AS (h2 w (by simp))) (ih fun q hq=>h2 q (by simp[hq]))
noncomputable def FZ(n:Nat):Bytes:=if n<10 then[UInt8.ofNat (48+n)]else[UInt8.ofNat (48+n/10),UInt8.ofNat (48+n%10)]
theorem j1{n:Nat}(h:n<=64):number n=FZ n:=by
 have key:∀k:Fin 65,number k.val=FZ k.val:=by decide+kernel
 exact key ⟨n,by omega⟩
theorem qR{v d:Nat}(h1:v≠0)(h2:10*v+d<=64)(h3:d<=9):number (10*v+d)=number v++[UInt8.ofNat (48+d)]:=by
 rw[j1 h2,j1 (by omega)];unfold FZ;rw[af (by omega),ah (by omega)];have e1:(10*v+d)/10=v:=by omega
 have e2:(10*v+d)%10=d:=by omega
 rw[e1,e2];rfl
theorem sX{d:Nat}(h:d<=9):number d=[UInt8.ofNat (48+d)]:=by rw[j1 (by omega),FZ,ah (by omega)]
theorem CI{c:UInt8}{d:Nat}(h:digit c=some d):d<=9/\c=UInt8.ofNat (48+d):=by
 unfold digit at h;split at h
 ·rename_i hc;have h:c.toNat - 48=d:=by simpa using h
  refine⟨by omega,?_⟩;have e:48+d=c.toNat:=by omega
  rw[e];simp
 ·cases h
theorem lA{d:Nat}(h:d<=9):digit (UInt8.ofNat (48+d))=some d:=by
 have key:∀k:Fin 10,digit (UInt8.ofNat (48+k.val))=some k.val:=by decide+kernel
 exact key ⟨d,by omega⟩
def gC(w:Walk):Bytes:=w.flatMap fun p=>cornerText p++[32]
noncomputable def dX(r:Reading):Bytes:=if r.part=0 then[]else if r.part=1 then number r.val else if r.part=2 then number r.east++[44]else number r.east++(44::number r.val)
noncomputable def e7(r:Reading):Bytes:=walksText r.done.reverse++(gC r.now.reverse++dX r)
structure OkR(r:Reading):Prop where
 done:∀w∈r.done,okW w
 now:∀p∈r.now,okP p
 val:r.val<=64
 east:r.east<=64
 part:r.part<=3
theorem qJ:∀{w:Walk}{p:Point},walkText (w++[p])=gC w++(cornerText p++[10])
 |[],p=>by simp[walkText,gC]
 |[q],p=>by simp[walkText,gC]
 |q::q2::w,p=>by
  have ih:=qJ (w:=q2::w) (p:=p);show cornerText q++(32::walkText (q2::w++[p]))=_
  rw[ih];simp[gC]
theorem HS{r s:Reading}{c:UInt8}(h:r.more c=some s)(o:OkR r):OkR s/\e7 s=e7 r++[c]:=by
 obtain⟨o1,o2,o3,o4,o5⟩:=o;unfold Reading.more at h;cases e:digit c with
 |some d=>
  rw[e]at h;obtain⟨hd,hc⟩:=CI e;dsimp only at h;by_cases hp:r.part=0\/r.part=2
  ·rw[ah hp]at h;have h:=Option.some.inj h;subst h;refine⟨⟨o1,o2,by dsimp only;omega,o4,by dsimp only;omega⟩,?_⟩;rcases hp with hp|hp
   ·simp[e7,dX,hp,sX hd,hc]
   ·simp[e7,dX,hp,sX hd,hc]
  ·rw[af hp]at h;by_cases hv:r.val=0\/SIDE<10*r.val+d
   ·rw[ah hv]at h;cases h
   ·rw[af hv]at h;have h:=Option.some.inj h;subst h;have hv1:r.val≠0:=fun q=>hv (.inl q)
    have hv2:10*r.val+d<=64:=by
     have:¬SIDE<10*r.val+d:=fun q=>hv (.inr q)
     unfold SIDE at this;omega
    refine⟨⟨o1,o2,by dsimp only;omega,o4,o5⟩,?_⟩;have hp2:r.part=1\/r.part=3:=by omega
    rcases hp2 with hp2|hp2
    ·simp[e7,dX,hp2,qR hv1 hv2 hd,hc]
    ·simp[e7,dX,hp2,qR hv1 hv2 hd,hc]
 |none=>
  rw[e]at h;dsimp only at h;by_cases h1:r.part=1/\c=44
  ·rw[ah h1]at h;have h:=Option.some.inj h;subst h;refine⟨⟨o1,o2,o3,o3,by dsimp only;omega⟩,?_⟩;simp[e7,dX,h1.1,h1.2]
  ·rw[af h1]at h;by_cases h2:r.part=3/\c=32
   ·rw[ah h2]at h;have h:=Option.some.inj h;subst h;refine⟨⟨o1,?_,o3,o4,by dsimp only;omega⟩,?_⟩
    ·intro p hp;rcases ak.mp hp with rfl|hp
     ·exact⟨o4,o3⟩
     ·exact o2 p hp
    ·simp[e7,dX,h2.1,h2.2,gC,cornerText]
   ·rw[af h2]at h;by_cases h3:r.part=3/\c=10/\3<=r.now.length
    ·rw[ah h3]at h;have h:=Option.some.inj h;subst h;refine⟨⟨?_,by simp,o3,o4,by dsimp only;omega⟩,?_⟩
     ·intro w hw;rcases ak.mp hw with rfl|hw
      ·refine⟨by simp;omega,?_⟩;intro p hp;rcases ak.mp (List.mem_reverse.mp hp)with rfl|hp
       ·exact⟨o4,o3⟩
       ·exact o2 p hp
      ·exact o1 w hw
     ·simp only[e7,dX,h3.1,h3.2.1,walksText,List.reverse_cons,ik,gb,List.flatMap_nil,da,qJ];simp[gC,cornerText]
    ·rw[af h3]at h;cases h
theorem qN:∀{b:Bytes}{p:Nat}{r:Reading}{ws:List Walk},OkR r->readFrom p r b=.ok ws->BG ws/\e7 r++b=walksText ws
 |[],p,r,ws,o,h=>by
  unfold readFrom at h;split at h
  ·rename_i hc;obtain⟨h1,h2,h3⟩:=hc;have h:r.done.reverse=ws:=by simpa using h
   subst h;refine⟨⟨by simpa using h3,fun w hw=>o.done w (by simpa using hw)⟩,?_⟩;simp[e7,dX,h1,h2,gC]
  ·cases h
 |c::t,p,r,ws,o,h=>by
  unfold readFrom at h;cases e:r.more c with
  |none=>rw[e]at h;cases h
  |some s=>rw[e]at h;obtain⟨os,es⟩:=HS e o;have h:readFrom (p+1) s t=.ok ws:=h;obtain⟨h1,h2⟩:=qN os h;refine⟨h1,?_⟩;rw[<- h2,es];simp
theorem nI{b:Bytes}{ws:List Walk}(h:readWalks b=.ok ws):BG ws/\b=walksText ws:=by have o:OkR ⟨[],[],0,0,0⟩:=⟨by simp,by simp,by simp,by simp,by simp⟩;obtain⟨h1,h2⟩:=qN o h;refine⟨h1,?_⟩;rw[<- h2];simp[e7,dX,gC,walksText]
theorem gK{r s:Reading}{c:UInt8}{t:Bytes}{p:Nat}(h:r.more c=some s):readFrom p r (c::t)=readFrom (p+1) s t:=by
 show(match r.more c with|some s=>readFrom (p+1) s t|none=>.error p)=_
 rw[h]
theorem qL{n:Nat}(hn:n<=64){r:Reading}(hp:r.part=0\/r.part=2)(p:Nat)(t:Bytes):∃p',readFrom p r (number n++t)=readFrom p' {r with part:=r.part+1,val:=n} t:=by
 rw[j1 hn];unfold FZ;by_cases h:n<10
 ·rw[ah h];refine⟨p+1,gK ?_⟩;unfold Reading.more;rw[lA (by omega)];dsimp only;rw[ah hp]
 ·rw[af h];refine⟨p+1+1,?_⟩;refine(gK (s:={r with part:=r.part+1,val:=n/10}) ?_).trans (gK ?_)
  ·unfold Reading.more;rw[lA (by omega)];dsimp only;rw[ah hp]
  ·unfold Reading.more;rw[lA (by omega)];dsimp only;rw[af (by omega),af]
   ·have:10*(n/10)+n%10=n:=by omega
    rw[this]
   ·unfold SIDE;omega
theorem qM{q:Point}(hq:okP q){r:Reading}(hp:r.part=0)(p:Nat)(t:Bytes):∃p',readFrom p r (cornerText q++t)=readFrom p' {r with part:=3,val:=q.2,east:=q.1} t:=by
 unfold cornerText;rw[dz];obtain⟨p1,e1⟩:=qL hq.1 (r:=r) (.inl hp) p (44::number q.2++t);rw[e1];have e2:readFrom p1 {r with part:=r.part+1,val:=q.1} (44::number q.2++t)=readFrom (p1+1) {r with part:=2,val:=q.1,east:=q.1} (number q.2++t):=by refine gK ?_;unfold Reading.more;rw[show digit 44=none from by decide];dsimp only;rw[hp];simp
 rw[e2];obtain⟨p3,e3⟩:=qL hq.2 (r:={r with part:=2,val:=q.1,east:=q.1}) (.inr rfl) (p1+1) t;exact⟨p3,e3⟩
theorem v9:∀{w:Walk}{r:Reading}(p:Nat)(t:Bytes),(∀q∈w,okP q)->w≠[]->r.part=0->4<=r.now.length+w.length ->
  ∃p' v e,readFrom p r (walkText w++t)=readFrom p' ⟨(r.now.reverse++w)::r.done,[],0,v,e⟩ t
 |[],r,p,t,_,h,_,_=>absurd rfl h
 |[q],r,p,t,hq,_,hp,hl=>by
  have e0:walkText [q]++t=cornerText q++(10::t):=by simp[walkText]
  rw[e0];obtain⟨p1,e1⟩:=qM (hq q (by simp)) hp p (10::t);rw[e1];refine⟨p1+1,q.2,q.1,?_⟩;rw[gK (s:=⟨(q::r.now).reverse::r.done,[],0,q.2,q.1⟩)]
  ·simp
  ·unfold Reading.more;rw[show digit 10=none from by decide];dsimp only;rw[af (by simp),af (by simp),ah ⟨rfl,rfl,by simp at hl;omega⟩]
 |q::q2::w,r,p,t,hq,_,hp,hl=>by
  have e0:walkText (q::q2::w)++t=cornerText q++(32::(walkText (q2::w)++t)):=by simp[walkText]
  rw[e0];obtain⟨p1,e1⟩:=qM (hq q (by simp)) hp p (32::(walkText (q2::w)++t));rw[e1];have e2:readFrom p1 {r with part:=3,val:=q.2,east:=q.1} (32::(walkText (q2::w)++t))=readFrom (p1+1) ⟨r.done,q::r.now,0,q.2,q.1⟩ (walkText (q2::w)++t):=by refine gK ?_;unfold Reading.more;rw[show digit 32=none from by decide];dsimp only;rw[af (by simp),ah ⟨rfl,rfl⟩]
  rw[e2];obtain⟨p3,v,e,e3⟩:=v9 (w:=q2::w) (r:=⟨r.done,q::r.now,0,q.2,q.1⟩) (p1+1) t (fun x hx=>hq x (ar _ hx)) (by simp) rfl (by simp at hl ⊢;omega);refine⟨p3,v,e,?_⟩;rw[e3];simp
theorem sO:∀{ws:List Walk}{r:Reading}(p:Nat),(∀w∈ws,okW w)->r.part=0->r.now=[]->r.done.reverse++ws≠[]->readFrom p r (walksText ws)=.ok (r.done.reverse++ws)
 |[],r,p,_,hp,hn,jn=>by
  show readFrom p r []=_
  unfold readFrom;rw[ah ⟨hp,hn,by simpa using jn⟩];simp
 |w::ws,r,p,hw,hp,hn,_=>by
  have e0:walksText (w::ws)=walkText w++walksText ws:=by simp[walksText]
  rw[e0];have h1:=hw w (by simp);obtain⟨p1,v,e,e1⟩:=v9 (w:=w) (r:=r) p (walksText ws) h1.2 (by intro q;have:=h1.1;rw[q]at this;simp at this) hp (by have:=h1.1;omega);rw[e1,sO p1 (fun x hx=>hw x (ar _ hx)) rfl rfl (by simp)];simp[hn]
theorem sP{ws:List Walk}(h:BG ws):readWalks (walksText ws)=.ok ws:=by unfold readWalks;rw[sO (r:=⟨[],[],0,0,0⟩) 0 h.2 rfl rfl (by simpa using h.1)];simp
def inB(t:List Int):Prop:=∀x∈t,0<=x/\x<=255
theorem fM(a b:List Int):RoofBNeutral.text (a++b)=RoofBNeutral.text a++RoofBNeutral.text b:=by simp[RoofBNeutral.text,RoofBNeutral.nats]
theorem dF(a:Int)(b:List Int):RoofBNeutral.text (a::b)=UInt8.ofNat a.toNat::RoofBNeutral.text b:=by simp[RoofBNeutral.text,RoofBNeutral.nats]
theorem rX:∀{a b:List Int},inB a->inB b->RoofBNeutral.text a=RoofBNeutral.text b->a=b
 |[],[],_,_,_=>rfl
 |[],y::b,_,_,h=>by rw[dF]at h;simp[RoofBNeutral.text,RoofBNeutral.nats]at h
 |x::a,[],_,_,h=>by rw[dF]at h;simp[RoofBNeutral.text,RoofBNeutral.nats]at h
 |x::a,y::b,ha,hb,h=>by
  rw[dF,dF]at h;injection h with h1 h2
  have hx:=ha x (by simp);have hy:=hb y (by simp);have e:x.toNat=y.toNat:=by have:=congrArg UInt8.toNat h1;rw[UInt8.toNat_ofNat_of_lt' (by show x.toNat<256;omega),UInt8.toNat_ofNat_of_lt' (by show y.toNat<256;omega)]at this;exact this
  have e2:x=y:=by omega
  rw[e2,rX (fun z hz=>ha z (by simp[hz])) (fun z hz=>hb z (by simp[hz])) h2]
theorem uX{n:Nat}(h:n<=64):RoofBNeutral.text (pNum n)=number n:=by
 rw[j1 h];unfold pNum FZ;split
 ·rw[dF];have:(48+(n:Int)).toNat=48+n:=by omega
  rw[this];rfl
 ·rw[dF,dF];have e1:(48+((n/10:Nat):Int)).toNat=48+n/10:=by omega
  have e2:(48+((n%10:Nat):Int)).toNat=48+n%10:=by omega
  rw[e1,e2];rfl
theorem nG{p:Point}(h:okP p):RoofBNeutral.text (cB p)=cornerText p:=by unfold cB glue glue cornerText;rw[fM,dF,uX h.1,uX h.2];rfl
theorem pB:∀{w:Walk},(∀p∈w,okP p)->RoofBNeutral.text (fV w++[10])=walkText w
 |[],_=>rfl
 |[p],h=>by
  show RoofBNeutral.text (cB p++[10])=_
  rw[fM,nG (h p (by simp))];rfl
 |p::q::w,h=>by
  have ih:=pB (w:=q::w) fun x hx=>h x (ar _ hx)
  show RoofBNeutral.text ((cB p++32::fV (q::w))++[10])=cornerText p++(32::walkText (q::w))
  rw[dz,fM,nG (h p (by simp)),cons_append,dF,ih];rfl
theorem kG:∀{ws:List Walk},(∀w∈ws,okW w)->RoofBNeutral.text (cX ws)=walksText ws
 |[],_=>rfl
 |w::ws,h=>by
  have e:cX (w::ws)=(fV w++[10])++cX ws:=by simp[cX]
  rw[e,fM,pB (h w (by simp)).2,kG fun x hx=>h x (ar _ hx)];simp[walksText]
theorem BC{ws:List Walk}(h:∀w∈ws,okW w):inB (cX ws):=by
 intro x hx;obtain⟨w,hw,hx⟩:=cj.mp hx;rcases aw.mp hx with hx|hx
 ·rcases nN (h w hw).2 hx with h1|h1|h1<;>omega
 ·simp at hx;omega
theorem reads{t:List Int}(ht:inB t){ws:List Walk}(h:readWalks (RoofBNeutral.text t)=.ok ws):e9 t=some (iWs ws)/\BG ws:=by obtain⟨o,e⟩:=nI h;rw[<- kG o.2]at e;have:=rX ht (BC o.2) e;rw[this];exact⟨uD o,o⟩
theorem EJ{t:List Int}{p:Nat}(h:readWalks (RoofBNeutral.text t)=.error p):e9 t=none:=by
 cases e:e9 t with
 |none=>rfl
 |some z=>obtain⟨ws,o,_,e2⟩:=qI e;rw[e2,kG o.2,sP o]at h;cases h
noncomputable def inI(l:Cells)(x y:Int):Bool:=decide (0<=x)&& (decide (0<=y)&& l.contains (x.toNat,y.toNat))
theorem cC(l:Cells)(x y:Nat):inI l x y=l.contains (x,y):=by simp[inI]
theorem zR(l:Cells){x y:Int}(h:x<0):inI l x y=false:=by
 have:decide (0<=x)=false:=by simp;omega
 simp[inI,this]
theorem zQ(l:Cells){x y:Int}(h:y<0):inI l x y=false:=by
 have:decide (0<=y)=false:=by simp;omega
 simp[inI,this]
theorem bR{l:Cells}{x y:Int}(h:inI l x y=true):0<=x/\0<=y/\(x.toNat,y.toNat)∈l:=by simp[inI]at h;exact h
def ne(l:Cells)(X Y:Int):Bool:=inI l X Y
def nw(l:Cells)(X Y:Int):Bool:=inI l (X - 1) Y
def sw(l:Cells)(X Y:Int):Bool:=inI l (X - 1) (Y - 1)
def se(l:Cells)(X Y:Int):Bool:=inI l X (Y - 1)
theorem IC{l:Cells}{a b:Nat}:isIn l (if 0<a then some (a - 1,b)else none)=inI l ((a:Int) - 1) b:=by
 by_cases h:0<a
 ·have e:(a:Int) - 1=((a - 1:Nat):Int):=by omega
  rw[ah h,e,cC];rfl
 ·rw[af h,zR l (by omega)];rfl
theorem ID{l:Cells}{a b:Nat}:isIn l (if 0<b then some (a,b - 1)else none)=inI l a ((b:Int) - 1):=by
 by_cases h:0<b
 ·have e:(b:Int) - 1=((b - 1:Nat):Int):=by omega
  rw[ah h,e,cC];rfl
 ·rw[af h,zQ l (by omega)];rfl
theorem DK{l:Cells}{a b:Nat}:isIn l (if 0<a/\0<b then some (a - 1,b - 1)else none)=inI l ((a:Int) - 1) ((b:Int) - 1):=by
 by_cases h:0<a/\0<b
 ·have e1:(a:Int) - 1=((a - 1:Nat):Int):=by omega
  have e2:(b:Int) - 1=((b - 1:Nat):Int):=by omega
  rw[ah h,e1,e2,cC];rfl
 ·rw[af h];by_cases ha:0<a
  ·rw[zQ l (by omega)];rfl
  ·rw[zR l (by omega)];rfl
noncomputable def aW(l:Cells)(X Y:Int)(d:Nat):Bool:=
 if d=0 then ne l X Y&& !se l X Y else if d=1 then nw l X Y&& !ne l X Y else if d=2 then sw l X Y&& !nw l X Y else se l X Y&& !sw l X Y
theorem eO(l:Cells)(p:Point)(d:Nat):wallFoot l p d=aW l p.1 p.2 d:=by
 unfold wallFoot leftOf rightOf aW;by_cases h0:d=0
 ·subst h0;simp only[ah];rw[ID];show(isIn l (some p)&& _)=_
  have:isIn l (some p)=ne l p.1 p.2:=by rw[ne,cC];rfl
  rw[this];rfl
 ·by_cases h1:d=1
  ·subst h1;simp only[ah,af h0];rw[IC];have:isIn l (some p)=ne l p.1 p.2:=by rw[ne,cC];rfl
   rw[this];rfl
  ·by_cases h2:d=2
   ·subst h2;simp only[ah,af h0,af h1];rw[IC,DK];rfl
   ·simp only[af h0,af h1,af h2];rw[ID,DK];rfl
theorem gJ{l:Cells}(h:pinched l=false)(X Y:Int):¬(sw l X Y=true/\ne l X Y=true/\se l X Y=false/\nw l X Y=false)/\¬(nw l X Y=true/\se l X Y=true/\ne l X Y=false/\sw l X Y=false):=by
 have key:∀c∈l,¬((l.contains (c.1+1,c.2+1)&& !(l.contains (c.1+1,c.2)||l.contains (c.1,c.2+1)))||(decide (0<c.1)&& (l.contains (c.1 - 1,c.2+1)&& !(l.contains (c.1 - 1,c.2)||l.contains (c.1,c.2+1)))))=true:=by intro c hc q;have:pinched l=true:=fb.mpr ⟨c,hc,q⟩;rw[h]at this;cases this
 refine⟨fun⟨h1,h2,h3,h4⟩=>?_,fun⟨h1,h2,h3,h4⟩=>?_⟩
 ·obtain⟨x0,y0,m⟩:=bR h1;have e1:X=((X - 1).toNat+1:Nat):=by omega
  have e2:Y=((Y - 1).toNat+1:Nat):=by omega
  refine key _ m ?_;have a1:l.contains ((X - 1).toNat+1,(Y - 1).toNat+1)=true:=by rw[<- cC,<- e1,<- e2];exact h2
  have a2:l.contains ((X - 1).toNat+1,(Y - 1).toNat)=false:=by rw[<- cC,<- e1,show(((Y - 1).toNat:Nat):Int)=Y - 1 by omega];exact h3
  have a3:l.contains ((X - 1).toNat,(Y - 1).toNat+1)=false:=by rw[<- cC,<- e2,show(((X - 1).toNat:Nat):Int)=X - 1 by omega];exact h4
  simp only[a1,a2,a3];rfl
 ·obtain⟨x0,y0,m⟩:=bR h2;obtain⟨x1,y1,_⟩:=bR h1;have e1:X=(X.toNat:Int):=by omega
  have e2:Y=((Y - 1).toNat+1:Nat):=by omega
  refine key _ m ?_;have a1:l.contains (X.toNat - 1,(Y - 1).toNat+1)=true:=by rw[<- cC,<- e2,show((X.toNat - 1:Nat):Int)=X - 1 by omega];exact h1
  have a2:l.contains (X.toNat - 1,(Y - 1).toNat)=false:=by rw[<- cC,show((X.toNat - 1:Nat):Int)=X - 1 by omega,show(((Y - 1).toNat:Nat):Int)=Y - 1 by omega];exact h4
  have a3:l.contains (X.toNat,(Y - 1).toNat+1)=false:=by rw[<- cC,<- e2,<- e1];exact h3
  have a4:decide (0<X.toNat)=true:=by simp;omega
  simp only[a1,a2,a3,a4];simp
noncomputable def stI(X Y:Int)(d:Nat):Int×Int:=if d=0 then(X+1,Y)else if d=1 then(X,Y+1)else if d=2 then(X - 1,Y)else(X,Y - 1)
theorem E7{l:Cells}(h:pinched l=false){X Y:Int}{d e:Nat}(hd:d<4)(he:e<4)(h1:aW l X Y d=true)(h2:aW l X Y e=true):d=e:=by
 obtain⟨u1,u2⟩:=gJ h X Y;have cd:d=0\/d=1\/d=2\/d=3:=by omega
 have ce:e=0\/e=1\/e=2\/e=3:=by omega
 generalize a1:ne l X Y=A at*;generalize a2:nw l X Y=B at*;generalize a3:sw l X Y=C at*;generalize a4:se l X Y=D at*;rcases cd with rfl|rfl|rfl|rfl<;>rcases ce with rfl|rfl|rfl|rfl<;>simp[aW,a1,a2,a3,a4]at h1 h2 u1 u2 ⊢ <;>simp_all
theorem G4{l:Cells}{X Y:Int}{d:Nat}(hd:d<4)(h1:aW l X Y d=true):∃e,e<4/\aW l (stI X Y d).1 (stI X Y d).2 e=true:=by
 have cd:d=0\/d=1\/d=2\/d=3:=by omega
 rcases cd with rfl|rfl|rfl|rfl
 ·simp[aW]at h1;have b1:nw l (X+1) Y=true:=by rw[nw,show X+1 - 1=X by omega];exact h1.1
  have b2:sw l (X+1) Y=false:=by rw[sw,show X+1 - 1=X by omega];exact h1.2
  show∃e,e<4/\aW l (X+1) Y e=true
  cases c1:se l (X+1) Y with
  |true=>exact⟨3,by omega,by simp[aW,c1,b2]⟩
  |false=>
   cases c2:ne l (X+1) Y with
   |true=>exact⟨0,by omega,by simp[aW,c1,c2]⟩
   |false=>exact⟨1,by omega,by simp[aW,c2,b1]⟩
 ·simp[aW]at h1;have b1:sw l X (Y+1)=true:=by rw[sw,show Y+1 - 1=Y by omega];exact h1.1
  have b2:se l X (Y+1)=false:=by rw[se,show Y+1 - 1=Y by omega];exact h1.2
  show∃e,e<4/\aW l X (Y+1) e=true
  cases c1:ne l X (Y+1)with
  |true=>exact⟨0,by omega,by simp[aW,c1,b2]⟩
  |false=>
   cases c2:nw l X (Y+1)with
   |true=>exact⟨1,by omega,by simp[aW,c1,c2]⟩
   |false=>exact⟨2,by omega,by simp[aW,c2,b1]⟩
 ·simp[aW]at h1;have b1:se l (X - 1) Y=true:=h1.1;have b2:ne l (X - 1) Y=false:=h1.2;show∃e,e<4/\aW l (X - 1) Y e=true
  cases c1:nw l (X - 1) Y with
  |true=>exact⟨1,by omega,by simp[aW,c1,b2]⟩
  |false=>
   cases c2:sw l (X - 1) Y with
   |true=>exact⟨2,by omega,by simp[aW,c1,c2]⟩
   |false=>exact⟨3,by omega,by simp[aW,c2,b1]⟩
 ·simp[aW]at h1;have b1:ne l X (Y - 1)=true:=h1.1;have b2:nw l X (Y - 1)=false:=h1.2;show∃e,e<4/\aW l X (Y - 1) e=true
  cases c1:sw l X (Y - 1)with
  |true=>exact⟨2,by omega,by simp[aW,c1,b2]⟩
  |false=>
   cases c2:se l X (Y - 1)with
   |true=>exact⟨3,by omega,by simp[aW,c1,c2]⟩
   |false=>exact⟨0,by omega,by simp[aW,c2,b1]⟩
noncomputable def uU(l:Cells)(X Y:Int)(d:Nat):Bool:=
 if d=0 then nw l X Y&& !sw l X Y else if d=1 then sw l X Y&& !se l X Y else if d=2 then se l X Y&& !ne l X Y else ne l X Y&& !nw l X Y
theorem y9{l:Cells}{X Y:Int}{d:Nat}(hd:d<4):uU l (stI X Y d).1 (stI X Y d).2 d=aW l X Y d:=by
 have cd:d=0\/d=1\/d=2\/d=3:=by omega
 rcases cd with rfl|rfl|rfl|rfl
 ·simp only[uU,aW,stI,ah,nw,sw,ne,se,show X+1 - 1=X by omega]
 ·simp[uU,aW,stI,nw,sw,ne,se,show Y+1 - 1=Y by omega]
 ·simp[uU,aW,stI,nw,sw,ne,se]
 ·simp[uU,aW,stI,nw,sw,ne,se]
theorem G6{l:Cells}(h:pinched l=false){X Y X' Y':Int}{d e:Nat}(hd:d<4)(he:e<4)(h1:aW l X Y d=true)(h2:aW l X' Y' e=true)(hq:stI X Y d=stI X' Y' e):d=e/\X=X'/\Y=Y':=by
 rw[<- y9 hd]at h1;rw[<- y9 he,<- hq]at h2;have hde:d=e:=by
  generalize (stI X Y d).1=U at*;generalize (stI X Y d).2=V at*;obtain⟨u1,u2⟩:=gJ h U V;have cd:d=0\/d=1\/d=2\/d=3:=by omega
  have ce:e=0\/e=1\/e=2\/e=3:=by omega
  generalize a1:ne l U V=A at*;generalize a2:nw l U V=B at*;generalize a3:sw l U V=C at*;generalize a4:se l U V=D at*;rcases cd with rfl|rfl|rfl|rfl<;>rcases ce with rfl|rfl|rfl|rfl<;>simp[uU,a1,a2,a3,a4]at h1 h2 u1 u2 ⊢ <;>simp_all
 subst hde;refine⟨rfl,?_⟩;have cd:d=0\/d=1\/d=2\/d=3:=by omega
 rcases cd with rfl|rfl|rfl|rfl<;>simp[stI]at hq<;>omega
theorem n9{l:Cells}{X Y:Int}{d:Nat}(hd:d<4)(h:aW l X Y d=true):(d=2->1<=X)/\(d=3->1<=Y):=by
 refine⟨fun e=>?_,fun e=>?_⟩
 ·subst e;simp[aW,sw]at h;have:=bR h.1;omega
 ·subst e;simp[aW,se]at h;have:=bR h.1;omega
theorem pD{l:Cells}{p:Point}{d:Nat}(hd:d<4)(h:wallFoot l p d=true):(((stepped p d).1:Int),((stepped p d).2:Int))=stI p.1 p.2 d:=by
 rw[eO]at h;obtain⟨g1,g2⟩:=n9 hd h;have cd:d=0\/d=1\/d=2\/d=3:=by omega
 rcases cd with rfl|rfl|rfl|rfl
 ·simp[stepped,stI]
 ·simp[stepped,stI]
 ·have:=g1 rfl;simp[stepped,stI];omega
 ·have:=g2 rfl;simp[stepped,stI];omega
theorem bC{l:Cells}{p:Point}{d:Nat}(h:outOf l p=some d):d<4/\wallFoot l p d=true:=by unfold outOf at h;have h1:=List.find?_some h;have h2:=List.mem_of_find?_eq_some h;simp at h2;exact⟨by omega,h1⟩
theorem yW{l:Cells}(hp:pinched l=false){p:Point}{d:Nat}(hd:d<4)(h:wallFoot l p d=true):outOf l p=some d:=by
 cases e:outOf l p with
 |none=>unfold outOf at e;rw[List.find?_eq_none]at e;exact absurd h (e d (by simp;omega))
 |some x=>obtain⟨hx,h2⟩:=bC e;rw[eO]at h h2;rw[E7 hp hd hx h h2]
theorem HJ{l:Cells}(hp:pinched l=false){p:Point}{d:Nat}(h:outOf l p=some d):∃e,outOf l (stepped p d)=some e:=by obtain⟨hd,h1⟩:=bC h;have e1:=pD hd h1;rw[eO]at h1;obtain⟨e,he,h2⟩:=G4 hd h1;rw[<- e1]at h2;exact⟨e,yW hp he (by rw[eO];exact h2)⟩
theorem yX{l:Cells}(hp:pinched l=false){p q:Point}{d e:Nat}(h1:outOf l p=some d)(h2:outOf l q=some e)(hq:stepped p d=stepped q e):p=q:=by obtain⟨hd,w1⟩:=bC h1;obtain⟨he,w2⟩:=bC h2;have e1:=pD hd w1;have e2:=pD he w2;rw[eO]at w1 w2;obtain⟨_,a,b⟩:=G6 hp hd he w1 w2 (by rw[<- e1,<- e2,hq]);exact Prod.ext (by omega) (by omega)
theorem bX{α:Type}[DecidableEq α]:∀{a b:List α},a.Nodup->(∀x∈a,x∈b)->a.length<=b.length
 |[],_,_,_=>by simp
 |x::a,b,h,hs=>by
  have hx:x∈b:=hs x (by simp);obtain⟨h1,h2⟩:=dc.mp h;have:=bX (a:=a) (b:=b.erase x) h2 fun y hy=>by
   have:y≠x:=fun e=>h1 (e▸hy)
   exact(List.mem_erase_of_ne this).mpr (hs y (by simp[hy]))
  rw[List.length_erase_of_mem hx]at this;have:0<b.length:=List.length_pos_of_mem hx;simp;omega
theorem dJ{α β:Type}{f:α->β}:∀{l:List α},l.Nodup->(∀x∈l,∀y∈l,f x=f y->x=y)->(l.map f).Nodup
 |[],_,_=>by simp
 |x::l,h,hf=>by obtain⟨h1,h2⟩:=dc.mp h;rw[bh];refine dc.mpr ⟨fun hm=>?_,dJ h2 fun a ha b hb=>hf a (by simp[ha]) b (by simp[hb])⟩;obtain⟨y,hy,e⟩:=ax.mp hm;exact h1 (hf y (by simp[hy]) x (by simp) e▸hy)
inductive Way (l:Cells):Point->List Foot->Point->Prop where
 |nil (p:Point):Way l p [] p
 |cons {p q:Point}{d:Nat}{r:List Foot}:outOf l p=some d->Way l (stepped p d) r q->Way l p ((p,d)::r) q
theorem Way.append{l:Cells}{p q:Point}{a:List Foot}(h:Way l p a q):∀{b:List Foot}{r:Point},Way l q b r->Way l p (a++b) r:=by
 induction h with
 |nil p=>exact fun h=>h
 |cons h1 _ ih=>exact fun h=>.cons h1 (ih h)
theorem Way.out{l:Cells}{p q:Point}{a:List Foot}(h:Way l p a q):∀x∈a,outOf l x.1=some x.2:=by
 induction h with
 |nil p=>simp
 |cons h1 _ ih=>
  intro x hx;rcases ak.mp hx with rfl|hx
  ·exact h1
  ·exact ih x hx
theorem Way.prev{l:Cells}{p q:Point}{a:List Foot}(h:Way l p a q):∀y,(y∈a.map (·.1)\/y=q)->y=p\/∃x∈a,stepped x.1 x.2=y:=by
 induction h with
 |nil p=>intro y hy;simp at hy;exact .inl hy
 | @cons p q d r h1 hw ih=>
  intro y hy;by_cases hp:y=p
  ·exact .inl hp
  ·have qt:y∈r.map (·.1)\/y=q:=by
    rcases hy with hy|hy
    ·rw[bh]at hy;rcases ak.mp hy with e|hy
     ·exact absurd e hp
     ·exact .inl hy
    ·exact .inr hy
   rcases ih y qt with e|⟨x,hx,e⟩
   ·exact .inr ⟨(p,d),by simp,e.symm⟩
   ·exact .inr ⟨x,by simp[hx],e⟩
def kY(x:Foot):Cell×Nat:=((leftOf x.1 x.2).getD (0,0),x.2)
theorem xP{l:Cells}{x:Foot}(h:outOf l x.1=some x.2):kY x∈l.flatMap fun c=>[(c,0),(c,1),(c,2),(c,3)]:=by
 obtain⟨hd,w⟩:=bC h;unfold wallFoot at w;simp at w;have w:=w.1;cases e:leftOf x.1 x.2 with
 |none=>rw[e]at w;simp[isIn]at w
 |some c=>rw[e]at w;simp[isIn]at w;refine cj.mpr ⟨c,w,?_⟩;unfold kY;rw[e];simp;omega
theorem xQ{l:Cells}{x y:Foot}(h1:outOf l x.1=some x.2)(h2:outOf l y.1=some y.2)(e:kY x=kY y):x=y:=by
 obtain⟨hd1,w1⟩:=bC h1;obtain⟨Ac,w2⟩:=bC h2;obtain⟨⟨a,b⟩,d⟩:=x;obtain⟨⟨a',b'⟩,d'⟩:=y;have ed:d=d':=congrArg (fun z=>z.2) e;subst ed;rw[eO]at w1 w2;obtain⟨g1,g2⟩:=n9 hd1 w1;obtain⟨g3,g4⟩:=n9 Ac w2;have ec:(leftOf (a,b) d).getD (0,0)=(leftOf (a',b') d).getD (0,0):=congrArg (fun z=>z.1) e;have cd:d=0\/d=1\/d=2\/d=3:=by have:d<4:=hd1;omega
 rcases cd with rfl|rfl|rfl|rfl
 ·simp[leftOf]at ec;simp[ec]
 ·simp[aW,nw]at w1 w2;have i1:=bR w1.1;have i2:=bR w2.1;have p1:0<a:=by omega
  have p2:0<a':=by omega
  simp[leftOf,p1,p2]at ec;simp;omega
 ·simp[aW,sw]at w1 w2;have i1:=bR w1.1;have i2:=bR w2.1;have p1:0<a:=by omega
  have p2:0<a':=by omega
  have p3:0<b:=by omega
  have p4:0<b':=by omega
  simp[leftOf,p1,p2,p3,p4]at ec;simp;omega
 ·simp[aW,se]at w1 w2;have i1:=bR w1.1;have i2:=bR w2.1;have p3:0<b:=by omega
  have p4:0<b':=by omega
  simp[leftOf,p3,p4]at ec;simp;omega
theorem nU{f:List Foot}(h:(f.map (·.1)).Nodup):f.Nodup:=by
 induction f with
 |nil=>simp
 |cons x f ih=>rw[bh]at h;obtain⟨h1,h2⟩:=dc.mp h;exact dc.mpr ⟨fun hm=>h1 (ax.mpr ⟨x,hm,rfl⟩),ih h2⟩
theorem KU{l:Cells}{f:List Foot}(h:(f.map (·.1)).Nodup)(ho:∀x∈f,outOf l x.1=some x.2):f.length<=4*l.length:=by
 have h1:(f.map kY).Nodup:=dJ (nU h) fun x hx y hy e=>xQ (ho x hx) (ho y hy) e
 have h2:=bX h1 (b:=l.flatMap fun c=>[(c,0),(c,1),(c,2),(c,3)]) fun z hz=>by obtain⟨x,hx,rfl⟩:=ax.mp hz;exact xP (ho x hx)
 have h3:∀l:Cells,(l.flatMap fun c=>[(c,0),(c,1),(c,2),(c,3)]).length=4*l.length:=by
  intro l;induction l with
  |nil=>rfl
  |cons c l ih=>simp at ih ⊢;omega
 rw[h3]at h2;simpa using h2
structure Round(l:Cells)(p:Point)(f:List Foot):Prop where
 way:Way l p f p
 ne:f≠[]
 nd:(f.map (·.1)).Nodup
theorem oN{l:Cells}(hp:pinched l=false){p:Point}:∀(n:Nat)(done:List Foot)(q:Point)(d:Nat),outOf l q=some d->Way l p done q->((done++[(q,d)]).map (·.1)).Nodup->4*l.length<done.length+n+1 ->
  (done=[]->q=p)->Round l p (done++follow l p n q d)
 |0,done,q,d,hq,hw,hn,hl,h0=>by
  exfalso;have:=KU (l:=l) hn fun x hx=>by
   rcases aw.mp hx with hx|hx
   ·exact hw.out x hx
   ·simp at hx;subst hx;exact hq
  simp at this;omega
 |n+1,done,q,d,hq,hw,hn,hl,h0=>by
  have Bl:Way l p (done++[(q,d)]) (stepped q d):=hw.append (.cons hq (.nil _));have eF:follow l p (n+1) q d=(q,d)::(if stepped q d=p then[]else match outOf l (stepped q d)with|some e=>follow l p n (stepped q d) e|none=>[]):=rfl;rw[eF];by_cases hs:stepped q d=p
  ·rw[ah hs];rw[hs]at Bl;exact⟨Bl,by simp,hn⟩
  ·rw[af hs];obtain⟨e,he⟩:=HJ hp hq;rw[he];have tj:stepped q d∉ (done++[(q,d)]).map (·.1):=by
    intro hm;rcases Bl.prev _ (.inl hm)with e1|⟨x,hx,e1⟩
    ·exact hs e1
    ·
     obtain⟨i,hi,ei⟩:=List.getElem_of_mem hm;have key:∀{a:List Foot}{u v:Point},Way l u a v->∀y∈a.map (·.1),y≠u->∃x∈a.dropLast,stepped x.1 x.2=y:=by
      intro a u v hw;induction hw with
      |nil u=>intro y hy;simp at hy
      | @cons u v d' r h1 hw ih=>
       intro y hy jn;rw[bh]at hy;rcases ak.mp hy with e|hy
       ·exact absurd e jn
       ·cases r with
        |nil=>simp at hy
        |cons z r=>
         by_cases hz:y=stepped u d'
         ·exact⟨(u,d'),by simp,hz.symm⟩
         ·obtain⟨x,hx,e⟩:=ih y hy hz;exact⟨x,by simp[hx],e⟩
     obtain⟨x,hx,e1⟩:=key Bl _ hm hs;have hxd:x∈done:=by simpa using hx
     have hxo:=hw.out x hxd;have:=yX hp hxo hq e1;rw[cf,cn]at hn;exact hn.2.2 x.1 (ax.mpr ⟨x,hxd,rfl⟩) q (by simp) this
   have:=oN hp n (done++[(q,d)]) (stepped q d) e he Bl (by
    rw[cf,cn];refine⟨hn,by simp,?_⟩;intro a ha b hb;simp at hb;subst hb;intro e2;exact tj (e2▸ha)) (by simp;omega) (by simp)
   simpa using this
theorem FH{l:Cells}(hp:pinched l=false){p:Point}{d:Nat}(h:outOf l p=some d):Round l p (follow l p (4*l.length+4) p d):=by have:=oN hp (4*l.length+4) [] p d h (.nil p) (by simp) (by simp;omega) (by simp);simpa using this
noncomputable def AK(l:Cells)(seen:List Point):Prop:=∀y∈seen,∃x∈seen,∃d,outOf l x=some d/\stepped x d=y
theorem AK.nil(l:Cells):AK l []:=fun _ h=>by simp at h
theorem Round.prev{l:Cells}{p:Point}{f:List Foot}(h:Round l p f):∀y∈f.map (·.1),∃x∈f,stepped x.1 x.2=y:=by
 intro y hy;rcases h.way.prev y (.inl hy)with e|e
 ·subst e;have key:∀{a:List Foot}{u v:Point},Way l u a v->a≠[]->∃x∈a,stepped x.1 x.2=v:=by
   intro a u v hw;induction hw with
   |nil u=>intro h;exact absurd rfl h
   | @cons u v d' r h1 hw ih=>
    intro _;cases r with
    |nil=>cases hw;exact⟨(u,d'),by simp,rfl⟩
    |cons z r=>obtain⟨x,hx,e⟩:=ih (by simp);exact⟨x,by simp only[ak]at hx ⊢;exact .inr hx,e⟩
  exact key h.way h.ne
 ·exact e
theorem AK.add{l:Cells}{seen:List Point}{p:Point}{f:List Foot}(hs:AK l seen)(h:Round l p f):AK l (seen++f.map (·.1)):=by
 intro y hy;rcases aw.mp hy with hy|hy
 ·obtain⟨x,hx,e⟩:=hs y hy;exact⟨x,cc _ hx,e⟩
 ·obtain⟨x,hx,e⟩:=h.prev y hy;exact⟨x.1,bc _ (ax.mpr ⟨x,hx,rfl⟩),x.2,h.way.out x hx,e⟩
theorem Way.fresh{l:Cells}(hp:pinched l=false){seen:List Point}(hs:AK l seen){p q:Point}{f:List Foot}(h:Way l p f q):p∉seen->∀y∈f.map (·.1),y∉seen:=by
 induction h with
 |nil p=>intro _ y hy;simp at hy
 | @cons p q d r h1 hw ih=>
  intro hn y hy;rw[bh]at hy;rcases ak.mp hy with e|hy
  ·rw[e];exact hn
  ·refine ih (fun hm=>?_) y hy;obtain⟨x,hx,e,he,es⟩:=hs _ hm;have:=yX hp he h1 es;exact hn (this▸hx)
theorem cS{a b:Point}:before a b=true↔a.2<b.2\/(a.2=b.2/\a.1<b.1):=by simp[before]
theorem uP{a:Point}(h:before a a=true):False:=by rw[cS]at h;omega
theorem jT{a b c:Point}(h1:before a b=true)(h2:before b c=true):before a c=true:=by rw[cS]at*;omega
theorem CQ(a b:Point):a=b\/before a b=true\/before b a=true:=by
 by_cases h:a=b
 ·exact .inl h
 ·right;rw[cS,cS];have:¬(a.1=b.1/\a.2=b.2):=fun⟨x,y⟩=>h (Prod.ext x y)
  omega
def leR(a b:Cell):Bool:=a==b||before a b
theorem xE{a b:Cell}:leR a b=true↔a=b\/before a b=true:=by simp[leR]
theorem EX(a b c:Cell)(h1:leR a b=true)(h2:leR b c=true):leR a c=true:=by
 rw[xE]at*;rcases h1 with rfl|h1
 ·exact h2
 ·rcases h2 with rfl|h2
  ·exact .inr h1
  ·exact .inr (jT h1 h2)
theorem EY(a b:Cell):(leR a b||leR b a)=true:=by
 rcases CQ a b with rfl|h|h
 ·simp[leR]
 ·simp[leR,h]
 ·simp[leR,h]
theorem jH:∀{l:Cells}{x:Cell},x∈onceEach l↔x∈l
 |[],x=>by simp[onceEach]
 |[a],x=>by simp[onceEach]
 |a::b::r,x=>by
  have ih:=jH (l:=b::r) (x:=x);unfold onceEach;split
  ·rename_i e;rw[ih,e];simp
  ·rw[ak,ih,ak (a:=x) (b:=a)]
theorem jW:∀{l:Cells},l.Pairwise (fun a b=>leR a b=true)->(onceEach l).Pairwise (fun a b=>before a b=true)
 |[],_=>by simp[onceEach]
 |[a],_=>by simp[onceEach]
 |a::b::r,h=>by
  obtain⟨h1,h2⟩:=gc.mp h;have ih:=jW h2;unfold onceEach;split
  ·exact ih
  ·rename_i e;refine gc.mpr ⟨fun x hx=>?_,ih⟩;have hx:=jH.mp hx;have ub:before a b=true:=by
    rcases xE.mp (h1 b (by simp))with q|q
    ·exact absurd q e
    ·exact q
   rcases ak.mp hx with rfl|hx
   ·exact ub
   ·obtain⟨h3,_⟩:=gc.mp h2;rcases xE.mp (h3 x hx)with rfl|q
    ·exact ub
    ·exact jT ub q
theorem fJ{l:Cells}{x:Cell}:x∈inRows l↔x∈l:=by unfold inRows;rw[jH,List.mem_mergeSort]
theorem iK(l:Cells):(inRows l).Pairwise (fun a b=>before a b=true):=jW (List.pairwise_mergeSort EX EY l)
theorem eS{l:List Point}(h:l.Pairwise (fun a b=>before a b=true)):l.Nodup:=by refine List.Pairwise.imp (fun{a b} q=>?_) h;intro e;subst e;exact uP q
noncomputable def eZ(p:Point)(d k:Nat):Point:=if d=0 then(p.1+k,p.2)else if d=1 then(p.1,p.2+k)else if d=2 then(p.1 - k,p.2)else(p.1,p.2 - k)
def cV(p:Point)(d k:Nat):List Foot:=(List.range k).map fun i=>(eZ p d i,d)
theorem mG{p:Point}{d k:Nat}(hd:d<4)(h2:d=2->k<=p.1)(h3:d=3->k<=p.2):feet p (eZ p d k)=cV p d k:=by
 have cd:d=0\/d=1\/d=2\/d=3:=by omega
 rcases cd with rfl|rfl|rfl|rfl
 ·simp only[feet,eZ,cV,ah];by_cases hk:k=0
  ·subst hk;simp
  ·rw[ah (by omega)];rw[show p.1+k - p.1=k by omega]
 ·simp only[feet,eZ,cV];by_cases hk:k=0
  ·subst hk;simp
  ·simp only[af (show¬(1:Nat)=0 by omega),ah];rw[af (by omega),ah (by omega),show p.2+k - p.2=k by omega]
 ·have:=h2 rfl;simp only[feet,eZ,cV];simp only[af (show¬(2:Nat)=0 by omega),af (show¬(2:Nat)=1 by omega),ah];rw[af (by omega),show p.1 - (p.1 - k)=k by omega]
 ·have:=h3 rfl;simp only[feet,eZ,cV];simp only[af (show¬(3:Nat)=0 by omega),af (show¬(3:Nat)=1 by omega),af (show¬(3:Nat)=2 by omega),ah];by_cases hk:k=0
  ·subst hk;simp
  ·rw[af (by omega),af (by omega),show p.2 - (p.2 - k)=k by omega]
theorem uE{p:Point}{d k:Nat}:cV p d (k+1)=cV p d k++[(eZ p d k,d)]:=by simp[cV,iz]
theorem iC{p:Point}{d k:Nat}(hd:d<4):stepped (eZ p d k) d=eZ p d (k+1):=by
 have cd:d=0\/d=1\/d=2\/d=3:=by omega
 rcases cd with rfl|rfl|rfl|rfl<;>simp[stepped,eZ]<;>omega
noncomputable def AQ(cs:Walk)(q:Point):List Foot:=(cs.zip (cs.drop 1++[q])).flatMap fun x=>feet x.1 x.2
theorem E6{p a:Point}{cs:Walk}{q:Point}:AQ (p::a::cs) q=feet p a++AQ (a::cs) q:=by simp[AQ]
theorem jG{l:Cells}{p:Point}{d:Nat}(h:outOf l p=some d):(d=2->1<=p.1)/\(d=3->1<=p.2):=by obtain⟨hd,w⟩:=bC h;rw[eO]at w;obtain⟨g1,g2⟩:=n9 hd w;exact⟨fun e=>by have:=g1 e;omega,fun e=>by have:=g2 e;omega⟩
theorem expand{l:Cells}:∀{r:List Foot}{p p' q:Point}{d k:Nat},Way l p' r q->d<4->(d=2->k<=p.1)->(d=3->k<=p.2)->p'=eZ p d k->AQ (p::turns d r) q=cV p d k++r
 |[],p,p',q,d,k,hw,hd,h2,h3,e=>by
  cases hw;show AQ [p] p'=_
  rw[e];simp[AQ,mG hd h2 h3]
 |(x,d2)::r,p,PP,q,d,k,hw,hd,h2,h3,e=>by
  cases hw with
  |cons h1 hw=>
   obtain⟨b2,b3⟩:=jG h1;obtain⟨Ac,_⟩:=bC h1;by_cases xj:d2=d
   ·subst xj;have et:turns d2 ((x,d2)::r)=turns d2 r:=by
     show(if d2=d2 then _ else _)=_
     rw[ah rfl]
    rw[et,expand (r:=r) (p:=p) (p':=stepped x d2) (k:=k+1) hw hd ?_ ?_ (by rw[e,iC hd]),uE,<- e]
    ·simp
    ·intro e2;have:=b2 e2;rw[e]at this;subst e2;simp[eZ]at this;omega
    ·intro e3;have:=b3 e3;rw[e]at this;subst e3;simp[eZ]at this;omega
   ·have et:turns d ((x,d2)::r)=x::turns d2 r:=by
     show(if d2=d then _ else _)=_
     rw[af xj]
    rw[et,E6,e,mG hd h2 h3,<- e];have:=expand (r:=r) (p:=x) (p':=stepped x d2) (q:=q) (d:=d2) (k:=1) hw Ac (fun z=>b2 z) (fun z=>b3 z) (by
     have:=iC (p:=x) (d:=d2) (k:=0) Ac;have e0:eZ x d2 0=x:=by unfold eZ;split<;>(try split)<;>(try split)<;>simp
     rw[e0]at this;exact this)
    rw[this];have es:cV x d2 1=[(x,d2)]:=by
     have e0:eZ x d2 0=x:=by unfold eZ;split<;>(try split)<;>(try split)<;>simp
     simp[cV,e0]
    rw[es];simp
theorem uN{l:Cells}{p:Point}{d:Nat}{r:List Foot}{x:Foot}(h:Round l p ((p,d)::r))(hx:((p,d)::r).getLast?=some x)(jn:d≠x.2):
  cornersOf ((p,d)::r)=p::turns d r/\walkFeet (cornersOf ((p,d)::r))=(p,d)::r:=by
 have e1:cornersOf ((p,d)::r)=p::turns d r:=by
  unfold cornersOf;rw[hx];show(if d=x.2 then _ else _)=_
  rw[af jn]
 refine⟨e1,?_⟩;rw[e1];have hw:=h.way;cases hw with
 |cons h1 hw=>
  obtain⟨b2,b3⟩:=jG h1;obtain⟨hd,_⟩:=bC h1;have e0:eZ p d 0=p:=by unfold eZ;split<;>(try split)<;>(try split)<;>simp
  have:=expand (r:=r) (p:=p) (p':=stepped p d) (q:=p) (d:=d) (k:=1) hw hd b2 b3 (by
   have:=iC (p:=p) (d:=d) (k:=0) hd;rw[e0]at this;exact this)
  have es:cV p d 1=[(p,d)]:=by simp[cV,e0]
  rw[es]at this;simp only[List.singleton_append]at this;rw[<- this];show((p::turns d r).zip ((p::turns d r).drop 1++(p::turns d r).take 1)).flatMap _=_
  simp[AQ]
theorem Way.nil_inv{l:Cells}{a b:Point}(h:Way l a [] b):a=b:=by cases h;rfl
structure fC(l:Cells)(seen uz:List Point):Prop where
 pE:AK l seen
 all:∀q d,outOf l q=some d->q∈seen\/q∈uz
 row:uz.Pairwise fun a b=>before a b=true
theorem gO{l:Cells}{q:Point}{d:Nat}(h:outOf l q=some d):q∈pointsOf l:=by
 obtain⟨hd,w⟩:=bC h;unfold pointsOf;rw[fJ];rw[eO]at w;obtain⟨a,b⟩:=q;have cd:d=0\/d=1\/d=2\/d=3:=by omega
 rcases cd with rfl|rfl|rfl|rfl
 ·simp[aW,ne,cC]at w;exact cj.mpr ⟨(a,b),w.1,by simp⟩
 ·simp[aW,nw]at w;obtain⟨x0,y0,m⟩:=bR w.1;refine cj.mpr ⟨_,m,?_⟩;simp;omega
 ·simp[aW,sw]at w;obtain⟨x0,y0,m⟩:=bR w.1;refine cj.mpr ⟨_,m,?_⟩;simp;omega
 ·simp[aW,se]at w;obtain⟨x0,y0,m⟩:=bR w.1;refine cj.mpr ⟨_,m,?_⟩;simp;omega
theorem fC.start(l:Cells):fC l [] (pointsOf l):=⟨AK.nil l,fun q d h=>.inr (gO h),iK _⟩
theorem fC.skip{l:Cells}{seen r:List Point}{p:Point}(g:fC l seen (p::r))(h:p∈seen\/outOf l p=none):fC l seen r:=by
 refine⟨g.pE,fun q d hq=>?_,(gc.mp g.row).2⟩;rcases g.all q d hq with h1|h1
 ·exact .inl h1
 ·rcases ak.mp h1 with rfl|h1
  ·rcases h with h|h
   ·exact .inl h
   ·rw[h]at hq;cases hq
  ·exact .inr h1
theorem fC.step{l:Cells}(hp:pinched l=false){seen r:List Point}{p:Point}{d:Nat}(g:fC l seen (p::r))(hs:p∉seen)(ho:outOf l p=some d){f:List Foot}(hf:f=follow l p (4*l.length+4) p d):
  Round l p f/\(∀y∈f.map (·.1),y∉seen)/\(∃r',f=(p,d)::r'/\cornersOf f=p::turns d r')/\walkFeet (cornersOf f)=f/\fC l (seen++f.map (·.1)) r:=by
 have R:=FH hp ho;rw[<- hf]at R;have fr:=R.way.fresh hp g.pE hs;have so:∀y∈f.map (·.1),y=p\/before p y=true:=by
  intro y hy;obtain⟨x,hx,rfl⟩:=ax.mp hy;rcases g.all x.1 x.2 (R.way.out x hx)with h1|h1
  ·exact absurd h1 (fr _ hy)
  ·rcases ak.mp h1 with h1|h1
   ·exact .inl h1
   ·exact .inr ((gc.mp g.row).1 _ h1)
 obtain⟨r',er⟩:∃r',f=(p,d)::r':=by rw[hf];exact⟨_,rfl⟩
 refine⟨R,fr,?_⟩;rw[er]at R so fr ⊢;obtain⟨x,hx⟩:∃x,((p,d)::r').getLast?=some x:=by
  cases e:((p,d)::r').getLast? with
  |none=>simp at e
  |some x=>exact⟨x,rfl⟩
 have km:stepped x.1 x.2=p:=by
  have key:∀{a:List Foot}{u v:Point}{x:Foot},Way l u a v->a.getLast?=some x->stepped x.1 x.2=v:=by
   intro a u v x hw;induction hw with
   |nil u=>intro h;simp at h
   | @cons u v d' r h1 hw ih=>
    intro h;cases r with
    |nil=>cases hw;simp at h;rw[<- h]
    |cons z r=>exact ih (by simpa using h)
  exact key R.way hx
 have xm:x∈(p,d)::r':=List.mem_of_getLast? hx;have xo:=R.way.out x xm;obtain⟨hxd,_⟩:=bC xo;obtain⟨hd,_⟩:=bC ho;have hx23:x.2=2\/x.2=3:=by
  have cx:x.2=0\/x.2=1\/x.2=2\/x.2=3:=by omega
  have hl:=so x.1 (ax.mpr ⟨x,xm,rfl⟩);rw[cS]at hl;rcases cx with c|c|c|c
  ·exfalso;rw[c]at km;simp[stepped]at km;have a1:=congrArg Prod.fst km;have a2:=congrArg Prod.snd km;simp at a1 a2;rcases hl with h|h|h
   ·rw[h]at a1;omega
   ·omega
   ·omega
  ·exfalso;rw[c]at km;simp[stepped]at km;have a1:=congrArg Prod.fst km;have a2:=congrArg Prod.snd km;simp at a1 a2;rcases hl with h|h|h
   ·rw[h]at a2;omega
   ·omega
   ·omega
  ·exact .inl c
  ·exact .inr c
 have hd01:d=0\/d=1:=by
  have hw:=R.way;cases hw with
  |cons h1 hw=>
   have Az:stepped p d=p\/stepped p d∈((p,d)::r').map (·.1):=by
    cases r' with
    |nil=>exact .inl hw.nil_inv
    |cons z r2=>cases hw;right;simp
   have hl:stepped p d=p\/before p (stepped p d)=true:=by
    rcases Az with h|h
    ·exact .inl h
    ·exact so _ h
   rw[cS]at hl;obtain⟨b2,b3⟩:=jG ho;have cx:d=0\/d=1\/d=2\/d=3:=by omega
   rcases cx with c|c|c|c
   ·exact .inl c
   ·exact .inr c
   ·exfalso;have:=b2 c;subst c;simp[stepped]at hl;rcases hl with h|h
    ·have a1:=congrArg Prod.fst h;simp at a1;omega
    ·omega
   ·exfalso;have:=b3 c;subst c;simp[stepped]at hl;rcases hl with h|h
    ·have a1:=congrArg Prod.snd h;simp at a1;omega
    ·omega
 have jn:d≠x.2:=by omega
 obtain⟨c1,c2⟩:=uN R hx jn;refine⟨⟨r',rfl,c1⟩,c2,g.pE.add R,fun q e hq=>?_,(gc.mp g.row).2⟩;rcases g.all q e hq with h1|h1
 ·exact .inl (cc _ h1)
 ·rcases ak.mp h1 with rfl|h1
  ·exact .inl (bc _ (by simp))
  ·exact .inr h1
theorem eQ{l:Cells}(hp:pinched l=false):∀{uz seen:List Point},fC l seen uz ->
  ∃F:List Foot,(walksFrom l seen uz).flatMap walkFeet=F/\(∀x∈F,outOf l x.1=some x.2)/\(F.map (·.1)).Nodup/\(∀x∈F,x.1∉seen)/\∀w∈walksFrom l seen uz,∀q∈w,∃d,outOf l q=some d
 |[],seen,g=>⟨[],by simp[walksFrom],by simp,by simp,by simp,by simp[walksFrom]⟩
 |p::r,seen,g=>by
  by_cases hs:seen.contains p=true
  ·have e:walksFrom l seen (p::r)=walksFrom l seen r:=by
    show(if seen.contains p=true then _ else _)=_
    rw[ah hs]
   rw[e];exact eQ hp (g.skip (.inl (by simpa using hs)))
  ·cases ho:outOf l p with
   |none=>
    have e:walksFrom l seen (p::r)=walksFrom l seen r:=by
     show(if seen.contains p=true then _ else match outOf l p with|none=>_|some d=>_)=_
     rw[af hs,ho]
    rw[e];exact eQ hp (g.skip (.inr ho))
   |some d=>
    have e:walksFrom l seen (p::r)=cornersOf (follow l p (4*l.length+4) p d)::walksFrom l (seen++(follow l p (4*l.length+4) p d).map fun(x:Foot)=>x.1) r:=by
     show(if seen.contains p=true then _ else match outOf l p with|none=>_|some d=>_)=_
     rw[af hs,ho]
    obtain⟨R,fr,⟨r',er,ec⟩,ew,g2⟩:=g.step hp (by simpa using hs) ho rfl;obtain⟨F,h1,h2,h3,h4,h5⟩:=eQ hp g2;refine⟨follow l p (4*l.length+4) p d++F,?_,?_,?_,?_,?_⟩
    ·rw[e,gb,ew,h1]
    ·intro x hx;rcases aw.mp hx with hx|hx
     ·exact R.way.out x hx
     ·exact h2 x hx
    ·rw[cf,cn];refine⟨R.nd,h3,?_⟩;intro a ha b hb e2;obtain⟨x,hx,rfl⟩:=ax.mp hb;exact h4 x hx (bc _ (e2▸ha))
    ·intro x hx;rcases aw.mp hx with hx|hx
     ·exact fr _ (ax.mpr ⟨x,hx,rfl⟩)
     ·exact fun hm=>h4 x hx (cc _ hm)
    ·intro w hw;rw[e]at hw;rcases ak.mp hw with rfl|hw
     ·intro q hq;have key:∀{a:List Foot}{d:Nat}{q:Point},q∈turns d a->∃x∈a,x.1=q:=by
       intro a;induction a with
       |nil=>intro d q h;simp[turns]at h
       |cons x a ih=>
        intro d q h;unfold turns at h;split at h
        ·obtain⟨y,hy,e⟩:=ih h;exact⟨y,by simp[hy],e⟩
        ·rcases ak.mp h with e|h
         ·exact⟨x,by simp,e.symm⟩
         ·obtain⟨y,hy,e⟩:=ih h;exact⟨y,by simp[hy],e⟩
      have:q∈turns ((follow l p (4*l.length+4) p d).getLast?.elim 0 (·.2)) (follow l p (4*l.length+4) p d):=by
       unfold cornersOf at hq;cases e3:(follow l p (4*l.length+4) p d).getLast? with
       |none=>rw[e3]at hq;simp at hq
       |some z=>rw[e3]at hq;exact hq
      obtain⟨x,hx,e4⟩:=key this;exact⟨x.2,e4▸R.way.out x hx⟩
     ·exact h5 w hw
def sV(ws:List Walk):Prop:=∀w∈ws,∀p∈w,okP p
theorem jD:∀{ws:List Walk},sV ws->RoofBNeutral.text (cX ws)=walksText ws
 |[],_=>rfl
 |w::ws,h=>by
  have e:cX (w::ws)=(fV w++[10])++cX ws:=by simp[cX]
  rw[e,fM,pB (h w (by simp)),jD fun x hx=>h x (ar _ hx)];simp[walksText]
theorem qQ{ws:List Walk}(h:sV ws):inB (cX ws):=by
 intro x hx;obtain⟨w,hw,hx⟩:=cj.mp hx;rcases aw.mp hx with hx|hx
 ·rcases nN (h w hw) hx with h1|h1|h1<;>omega
 ·simp at hx;omega
theorem nM{ws:List Walk}(h:sV ws):parts 10 (cX ws)=ws.map fV++[[]]:=by
 have:cX ws=glue 10 (ws.map fV++[[]]):=by rw[m6,cX,flatMap_map]
 rw[this];refine fG (by simp) fun q hq=>?_
 rcases aw.mp hq with hq|hq
 ·obtain⟨w,hw,rfl⟩:=ax.mp hq;intro e;rcases nN (h w hw) e with h1|h1|h1<;>omega
 ·simp at hq;subst hq;simp
theorem BD{p:Point}:cB p≠[]:=by unfold cB glue glue pNum;split<;>simp
theorem yV{p q:Point}(hp:okP p)(hq:okP q)(e:cB p=cB q):p=q:=by have h1:=fX hp;rw[e,fX hq]at h1;have h2:=Option.some.inj h1;have a:=congrArg Prod.fst h2;have b:=congrArg Prod.snd h2;simp[iP]at a b;exact Prod.ext (by omega) (by omega)
theorem map_inj{α β:Type}{f:α->β}:∀{a b:List α},(∀x∈a,∀y∈b,f x=f y->x=y)->a.map f=b.map f->a=b
 |[],[],_,_=>rfl
 |[],_::_,_,h=>by simp at h
 |_::_,[],_,h=>by simp at h
 |x::a,y::b,hf,h=>by simp at h;rw[hf x (by simp) y (by simp) h.1,map_inj (fun u hu v hv=>hf u (by simp[hu]) v (by simp[hv])) h.2]
theorem HI{w v:Walk}(hw:∀p∈w,okP p)(hv:∀p∈v,okP p)(e:fV w=fV v):w=v:=by
 have key:∀{w:Walk},(∀p∈w,okP p)->w≠[]->parts 32 (fV w)=w.map cB:=by
  intro w hw jn;unfold fV;refine fG (by simpa using jn) fun q hq=>?_
  obtain⟨p,hp,rfl⟩:=ax.mp hq;intro e;rcases kN (hw p hp) e with h1|h1<;>omega
 have By:∀{w:Walk},(∀p∈w,okP p)->fV w=[]->w=[]:=by
  intro w hw e;by_cases h:w=[]
  ·exact h
  ·exfalso;have k:=key hw h;rw[e]at k;have:[([]:List Int)]=w.map cB:=k;cases w with
   |nil=>exact h rfl
   |cons p w=>simp at this;exact BD this.1
 by_cases h1:w=[]
 ·subst h1;exact(By hv e.symm).symm
 ·by_cases h2:v=[]
  ·subst h2;exact absurd (By hw e) h1
  ·have k1:=key hw h1;rw[e,key hv h2]at k1;exact map_inj (fun x hx y hy=>yV (hw x hx) (hv y hy)) k1.symm
theorem uC{a b:List Walk}(ha:sV a)(hb:sV b)(h:walksText a=walksText b):a=b:=by
 rw[<- jD ha,<- jD hb]at h;have h:=rX (qQ ha) (qQ hb) h;have k:=nM ha;rw[h,nM hb]at k;have k:a.map fV=b.map fV:=by simpa using k.symm
 exact map_inj (fun x hx y hy=>HI (ha x hx) (hb y hy)) k
noncomputable def bH(x y:Nat)(f:Foot):Bool:=(f.2==1&& f.1==(x,y))||(f.2==3&& f.1==(x,y+1))
noncomputable def bZ(F:Nat->Nat->Bool)(y:Nat):Nat->Bool
 |0=>F 0 y
 |x+1=>xor (bZ F y x) (F (x+1) y)
noncomputable def aR(F:Nat->Nat->Bool):Cells:=(List.range SIDE).flatMap fun y=>((List.range SIDE).map fun x=>((x,y):Cell)).filter fun c=>bZ F c.2 c.1
theorem rR(F:List Foot)(y:Nat):wallsWest F (0,y)=F.countP (bH 0 y):=by
 unfold wallsWest;refine List.countP_congr fun f _=>?_
 obtain⟨⟨a,b⟩,k⟩:=f;show(decide (a<=0)&& ((k==1&& b==y)||(k==3&& b==y+1)))=true↔((k==1&& (a==0&& b==y))||(k==3&& (a==0&& b==y+1)))=true
 rw[show(a==0)=decide (a<=0)from dh.mpr (by rw[beq_iff_eq,decide_eq_true_iff];exact Nat.le_zero.symm)];cases decide (a<=0)
 ·simp only[Bool.false_and,Bool.and_false,Bool.or_false]
 ·simp only[Bool.true_and]
theorem w9{α:Type}{p q r:α->Bool}:∀{l:List α},(∀x∈l,r x=(p x||q x))->(∀x∈l,¬(p x=true/\q x=true))->l.countP r=l.countP p+l.countP q
 |[],_,_=>by simp
 |x::l,h1,h2=>by have ih:=w9 (l:=l) (fun y hy=>h1 y (by simp[hy])) (fun y hy=>h2 y (by simp[hy]));have a:=h1 x (by simp);have b:=h2 x (by simp);rw[countP_cons,countP_cons,countP_cons,ih,a];cases hp:p x<;>cases hq:q x<;>simp_all<;>omega
theorem rS(F:List Foot)(x y:Nat):wallsWest F (x+1,y)=wallsWest F (x,y)+F.countP (bH (x+1) y):=by
 unfold wallsWest;refine w9 (fun f _=>?_) fun f _ h=>?_
 ·obtain⟨⟨a,b⟩,k⟩:=f;show(decide (a<=x+1)&& ((k==1&& b==y)||(k==3&& b==y+1)))=((decide (a<=x)&& ((k==1&& b==y)||(k==3&& b==y+1)))||((k==1&& (a==x+1&& b==y))||(k==3&& (a==x+1&& b==y+1))))
  by_cases c:a=x+1
  ·rw[decide_eq_true (ie c),decide_eq_false (by omega),show(a==x+1)=true from beq_iff_eq.mpr c];rfl
  ·rw[show decide (a<=x+1)=decide (a<=x)from decide_eq_decide.mpr (by omega),show(a==x+1)=false from beq_eq_false_iff_ne.mpr c];simp only[Bool.false_and,Bool.and_false,Bool.or_false]
 ·obtain⟨⟨a,b⟩,k⟩:=f;have h1:(decide (a<=x)&& ((k==1&& b==y)||(k==3&& b==y+1)))=true:=h.1;have h2:((k==1&& (a==x+1&& b==y))||(k==3&& (a==x+1&& b==y+1)))=true:=h.2;have e:a<=x:=ba (Bool.and_eq_true_iff.mp h1).1;rw[show(a==x+1)=false from beq_eq_false_iff_ne.mpr (by omega)]at h2;simp only[Bool.false_and,Bool.and_false,Bool.or_false]at h2;cases h2
theorem zO{F:List Foot}(h:∀x y,F.countP (bH x y)<=1)(y:Nat):∀x,bZ (fun x y=>F.any (bH x y)) y x=(wallsWest F (x,y)%2==1):=by
 have one:∀x,F.any (bH x y)=(F.countP (bH x y)==1):=by
  intro x;have:=h x y;cases e:F.any (bH x y)with
  |true=>
   have:0<F.countP (bH x y):=by rw[List.countP_pos_iff];exact fb.mp e
   have:F.countP (bH x y)=1:=by omega
   simp[this]
  |false=>
   have:F.countP (bH x y)=0:=by rw[List.countP_eq_zero];intro a ha q;have:F.any (bH x y)=true:=fb.mpr ⟨a,ha,q⟩;rw[e]at this;cases this
   simp[this]
 intro x;induction x with
 |zero=>
  show F.any (bH 0 y)=_
  rw[rR,one];have:=h 0 y;rw[dh];simp;omega
 |succ x ih=>
  show xor (bZ _ y x) (F.any (bH (x+1) y))=_
  rw[rS,ih,one];have:=h (x+1) y;rw[dh];have hx:∀a b:Nat,b<=1->(((a%2==1)^^ (b==1))=true↔((a+b)%2==1)=true):=by
   intro a b hb;have:b=0\/b=1:=by omega
   rcases this with rfl|rfl
   ·simp
   ·have:a%2=0\/a%2=1:=by omega
    rcases this with q|q
    ·simp[q];omega
    ·simp[q];omega
  exact hx _ _ this
theorem CM(ws:List Walk):cellsIn ws=(List.range SIDE).flatMap fun y=>((List.range SIDE).map fun x=>((x,y):Cell)).filter fun c=>wallsWest (ws.flatMap walkFeet) c%2==1:=by
 unfold cellsIn;dsimp only;congr 1;funext y;have Ao:∀x,wallsWest (((ws.flatMap walkFeet).filter fun(x:Foot)=>x.2==1||x.2==3).filter fun(x:Foot)=>x.1.2==y||x.1.2==y+1) (x,y)=wallsWest (ws.flatMap walkFeet) (x,y):=by
  intro x;unfold wallsWest;rw[List.countP_filter,List.countP_filter];refine List.countP_congr fun f _=>?_
  simp;omega
 split
 ·rename_i e;symm;rw[List.filter_eq_nil_iff];intro c hc;obtain⟨x,_,rfl⟩:=ax.mp hc;have w:=Ao x;rw[List.isEmpty_iff.mp e]at w;rw[<- w];simp[wallsWest]
 ·refine filter_congr fun c hc=>?_
  obtain⟨x,_,rfl⟩:=ax.mp hc;rw[Ao x]
theorem wB{ws:List Walk}(h:∀x y,(ws.flatMap walkFeet).countP (bH x y)<=1):cellsIn ws=aR fun x y=>(ws.flatMap walkFeet).any (bH x y):=by
 rw[CM,aR];congr 1;funext y;refine filter_congr fun c hc=>?_
 obtain⟨x,_,rfl⟩:=ax.mp hc;rw[zO h]
noncomputable def r6(a b:Point)(x y:Nat):Bool:=a.1==b.1&& (a.1==x&& (decide (min a.2 b.2<=y)&& decide (y<max a.2 b.2)))
theorem IP(a b:Point)(x y:Nat):(feet a b).any (bH x y)=r6 a b x y:=by
 rw[dh,fb];unfold feet;constructor
 ·rintro⟨f,hf,hv⟩;by_cases h1:a.2=b.2
  ·rw[ah h1]at hf;split at hf
   ·obtain⟨i,_,rfl⟩:=ax.mp hf;simp[bH]at hv
   ·obtain⟨i,_,rfl⟩:=ax.mp hf;simp[bH]at hv
  ·rw[af h1]at hf;by_cases h2:a.1=b.1
   ·rw[ah h2]at hf;split at hf
    ·obtain⟨i,hi,rfl⟩:=ax.mp hf;simp[bH,Prod.ext_iff]at hv hi;simp[r6];omega
    ·obtain⟨i,hi,rfl⟩:=ax.mp hf;simp[bH,Prod.ext_iff]at hv hi;simp[r6];omega
   ·rw[af h2]at hf;simp at hf
 ·intro h;simp[r6]at h;obtain⟨h1,h2,h3,h4⟩:=h;have jn:a.2≠b.2:=by omega
  rw[af jn,ah h1];by_cases jr:a.2<b.2
  ·rw[ah jr];refine⟨((a.1,y),1),ax.mpr ⟨y - a.2,by simp;omega,?_⟩,by simp[bH,Prod.ext_iff];omega⟩;simp[Prod.ext_iff];omega
  ·rw[af jr];refine⟨((a.1,y+1),3),ax.mpr ⟨a.2 - (y+1),by simp;omega,?_⟩,by simp[bH,Prod.ext_iff];omega⟩;simp[Prod.ext_iff];omega
noncomputable def dD(ws:List Walk)(x y:Nat):Bool:=ws.any fun w=>(sides w).any fun s=>r6 s.1 s.2 x y
theorem FG(ws:List Walk)(x y:Nat):(ws.flatMap walkFeet).any (bH x y)=dD ws x y:=by unfold dD walkFeet;rw[List.any_flatMap];congr 1;funext w;rw[List.any_flatMap];congr 1;funext s;exact IP s.1 s.2 x y
theorem zS{l:Cells}(h:isHouse l=true):l≠[]/\l.length<=256/\(∀c∈l,c.1<64/\c.2<64)/\rising l=true/\pinched l=false:=by
 unfold isHouse at h;cases l with
 |nil=>simp at h
 |cons c r=>
  simp[Roof.within,SIDE,CELLS]at h;obtain⟨h1,h2,h3,h4,h5⟩:=h;refine⟨by simp,by simpa using h1,?_,h3,h5⟩;intro x hx;rcases ak.mp hx with rfl|hx
  ·exact⟨ba h2.1.1,ba h2.1.2⟩
  ·exact⟨ba (h2.2 x.1 x.2 hx).1,ba (h2.2 x.1 x.2 hx).2⟩
theorem JG{l:Cells}(h:∀c∈l,c.1<64/\c.2<64){q:Point}{d:Nat}(ho:outOf l q=some d):okP q:=by have:=gO ho;unfold pointsOf at this;rw[fJ]at this;obtain⟨c,hc,hq⟩:=cj.mp this;have:=h c hc;simp at hq;rcases hq with rfl|rfl|rfl|rfl<;>(constructor<;>(try simp only)<;>omega)
theorem qW{l:Cells}(h:isHouse l=true):sV (walksOf l)/\∀x y,((walksOf l).flatMap walkFeet).countP (bH x y)<=1:=by
 obtain⟨_,_,hb,_,hp⟩:=zS h;obtain⟨F,h1,h2,h3,_,h5⟩:=eQ hp (fC.start l);refine⟨fun w hw p hpw=>?_,fun x y=>?_⟩
 ·obtain⟨d,hd⟩:=h5 w hw p hpw;exact JG hb hd
 ·show((walksFrom l [] (pointsOf l)).flatMap walkFeet).countP _<=1
  rw[h1];have nd:=nU h3;have uniq:∀f∈F,∀g∈F,bH x y f=true->bH x y g=true->f=g:=by
   intro f hf g hg vf vg;have of:=h2 f hf;have og:=h2 g hg;obtain⟨⟨a,b⟩,d⟩:=f;obtain⟨⟨a',b'⟩,d'⟩:=g;simp[bH,Prod.ext_iff]at vf vg;obtain⟨_,w1⟩:=bC of;obtain⟨_,w2⟩:=bC og;rw[eO]at w1 w2;rcases vf with⟨e1,e2,e3⟩|⟨e1,e2,e3⟩<;>rcases vg with⟨g1,g2,g3⟩|⟨g1,g2,g3⟩
   ·subst e1 e2 e3 g1 g2 g3;rfl
   ·exfalso;subst e1 e2 e3 g1 g2 g3;simp[aW,ne,se]at w1 w2;rw[w1.2]at w2;simp at w2
   ·exfalso;subst e1 e2 e3 g1 g2 g3;simp[aW,ne,se]at w1 w2;rw[w2.2]at w1;simp at w1
   ·subst e1 e2 e3 g1 g2 g3;rfl
  have key:∀{F:List Foot},F.Nodup->(∀f∈F,∀g∈F,bH x y f=true->bH x y g=true->f=g)->F.countP (bH x y)<=1:=by
   intro F;induction F with
   |nil=>intro _ _;simp
   |cons f F ih=>
    intro nd u;obtain⟨n1,n2⟩:=dc.mp nd;rw[countP_cons];by_cases hv:bH x y f=true
    ·have:F.countP (bH x y)=0:=by rw[List.countP_eq_zero];intro g hg vg;have:=u f (by simp) g (by simp[hg]) hv vg;exact n1 (this▸hg)
     simp[this,hv]
    ·have:=ih n2 fun a ha b hb=>u a (by simp[ha]) b (by simp[hb])
     simp[hv];omega
  exact key nd uniq
noncomputable def IG(ws:List Walk):Option Cells:=if isHouse (aR (dD ws))=true/\walksOf (aR (dD ws))=ws then some (aR (dD ws))else none
theorem tS(ws:List Walk):(fun x y=>(ws.flatMap walkFeet).any (bH x y))=dD ws:=by funext x y;exact FG ws x y
theorem C3{t:List Int}(ht:inB t){ws:List Walk}(o:BG ws)(e:e9 t=some (iWs ws)):houseOf (RoofBNeutral.text t)=IG ws:=by
 have inj:∀{a b:List Walk},iWs a=iWs b->a=b:=by intro a b h;refine map_inj (fun x _ y _ q=>map_inj (fun p _ p' _ r=>?_) q) h;have a1:=congrArg Prod.fst r;have a2:=congrArg Prod.snd r;simp[iP]at a1 a2;exact Prod.ext (by omega) (by omega)
 have hr:readWalks (RoofBNeutral.text t)=.ok ws:=by
  cases q:readWalks (RoofBNeutral.text t)with
  |error p=>rw[EJ q]at e;cases e
  |ok v=>have:=(reads ht q).1;rw[e]at this;rw[inj (Option.some.inj this)]
 have hx:=(nI hr).2;have okp:sV ws:=fun w hw=>(o.2 w hw).2
 unfold houseOf;rw[hr];dsimp only;unfold IG;by_cases h1:isHouse (cellsIn ws)=true/\textOf (cellsIn ws)=RoofBNeutral.text t
 ·rw[ah h1];obtain⟨k1,k2⟩:=qW h1.1;have hw:walksOf (cellsIn ws)=ws:=uC k1 okp (by rw[<- hx];exact h1.2);rw[hw]at k2;have e2:=wB k2;rw[tS]at e2;rw[<- e2,ah ⟨h1.1,hw⟩]
 ·rw[af h1];by_cases h2:isHouse (aR (dD ws))=true/\walksOf (aR (dD ws))=ws
  ·exfalso;obtain⟨k1,k2⟩:=qW h2.1;rw[h2.2]at k2;have e2:=wB k2;rw[tS]at e2;refine h1 ⟨by rw[e2];exact h2.1,?_⟩;rw[e2,textOf,h2.2,hx]
  ·rw[af h2]
theorem C4{t:List Int}(ht:inB t)(e:e9 t=none):houseOf (RoofBNeutral.text t)=none:=by
 unfold houseOf;cases q:readWalks (RoofBNeutral.text t)with
 |error p=>rfl
 |ok v=>have:=(reads ht q).1;rw[e]at this;cases this
noncomputable def aI(p:Pl)(s:Nat):Pl:=if s=0 then(p.1,p.2 - 1)else if s=1 then(p.1+1,p.2)else if s=2 then(p.1,p.2+1)else(p.1 - 1,p.2)
theorem fW{a b:Point}(h:iP a=iP b):a=b:=by have a1:=congrArg Prod.fst h;have a2:=congrArg Prod.snd h;simp[iP]at a1 a2;exact Prod.ext (by omega) (by omega)
theorem cZ{l:Cells}{x:Cell}:iP x∈iW l↔x∈l:=by
 constructor
 ·intro h;obtain⟨y,hy,e⟩:=ax.mp h;exact fW e▸hy
 ·exact fun h=>ax.mpr ⟨x,h,rfl⟩
theorem eM{x y:Cell}:y∈beside x↔∃s,s<4/\iP y=aI (iP x) s:=by
 obtain⟨a,b⟩:=x;obtain⟨u,v⟩:=y;constructor
 ·intro h;unfold beside at h;rw[aw,aw]at h;rcases h with h|h|h
  ·simp at h;rcases h with⟨rfl,rfl⟩|⟨rfl,rfl⟩
   ·exact⟨1,by omega,by simp[iP,aI]⟩
   ·exact⟨2,by omega,by simp[iP,aI]⟩
  ·split at h
   ·simp at h;obtain⟨rfl,rfl⟩:=h;rename_i q;exact⟨3,by omega,by simp[iP,aI];simp at q;omega⟩
   ·simp at h
  ·split at h
   ·simp at h;obtain⟨rfl,rfl⟩:=h;rename_i q;exact⟨0,by omega,by simp[iP,aI];simp at q;omega⟩
   ·simp at h
 ·rintro⟨s,hs,e⟩;have cs:s=0\/s=1\/s=2\/s=3:=by omega
  unfold beside;rw[aw,aw];rcases cs with rfl|rfl|rfl|rfl
  ·simp[iP,aI]at e;right;right;rw[ah (show 0<b by omega)];simp;omega
  ·simp[iP,aI]at e;left;simp;omega
  ·simp[iP,aI]at e;left;simp;omega
  ·simp[iP,aI]at e;right;left;rw[ah (show 0<a by omega)];simp;omega
inductive fD (l:Cells) (c:Cell):Cell->Prop where
 |refl:fD l c c
 |step {x y:Cell}:fD l c x->y∈beside x->y∈l->fD l c y
theorem AH{l:Cells}{c:Cell}{R:List Cell}(h0:c∈R)(hc:∀x∈R,∀y∈beside x,y∈l->y∈R):∀x,fD l c x->x∈R:=by
 intro x h;induction h with
 |refl=>exact h0
 |step _ h1 h2 ih=>exact hc _ ih _ h1 h2
theorem yH{α:Type}[DecidableEq α]{R l:List α}(hR:R.Nodup)(hl:l.Nodup)(hs:∀x∈R,x∈l):R.length=l.length↔∀x∈l,x∈R:=by
 constructor
 ·intro e x hx;apply Classical.byContradiction;intro hn;have:=bX (a:=R) (b:=l.erase x) hR fun y hy=>(List.mem_erase_of_ne (fun(q:y=x)=>hn (q▸hy))).mpr (hs y hy)
  rw[List.length_erase_of_mem hx]at this;have:0<l.length:=List.length_pos_of_mem hx;omega
 ·intro h;exact Nat.le_antisymm (bX hR hs) (bX hl h)
theorem jY{α:Type}[BEq α][LawfulBEq α]:∀(n:Nat)(l:List α),l.length<=n->l.eraseDups.Nodup
 |0,l,h=>by have:l=[]:=List.length_eq_zero_iff.mp (by omega);subst this;simp
 |n+1,[],h=>by simp
 |n+1,a::l,h=>by
  rw[List.eraseDups_cons];refine dc.mpr ⟨fun hm=>?_,jY n _ ?_⟩
  ·rw[List.mem_eraseDups]at hm;simp at hm
  ·have:=dk (fun b=>!b==a) l;simp at h;omega
structure E3(l:Cells)(c:Cell)(R:List Cell):Prop where
 nd:R.Nodup
 sub:∀x∈R,x∈l
 conn:∀x∈R,fD l c x
 start:c∈R
theorem vA{l:Cells}{c:Cell}:∀(f:Nat)(seen new:List Cell),E3 l c seen->(∀x∈new,x∈seen)->(∀x∈seen,x∉new->∀y∈beside x,y∈l->y∈seen)->l.length<seen.length+f ->
  E3 l c (reach l f seen new)/\∀x∈reach l f seen new,∀y∈beside x,y∈l->y∈reach l f seen new
 |0,seen,new,h,_,_,hl=>by have:=bX h.nd h.sub;omega
 |f+1,seen,new,h,hn,hc,hl=>by
  have eR:reach l (f+1) seen new=(if((new.flatMap beside).filter fun(c:Cell)=>l.contains c&& !seen.contains c).eraseDups=[]then seen else
   reach l f (seen++((new.flatMap beside).filter fun(c:Cell)=>l.contains c&& !seen.contains c).eraseDups) ((new.flatMap beside).filter fun(c:Cell)=>l.contains c&& !seen.contains c).eraseDups):=rfl
  rw[eR];generalize hN:((new.flatMap beside).filter fun(c:Cell)=>l.contains c&& !seen.contains c).eraseDups=N;have hm:∀y,y∈N↔(∃x∈new,y∈beside x)/\y∈l/\y∉seen:=by intro y;rw[<- hN,List.mem_eraseDups,br,cj];simp
  have qj:N.Nodup:=hN▸jY _ _ (au _);have Dd:∀x∈seen,∀y∈beside x,y∈l->y∈seen\/y∈N:=by
   intro x hx y hy sq;by_cases hxn:x∈new
   ·by_cases hys:y∈seen
    ·exact .inl hys
    ·exact .inr ((hm y).mpr ⟨⟨x,hxn,hy⟩,sq,hys⟩)
   ·exact .inl (hc x hx hxn y hy sq)
  by_cases he:N=[]
  ·rw[ah he];refine⟨h,fun x hx y hy sq=>?_⟩;rcases Dd x hx y hy sq with q|q
   ·exact q
   ·rw[he]at q;simp at q
  ·rw[af he];refine vA f (seen++N) N ⟨?_,?_,?_,cc _ h.start⟩ (fun x hx=>bc _ hx) ?_ ?_
   ·rw[cn];refine⟨h.nd,qj,fun a ha b hb e=>?_⟩;exact((hm b).mp hb).2.2 (e▸ha)
   ·intro x hx;rcases aw.mp hx with hx|hx
    ·exact h.sub x hx
    ·exact((hm x).mp hx).2.1
   ·intro x hx;rcases aw.mp hx with hx|hx
    ·exact h.conn x hx
    ·obtain⟨⟨z,hz,q⟩,hl,_⟩:=(hm x).mp hx;exact .step (h.conn z (hn z hz)) q hl
   ·intro x hx hxn y hy sq;rcases aw.mp hx with hx|hx
    ·rcases Dd x hx y hy sq with q|q
     ·exact cc _ q
     ·exact bc _ q
    ·exact absurd hx hxn
   ·have:0<N.length:=fy.mpr he;rw[aj];omega
theorem pH{l:Cells}(hl:l.Nodup){c:Cell}(hc:c∈l):(reach l l.length [c] [c]).length=l.length↔∀x∈l,fD l c x:=by
 obtain⟨h,ni⟩:=vA l.length [c] [c] (l:=l) (c:=c) ⟨by simp,by simpa using hc,by intro x hx;simp at hx;subst hx;exact .refl,by simp⟩ (by simp) (by intro x hx hn;exact absurd hx hn) (by simp);rw[yH h.nd hl h.sub];constructor
 ·exact fun q x hx=>h.conn x (q x hx)
 ·exact fun q x hx=>AH h.start ni x (q x hx)
structure Dfs(l:Cells)(c:Cell)(reached oh:List Pl):Prop where
 nd:reached.Nodup
 sub:∀p∈reached,∃x∈l,p=iP x/\fD l c x
 wait:∀p∈oh,∀x∈l,p=iP x->fD l c x
 start:iP c∈reached\/iP c∈oh
 pE:∀p∈reached,∀s,s<4->aI p s∈iW l->aI p s∈reached\/aI p s∈oh
theorem Dfs.first{l:Cells}{c:Cell}:Dfs l c [] [iP c]:=
 ⟨by simp,by simp,by intro p hp x hx e;simp at hp;subst hp;rw[fW e];exact .refl,.inr (by simp),by simp⟩
theorem Dfs.skip{l:Cells}{c:Cell}{reached w:List Pl}{p:Pl}(h:Dfs l c reached (w++[p]))(hc:c∈l)(hp:p∉iW l\/p∈reached):Dfs l c reached w:=by
 refine⟨h.nd,h.sub,fun q hq=>h.wait q (by simp[hq]),?_,fun q hq s hs hm=>?_⟩
 ·rcases h.start with e|e
  ·exact .inl e
  ·rcases aw.mp e with e|e
   ·exact .inr e
   ·simp at e;rcases hp with hp|hp
    ·rw[<- e]at hp;exact absurd (cZ.mpr hc) hp
    ·rw[e];exact .inl hp
 ·rcases h.pE q hq s hs hm with e|e
  ·exact .inl e
  ·rcases aw.mp e with e|e
   ·exact .inr e
   ·simp at e;rcases hp with hp|hp
    ·rw[e]at hm;exact absurd hm hp
    ·rw[e];exact .inl hp
theorem Dfs.take{l:Cells}{c:Cell}{reached w:List Pl}{p:Pl}(h:Dfs l c reached (w++[p]))(hp:p∈iW l)(hn:p∉reached):
  Dfs l c (reached++[p]) (w++[aI p 0,aI p 1,aI p 2,aI p 3]):=by
 obtain⟨x,hx,e⟩:=ax.mp hp;have hcx:fD l c x:=h.wait p (by simp) x hx e.symm;refine⟨?_,?_,?_,?_,?_⟩
 ·rw[cn];refine⟨h.nd,by simp,fun a ha b hb=>?_⟩;simp at hb;subst hb;intro q;exact hn (q▸ha)
 ·intro q hq;rcases aw.mp hq with hq|hq
  ·exact h.sub q hq
  ·simp at hq;exact⟨x,hx,by rw[hq,e],hcx⟩
 ·intro q hq y hy ey;rcases aw.mp hq with hq|hq
  ·exact h.wait q (by simp[hq]) y hy ey
  ·have:y∈beside x:=by
    rw[eM];simp at hq;rcases hq with q0|q0|q0|q0
    ·exact⟨0,by omega,by rw[e,<- ey,q0]⟩
    ·exact⟨1,by omega,by rw[e,<- ey,q0]⟩
    ·exact⟨2,by omega,by rw[e,<- ey,q0]⟩
    ·exact⟨3,by omega,by rw[e,<- ey,q0]⟩
   exact .step hcx this hy
 ·rcases h.start with q|q
  ·exact .inl (by simp[q])
  ·rcases aw.mp q with q|q
   ·exact .inr (by simp[q])
   ·simp at q;exact .inl (by simp[q])
 ·intro q hq s hs hm;rcases aw.mp hq with hq|hq
  ·rcases h.pE q hq s hs hm with r|r
   ·exact .inl (by simp[r])
   ·rcases aw.mp r with r|r
    ·exact .inr (by simp[r])
    ·simp at r;exact .inl (by simp[r])
  ·simp at hq;subst hq;have cs:s=0\/s=1\/s=2\/s=3:=by omega
   right;rcases cs with rfl|rfl|rfl|rfl<;>simp
theorem Dfs.len{l:Cells}{c:Cell}{reached w:List Pl}(h:Dfs l c reached w):reached.length<=l.length:=by
 have:=bX (b:=iW l) h.nd fun p hp=>by obtain⟨x,hx,e,_⟩:=h.sub p hp;rw[e];exact cZ.mpr hx
 simpa[iW]using this
theorem Dfs.done{l:Cells}(hl:l.Nodup){c:Cell}(hc:c∈l){reached:List Pl}(h:Dfs l c reached []):decide (reached.length=l.length)=((reach l l.length [c] [c]).length==l.length):=by
 have e1:(iW l).length=l.length:=by simp[iW]
 have nd:(iW l).Nodup:=dJ hl fun x _ y _ e=>fW e
 have k1:=yH (R:=reached) (l:=iW l) h.nd nd fun p hp=>by obtain⟨x,hx,e,_⟩:=h.sub p hp;rw[e];exact cZ.mpr hx
 rw[e1]at k1;have k2:=pH hl hc;have k3:(∀x∈iW l,x∈reached)↔∀x∈l,fD l c x:=by
  constructor
  ·intro q x hx;obtain⟨y,hy,e,hcy⟩:=h.sub _ (q (iP x) (cZ.mpr hx));rw[fW e];exact hcy
  ·intro q p hp;obtain⟨x,hx,rfl⟩:=ax.mp hp;have key:∀x,fD l c x->iP x∈reached:=by
    intro x hcx;induction hcx with
    |refl=>
     rcases h.start with r|r
     ·exact r
     ·simp at r
    |step _ h1 h2 ih=>
     obtain⟨s,hs,e⟩:=eM.mp h1;rcases h.pE _ ih s hs (by rw[<- e];exact cZ.mpr h2)with r|r
     ·rw[e];exact r
     ·simp at r
   exact key x (q x hx)
 rw[dh];simp only[decide_eq_true_eq,beq_iff_eq];rw[k1,k3,k2]
noncomputable def aT(l:Cells)(p:Pl)(s:Nat):Bool:=!decide (aI p s∈iW l)&& (!decide (aI p ((s+1)%4)∈iW l)&& decide (aI (aI p s) ((s+1)%4)∈iW l))
theorem mQ{l:Cells}{x y:Int}:(x,y)∈iW l↔inI l x y=true:=by
 constructor
 ·intro h;obtain⟨c,hc,e⟩:=ax.mp h;have a1:=congrArg Prod.fst e;have a2:=congrArg Prod.snd e;simp[iP]at a1 a2;rw[<- a1,<- a2,cC];simpa using hc
 ·intro h;obtain⟨h1,h2,h3⟩:=bR h;refine ax.mpr ⟨_,h3,?_⟩;simp[iP];omega
theorem jS{l:Cells}{x y:Int}:decide ((x,y)∈iW l)=inI l x y:=by rw[dh,decide_eq_true_eq];exact mQ
theorem sT{l:Cells}:pinched l=(iW l).any fun p=>aT l p 0||(aT l p 1||(aT l p 2||aT l p 3)):=by
 have m0:∀x y:Int,aT l (x,y) 0=(!inI l x (y - 1)&& (!inI l (x+1) y&& inI l (x+1) (y - 1))):=by intro x y;simp only[aT,aI];simp only[jS,ah,af (show¬((0+1)%4=0) by decide),ah (show(0+1)%4=1 by decide)]
 have m1:∀x y:Int,aT l (x,y) 1=(!inI l (x+1) y&& (!inI l x (y+1)&& inI l (x+1) (y+1))):=by intro x y;simp[aT,aI,jS]
 have m2:∀x y:Int,aT l (x,y) 2=(!inI l x (y+1)&& (!inI l (x - 1) y&& inI l (x - 1) (y+1))):=by intro x y;simp[aT,aI,jS]
 have m3:∀x y:Int,aT l (x,y) 3=(!inI l (x - 1) y&& (!inI l x (y - 1)&& inI l (x - 1) (y - 1))):=by intro x y;simp[aT,aI,jS]
 rw[dh];constructor
 ·intro h;obtain⟨⟨a,b⟩,hc,q⟩:=fb.mp h;refine fb.mpr ⟨iP (a,b),cZ.mpr hc,?_⟩;show(aT l ((a:Int),(b:Int)) 0||(aT l ((a:Int),(b:Int)) 1||(aT l ((a:Int),(b:Int)) 2||aT l ((a:Int),(b:Int)) 3)))=true
  rw[m1,m2];rw[or_eq_true]at q;rcases q with q|q
  ·simp only[cg,fj,ia]at q;have b1:inI l ((a:Int)+1) ((b:Int)+1)=true:=by have:=cC l (a+1) (b+1);rw[q.1]at this;simpa using this
   have b2:inI l ((a:Int)+1) b=false:=by have:=cC l (a+1) b;rw[q.2.1]at this;simpa using this
   have b3:inI l (a:Int) ((b:Int)+1)=false:=by have:=cC l a (b+1);rw[q.2.2]at this;simpa using this
   simp[b1,b2,b3]
  ·simp only[cg,fj,ia,decide_eq_true_eq]at q;obtain⟨q0,q1,q2,q3⟩:=q;have e:((a - 1:Nat):Int)=(a:Int) - 1:=by have:0<a:=q0;omega
   have b1:inI l ((a:Int) - 1) ((b:Int)+1)=true:=by have:=cC l (a - 1) (b+1);rw[q1,e]at this;simpa using this
   have b2:inI l ((a:Int) - 1) b=false:=by have:=cC l (a - 1) b;rw[q2,e]at this;simpa using this
   have b3:inI l (a:Int) ((b:Int)+1)=false:=by have:=cC l a (b+1);rw[q3]at this;simpa using this
   simp[b1,b2,b3]
 ·intro h;obtain⟨p,hp,q⟩:=fb.mp h;cases hb:pinched l with
  |true=>rfl
  |false=>
   exfalso;obtain⟨x,y⟩:=p;have hp:=mQ.mp hp;rw[m0,m1,m2,m3]at q;simp only[or_eq_true,cg,fj]at q;rcases q with⟨q1,q2,q3⟩|⟨q1,q2,q3⟩|⟨q1,q2,q3⟩|⟨q1,q2,q3⟩
   ·
    refine(gJ hb (x+1) y).2 ⟨?_,?_,?_,?_⟩
    ·rw[nw,show x+1 - 1=x by omega];exact hp
    ·exact q3
    ·exact q2
    ·rw[sw,show x+1 - 1=x by omega];exact q1
   ·refine(gJ hb (x+1) (y+1)).1 ⟨?_,?_,?_,?_⟩
    ·rw[sw,show x+1 - 1=x by omega,show y+1 - 1=y by omega];exact hp
    ·exact q3
    ·rw[se,show y+1 - 1=y by omega];exact q1
    ·rw[nw,show x+1 - 1=x by omega];exact q2
   ·refine(gJ hb x (y+1)).2 ⟨?_,?_,?_,?_⟩
    ·exact q3
    ·rw[se,show y+1 - 1=y by omega];exact hp
    ·exact q1
    ·rw[sw,show y+1 - 1=y by omega];exact q2
   ·refine(gJ hb x y).1 ⟨?_,?_,?_,?_⟩
    ·exact q3
    ·exact hp
    ·exact q2
    ·exact q1
theorem mP:∀{l:Cells},rising l=true↔l.Pairwise fun a b=>before a b=true
 |[]=>by simp[rising]
 |[a]=>by simp[rising]
 |a::b::r=>by
  have ih:=mP (l:=b::r);unfold rising;rw[cg,ih,gc (l:=b::r)];constructor
  ·rintro⟨h1,h2⟩;refine⟨fun x hx=>?_,h2⟩;rcases ak.mp hx with rfl|hx
   ·exact h1
   ·exact jT h1 ((gc.mp h2).1 x hx)
  ·rintro⟨h1,h2⟩;exact⟨h1 b (by simp),h2⟩
theorem gW{F:Nat->Nat->Bool}{c:Cell}:c∈aR F↔c.1<64/\c.2<64/\bZ F c.2 c.1=true:=by
 unfold aR SIDE;simp only[cj,br,ax,gu];constructor
 ·rintro⟨y,hy,⟨x,hx,rfl⟩,h⟩;exact⟨hx,hy,h⟩
 ·rintro⟨h1,h2,h3⟩;exact⟨c.2,h2,⟨c.1,h1,rfl⟩,h3⟩
theorem mJ(F:Nat->Nat->Bool):(aR F).Pairwise fun a b=>before a b=true:=by
 unfold aR;rw[List.pairwise_flatMap];refine⟨fun y _=>?_,?_⟩
 ·refine List.Pairwise.filter _ ?_;rw[ib];refine List.Pairwise.imp (fun{a b} h=>?_) List.pairwise_lt_range;rw[cS];exact .inr ⟨rfl,h⟩
 ·refine List.Pairwise.imp (fun{a b} h=>?_) List.pairwise_lt_range;intro x hx y hy;simp only[br,ax]at hx hy;obtain⟨⟨i,_,rfl⟩,_⟩:=hx;obtain⟨⟨j,_,rfl⟩,_⟩:=hy;rw[cS];exact .inl h
theorem tJ{F:Nat->Nat->Bool}{c:Cell}{r:Cells}(e:aR F=c::r):
  isHouse (aR F)=(decide ((aR F).length<=256)&& (!pinched (aR F)&& ((reach (aR F) (aR F).length [c] [c]).length==(aR F).length))):=by
 have h1:(aR F).all Roof.within=true:=fi.mpr fun x hx=>by have:=gW.mp hx;simp[Roof.within,SIDE];exact⟨decide_eq_true this.1,decide_eq_true this.2.1⟩
 have h2:=mP.mpr (mJ F);rw[e]at h1 h2 ⊢;show(decide ((c::r).length<=CELLS)&& ((c::r).all Roof.within&& (rising (c::r)&& ((reach (c::r) (c::r).length [c] [c]).length==(c::r).length&& !pinched (c::r)))))=_
 rw[h1,h2,Bool.true_and,Bool.true_and,Bool.and_comm (!pinched (c::r))];rfl
theorem zL:isHouse []=false:=rfl
def hP(r:Nat):Pl:=((iOf r:Int),(jOf r:Int))
def okR(r:Nat):Prop:=∃i j,i<128/\j<128/\r=raw i j
theorem DO{i j:Nat}(hi:i<128):iOf (raw i j)=i:=by unfold iOf raw W;omega
theorem DJ{i j:Nat}(hi:i<128):jOf (raw i j)=j:=by unfold jOf raw W;omega
theorem d4{i j:Nat}(hi:i<128):hP (raw i j)=((i:Int),(j:Int)):=by unfold hP;rw[DO hi,DJ hi]
theorem pY{r q:Nat}(hr:okR r)(hq:okR q)(e:hP r=hP q):r=q:=by
 obtain⟨i,j,hi,hj,rfl⟩:=hr;obtain⟨i',j',qz,zh,rfl⟩:=hq;rw[d4 hi,d4 qz]at e;have a:=congrArg Prod.fst e;have b:=congrArg Prod.snd e;simp at a b;have a:i=i':=by omega
 have b:j=j':=by omega
 rw[a,b]
theorem HK{r:Nat}(h:okR r):r<W*W:=by obtain⟨i,j,hi,hj,rfl⟩:=h;unfold raw W;omega
theorem K1{L:List Nat}(hL:∀q∈L,okR q){r q:Nat}(hr:okR r){dx dy:Int}(h1:-1<=dx/\dx<=1)(h2:-1<=dy/\dy<=1)(hq:(q:Int)=r+130*dy+dx):
  q∈L↔((hP r).1+dx,(hP r).2+dy)∈L.map hP:=by
 obtain⟨i,j,hi,hj,rfl⟩:=hr;rw[d4 hi];constructor
 ·intro h;refine ax.mpr ⟨q,h,?_⟩;obtain⟨i',j',qz,zh,e⟩:=hL q h;rw[e,d4 qz];unfold raw W at e hq;apply Prod.ext
  ·simp;omega
  ·simp;omega
 ·intro h;obtain⟨z,hz,e⟩:=ax.mp h;obtain⟨i',j',qz,zh,ez⟩:=hL z hz;rw[ez,d4 qz]at e;have a:=congrArg Prod.fst e;have b:=congrArg Prod.snd e;simp at a b;have:z=q:=by rw[ez];unfold raw W at hq ⊢;omega
  rw[<- this];exact hz
noncomputable def aY(h:List Nat):Nat->List Nat
 |0=>h
 |k+1=>(aY h k).filter fun r=>(about r).all fun q=>(aY h k).contains q
noncomputable def cM(p:Pl):List Pl:=[(p.1+-1,p.2+-1),(p.1+0,p.2+-1),(p.1+1,p.2+-1),(p.1+-1,p.2+0),(p.1+1,p.2+0),(p.1+-1,p.2+1),(p.1+0,p.2+1),(p.1+1,p.2+1)]
noncomputable def aO(hs:List Pl):Nat->List Pl
 |0=>hs
 |k+1=>(aO hs k).filter fun p=>(cM p).all fun q=>(aO hs k).contains q
theorem kR(h:List Nat):∀k,∀r∈aY h k,r∈h
 |0,r,hr=>hr
 |k+1,r,hr=>kR h k r (br.mp hr).1
theorem jK{h:List Nat}(hh:∀r∈h,okR r)(k:Nat):∀r∈aY h k,okR r:=fun r hr=>hh r (kR h k r hr)
theorem G1{L:List Nat}(hL:∀q∈L,okR q){r:Nat}(hr:okR r):((about r).all fun q=>L.contains q)=(cM (hP r)).all fun q=>(L.map hP).contains q:=by
 obtain⟨i,j,hi,hj,e⟩:=id hr;have key:∀{q:Nat}{dx dy:Int},(-1<=dx/\dx<=1)->(-1<=dy/\dy<=1)->((q:Int)=r+130*dy+dx)->L.contains q=(L.map hP).contains ((hP r).1+dx,(hP r).2+dy):=by intro q dx dy h1 h2 hq;rw[dh];simp only[gx];exact K1 hL hr h1 h2 hq
 have yz:131<=r:=by rw[e];unfold raw W;omega
 simp only[about,cM,all_cons,all_nil];rw[key (dx:=-1) (dy:=-1) (by omega) (by omega) (by unfold W;omega),key (dx:=0) (dy:=-1) (by omega) (by omega) (by unfold W;omega),key (dx:=1) (dy:=-1) (by omega) (by omega) (by unfold W;omega),
  key (dx:=-1) (dy:=0) (by omega) (by omega) (by omega),key (dx:=1) (dy:=0) (by omega) (by omega) (by omega),
  key (dx:=-1) (dy:=1) (by omega) (by omega) (by unfold W;omega),key (dx:=0) (dy:=1) (by omega) (by omega) (by unfold W;omega),key (dx:=1) (dy:=1) (by omega) (by omega) (by unfold W;omega)]
theorem cY{h:List Nat}(hh:∀r∈h,okR r):∀k,aO (h.map hP) k=(aY h k).map hP
 |0=>rfl
 |k+1=>by
  have ih:=cY hh k;show(aO (h.map hP) k).filter _=((aY h k).filter _).map hP
  rw[ih,List.filter_map];have e:=filter_congr (l:=aY h k) (p:=(fun p=>(cM p).all fun q=>((aY h k).map hP).contains q)∘hP) (q:=fun r=>(about r).all fun q=>(aY h k).contains q) fun r hr=>(G1 (jK hh k) (jK hh k r hr)).symm
  rw[e]
theorem mR{h:List Nat}(hh:∀r∈h,okR r):∀k,∀p∈aO (h.map hP) k,(k:Int)<=p.1/\p.1+k<=127
 |0,p,hp=>by obtain⟨r,hr,rfl⟩:=ax.mp hp;obtain⟨i,j,hi,hj,rfl⟩:=hh r hr;rw[d4 hi];simp;omega
 |k+1,p,hp=>by obtain⟨h1,h2⟩:=br.mp hp;simp only[fi,gx]at h2;have a:=mR hh k _ (h2 (p.1+-1,p.2+0) (by simp[cM]));have b:=mR hh k _ (h2 (p.1+1,p.2+0) (by simp[cM]));simp at a b;simp;omega
theorem eD{h:List Nat}(hh:∀r∈h,okR r){k:Nat}(hk:64<=k):aY h k=[]:=by
 have:=mR hh k;rw[cY hh]at this;cases e:aY h k with
 |nil=>rfl
 |cons r t=>rw[e]at this;have:=this (hP r) (by simp);omega
theorem qU{h:List Nat}{k:Nat}(e:aY h k=[]):∀m,k<=m->aY h m=[]
 |0,hm=>by
  have:k=0:=by omega
  rw[<- this];exact e
 |m+1,hm=>by
  by_cases hk:k=m+1
  ·rw[<- hk];exact e
  ·show(aY h m).filter _=[]
   rw[qU e m (by omega)];rfl
noncomputable def gv(h:List Nat):Nat->Nat->Nat
 |0,_=>0
 |k+1,r=>if r∈aY h k then k+1 else gv h k r
theorem LQ(h:List Nat):∀k r,gv h k r<=k
 |0,r=>au _
 |k+1,r=>by
  unfold gv;split
  ·exact au _
  ·exact Nat.le_succ_of_le (LQ h k r)
theorem N5{h:List Nat}{k r:Nat}:k+1<=gv h (k+1) r↔r∈aY h k:=by
 show k+1<=(if r∈aY h k then k+1 else gv h k r)↔ _
 split
 ·rename_i q;simp[q]
 ·rename_i q;have:=LQ h k r;simp[q];omega
theorem oE{h:List Nat}{k:Nat}(e:aY h k=[])(r:Nat):∀m,k<=m->gv h m r=gv h k r
 |0,hm=>by
  have:k=0:=by omega
  rw[this]
 |m+1,hm=>by
  by_cases hk:k=m+1
  ·rw[hk]
  ·show(if r∈aY h m then m+1 else gv h m r)=_
   rw[qU e m (by omega),af (by simp)];exact oE e r m (by omega)
theorem sR(k:Nat):∀(l:List Nat)(g:Grid),(put g k l).size=g.size
 |[],g=>rfl
 |r::l,g=>by
  show(put (g.setIfInBounds r k) k l).size=_
  rw[sR k l];simp
theorem wU(k:Nat):∀(l:List Nat)(g:Grid)(r:Nat),(∀x∈l,x<g.size)->(put g k l).val r=if r∈l then k else g.val r
 |[],g,r,_=>by simp[put]
 |x::l,g,r,h=>by
  show(put (g.setIfInBounds x k) k l).val r=_
  rw[wU k l _ r fun y hy=>by simpa using h y (by simp[hy])];have hx:=h x (by simp);by_cases h1:r∈l
  ·simp[h1]
  ·rw[af h1];by_cases h2:r=x
   ·subst h2;simp only[ak,true_or,if_true];simp[Grid.val,df,hx]
   ·have h3:¬r∈x::l:=by simp[h1,h2]
    rw[af h3];unfold Grid.val;simp only[df,jc];rw[af (fun e=>h2 e.symm)]
theorem yF{h:List Nat}(hh:∀r∈h,okR r):∀(f k:Nat)(g:Grid),g.size=W*W->(∀r,g.val r=gv h (k+1) r)->64<=f+k->∀r,(sink f (k+1) (aY h k) g).val r=gv h (f+k+1) r
 |0,k,g,hs,hg,hk,r=>by
  show g.val r=_
  rw[hg];simp
 |f+1,k,g,hs,hg,hk,r=>by
  have en:((aY h k).filter fun(r:Nat)=>(about r).all fun(q:Nat)=>decide (k+1<=g.val q))=aY h (k+1):=by
   show _=(aY h k).filter _
   refine filter_congr fun r hr=>?_
   congr 1;funext q;rw[dh,decide_eq_true_eq,gx,hg];exact N5
  show(if((aY h k).filter fun(r:Nat)=>(about r).all fun(q:Nat)=>decide (k+1<=g.val q)).isEmpty=true then g else sink f (k+1+1) ((aY h k).filter fun(r:Nat)=>(about r).all fun(q:Nat)=>decide (k+1<=g.val q)) (put g (k+1+1) ((aY h k).filter fun(r:Nat)=>(about r).all fun(q:Nat)=>decide (k+1<=g.val q)))).val r=_
  rw[en];by_cases he:(aY h (k+1)).isEmpty=true
  ·rw[ah he,hg];exact(oE (List.isEmpty_iff.mp he) r _ (by omega)).symm
  ·rw[af he];have lt:∀x∈aY h (k+1),x<g.size:=fun x hx=>by rw[hs];exact HK (jK hh _ x hx)
   rw[yF hh f (k+1) _ (by rw[sR,hs]) (fun x=>?_) (by omega) r]
   ·congr 1;omega
   ·rw[wU _ _ _ _ lt,hg];rfl
theorem zY{h:List Nat}(hh:∀r∈h,okR r){n:Nat}(hn:aY h n=[])(r:Nat):(gridOf h).val r=gv h n r:=by
 unfold gridOf HALVES;have e:(put (Array.replicate (W*W) 0) 1 h).size=W*W:=by rw[sR];simp
 have lt:∀x∈h,x<(Array.replicate (W*W) (0:Nat)).size:=fun x hx=>by have:=HK (hh x hx);simpa using this
 have z:∀r,Grid.val (Array.replicate (W*W) 0) r=0:=by intro r;unfold Grid.val;rw[df,Array.getElem?_replicate];split<;>rfl
 have:=yF hh 128 0 (put (Array.replicate (W*W) 0) 1 h) e (fun r=>by rw[wU _ _ _ _ lt,z];rfl) (by omega) r;show(sink 128 (0+1) (aY h 0) _).val r=_
 rw[this];have Ak:=eD hh (au 64);rw[oE Ak r _ (by omega)];by_cases hc:n<=64
 ·exact oE hn r 64 hc
 ·exact(oE Ak r n (by omega)).symm
noncomputable def gG(hs:List Pl):Nat->Pl->Int
 |0,_=>-1
 |k+1,p=>if p∈aO hs k then k else gG hs k p
theorem DU{h:List Nat}(hh:∀r∈h,okR r){r:Nat}(hr:okR r):∀k,gG (h.map hP) k (hP r)=(gv h k r:Int) - 1
 |0=>rfl
 |k+1=>by
  have ih:=DU hh hr k;have e:hP r∈aO (h.map hP) k↔r∈aY h k:=by
   rw[cY hh];constructor
   ·intro q;obtain⟨z,hz,e⟩:=ax.mp q;rw[<- pY (jK hh k z hz) hr e];exact hz
   ·exact fun q=>ax.mpr ⟨r,q,rfl⟩
  show(if hP r∈aO (h.map hP) k then(k:Int)else gG (h.map hP) k (hP r))=((if r∈aY h k then k+1 else gv h k r:Nat):Int) - 1
  by_cases q:r∈aY h k
  ·rw[ah (e.mpr q),ah q];omega
  ·rw[af (fun z=>q (e.mp z)),af q,ih]
theorem w6{h:List Nat}(hh:∀r∈h,okR r){n:Nat}(hn:aO (h.map hP) n=[]){r:Nat}(hr:okR r):gG (h.map hP) n (hP r)=((gridOf h).val r:Int) - 1:=by rw[cY hh,List.map_eq_nil_iff]at hn;rw[DU hh hr,zY hh hn]
theorem xK{h:List Nat}(hh:∀r∈h,okR r){r:Nat}:0<(gridOf h).val r↔r∈h:=by
 have Ak:=eD hh (au 64);rw[zY hh Ak];have key:∀k,0<gv h (k+1) r↔r∈h:=by
  intro k;induction k with
  |zero=>
   show 0<(if r∈h then 0+1 else 0)↔ _
   split<;>simp_all
  |succ k ih=>
   show 0<(if r∈aY h (k+1)then k+1+1 else gv h (k+1) r)↔ _
   split
   ·rename_i q;simp[kR h _ r q]
   ·exact ih
 exact key 63
theorem IJ{h:List Nat}(hh:∀r∈h,okR r){r:Nat}(hr:r∉h):(gridOf h).val r=0:=by
 have:¬0<(gridOf h).val r:=fun q=>hr ((xK hh).mp q)
 omega
noncomputable def qO(l:Cells):List Nat:=l.flatMap fun(c:Cell)=>[raw (2*c.1) (2*c.2),raw (2*c.1+1) (2*c.2),raw (2*c.1) (2*c.2+1),raw (2*c.1+1) (2*c.2+1)]
theorem mU{l:Cells}{r:Nat}:r∈halvesOf l↔r∈qO l:=by unfold halvesOf;rw[List.mem_mergeSort];rfl
theorem bD{l:Cells}(hb:∀c∈l,c.1<64/\c.2<64):∀r∈halvesOf l,okR r:=by
 intro r hr;rw[mU]at hr;obtain⟨c,hc,h⟩:=cj.mp hr;have b:=hb c hc;simp at h;rcases h with rfl|rfl|rfl|rfl
 ·exact⟨_,_,by omega,by omega,rfl⟩
 ·exact⟨_,_,by omega,by omega,rfl⟩
 ·exact⟨_,_,by omega,by omega,rfl⟩
 ·exact⟨_,_,by omega,by omega,rfl⟩
theorem yK{l:Cells}(hl:l.Nodup)(hb:∀c∈l,c.1<64/\c.2<64):(qO l).Nodup:=by
 induction l with
 |nil=>simp[qO]
 |cons c l ih=>
  obtain⟨n1,n2⟩:=dc.mp hl;have e:qO (c::l)=[raw (2*c.1) (2*c.2),raw (2*c.1+1) (2*c.2),raw (2*c.1) (2*c.2+1),raw (2*c.1+1) (2*c.2+1)]++qO l:=rfl;rw[e,cn];have b:=hb c (by simp);refine⟨?_,ih n2 fun x hx=>hb x (by simp[hx]),?_⟩
  ·simp[raw,W];omega
  ·intro a ha z hz e2;obtain⟨c',uk,h⟩:=cj.mp hz;have b':=hb c' (by simp[uk]);have:c=c':=by
    subst e2;simp[raw,W]at h ha;apply Prod.ext
    ·omega
    ·omega
   exact n1 (this▸uk)
theorem iM{l:Cells}(hl:l.Nodup)(hb:∀c∈l,c.1<64/\c.2<64):(halvesOf l).Pairwise (· < ·):=by
 have h1:(halvesOf l).Pairwise fun a b=>decide (a<=b)=true:=List.pairwise_mergeSort (le:=fun(a b:Nat)=>decide (a<=b)) (by intro a b c h1 h2;simp at*;omega) (by intro a b;simp;omega) _
 have h2:(halvesOf l).Nodup:=(List.mergeSort_perm _ _).nodup_iff.mpr (yK hl hb);have h3:(halvesOf l).Pairwise fun a b=>decide (a<=b)=true/\a≠b:=List.pairwise_and_iff.mpr ⟨h1,h2⟩
 exact h3.imp fun{a b} ⟨q1,q2⟩=>by simp at q1;omega
def sI(a b:Pl):Prop:=a.2<b.2\/(a.2=b.2/\a.1<b.1)
def dN(a b:Pl):Prop:=a.2<b.2\/(a.2=b.2/\a.1<=b.1)
theorem mM{a b:Pl}(h1:dN a b)(h2:dN b a):a=b:=by unfold dN at*;exact Prod.ext (by omega) (by omega)
theorem zX{l:Cells}(hl:l.Nodup)(hb:∀c∈l,c.1<64/\c.2<64):((halvesOf l).map hP).Pairwise dN:=by
 rw[ib];refine(iM hl hb).imp_of_mem fun{a b} ha tw h=>?_
 obtain⟨i,j,hi,hj,rfl⟩:=bD hb a ha;obtain⟨i',j',qz,zh,rfl⟩:=bD hb b tw;rw[d4 hi,d4 qz];unfold dN;unfold raw W at h;simp;omega
noncomputable def eU(cs:List Pl):List Pl:=cs.flatMap fun c=>[(2*c.1+0,2*c.2+0),(2*c.1+1,2*c.2+0),(2*c.1+0,2*c.2+1),(2*c.1+1,2*c.2+1)]
theorem vB{l:Cells}(hb:∀c∈l,c.1<64/\c.2<64):eU (iW l)=(qO l).map hP:=by
 induction l with
 |nil=>rfl
 |cons c l ih=>have b:=hb c (by simp);have e:qO (c::l)=[raw (2*c.1) (2*c.2),raw (2*c.1+1) (2*c.2),raw (2*c.1) (2*c.2+1),raw (2*c.1+1) (2*c.2+1)]++qO l:=rfl;have e2:eU (iW (c::l))=[(2*(c.1:Int)+0,2*(c.2:Int)+0),(2*(c.1:Int)+1,2*(c.2:Int)+0),(2*(c.1:Int)+0,2*(c.2:Int)+1),(2*(c.1:Int)+1,2*(c.2:Int)+1)]++eU (iW l):=rfl;rw[e,e2,ih fun x hx=>hb x (by simp[hx]),cf];congr 1;simp only[bh,iy];rw[d4 (by omega),d4 (by omega),d4 (by omega),d4 (by omega)];simp
theorem uK{l:Cells}(hl:l.Nodup)(hb:∀c∈l,c.1<64/\c.2<64){ys:List Pl}(hp:ys.Perm (eU (iW l)))(hs:ys.Pairwise dN):ys=(halvesOf l).map hP:=by refine List.Perm.eq_of_pairwise (le:=dN) (fun a b _ _=>mM) hs (zX hl hb) (hp.trans ?_);rw[vB hb];exact(List.mergeSort_perm _ _).symm.map hP
def bQ(h:List Nat)(p:Pl):Int:=if p∈h.map hP then gG (h.map hP) 64 p else -1
theorem II{h:List Nat}(hh:∀r∈h,okR r){X Y:Nat}(hX:X<=129):(((X:Int) - 1,(Y:Int) - 1)∈h.map hP)↔W*Y+X∈h:=by
 constructor
 ·intro q;obtain⟨r,hr,e⟩:=ax.mp q;obtain⟨i,j,hi,hj,rfl⟩:=hh r hr;rw[d4 hi]at e;have a:=congrArg Prod.fst e;have b:=congrArg Prod.snd e;simp at a b;have:W*Y+X=raw i j:=by unfold raw W;omega
  rw[this];exact hr
 ·intro q;refine ax.mpr ⟨_,q,?_⟩;obtain⟨i,j,hi,hj,e⟩:=hh _ q;rw[e,d4 hi];unfold raw W at e;apply Prod.ext
  ·simp;omega
  ·simp;omega
theorem oS{h:List Nat}(hh:∀r∈h,okR r){X Y:Nat}(hX:X<=129):bQ h ((X:Int) - 1,(Y:Int) - 1)=((gridOf h).val (W*Y+X):Int) - 1:=by
 unfold bQ;by_cases q:((X:Int) - 1,(Y:Int) - 1)∈h.map hP
 ·rw[ah q];have m:=(II hh hX).mp q;have o:=hh _ m;have e:hP (W*Y+X)=((X:Int) - 1,(Y:Int) - 1):=by
   obtain⟨i,j,hi,hj,e⟩:=o;rw[e,d4 hi];unfold raw W at e;apply Prod.ext
   ·simp;omega
   ·simp;omega
  rw[<- e];exact w6 hh (by rw[cY hh,eD hh (au 64)];rfl) o
 ·rw[af q,IJ hh fun m=>q ((II hh hX).mpr m)];rfl
theorem qB{h:List Nat}(hh:∀r∈h,okR r){r:Nat}(hr:r∈h):bQ h (hP r)=((gridOf h).val r:Int) - 1:=by unfold bQ;rw[ah (ax.mpr ⟨r,hr,rfl⟩)];exact w6 hh (by rw[cY hh,eD hh (au 64)];rfl) (hh r hr)
noncomputable def c7(h:List Nat)(p:Pl):List Int:=[bQ h (p.1+-1,p.2+-1)+1,bQ h (p.1+0,p.2+-1)+1,bQ h (p.1+-1,p.2+0)+1,bQ h (p.1+0,p.2+0)+1]
theorem tZ{h:List Nat}(hh:∀r∈h,okR r){X Y:Nat}(hX:X<=128):c7 h ((X:Int),(Y:Int))=
  [((gridOf h).val (W*Y+X):Int),((gridOf h).val (W*Y+X+1):Int),((gridOf h).val (W*(Y+1)+X):Int),((gridOf h).val (W*(Y+1)+X+1):Int)]:=by
 have a:=oS hh (X:=X) (Y:=Y) (by omega);have b:=oS hh (X:=X+1) (Y:=Y) (by omega);have c:=oS hh (X:=X) (Y:=Y+1) (by omega);have d:=oS hh (X:=X+1) (Y:=Y+1) (by omega);have e1:(((X+1:Nat):Int) - 1)=(X:Int)+0:=by omega
 have e2:(((Y+1:Nat):Int) - 1)=(Y:Int)+0:=by omega
 rw[e1]at b d;rw[e2]at c d;have s1:(X:Int)+-1=(X:Int) - 1:=rfl;have s2:(Y:Int)+-1=(Y:Int) - 1:=rfl;unfold c7;simp only[s1,s2];rw[a,b,c,d];simp[Nat.add_assoc]
theorem BM{a b c d:Nat}{m:Int}(hm:m∈[(a:Int),(b:Int),(c:Int),(d:Int)])(ph:∀x∈[(a:Int),(b:Int),(c:Int),(d:Int)],m<=x):m=((min (min a b) (min c d):Nat):Int):=by have h1:=ph a (by simp);have h2:=ph b (by simp);have h3:=ph c (by simp);have h4:=ph d (by simp);simp at hm;omega
theorem F6{h:List Nat}(hh:∀r∈h,okR r){X Y:Nat}(hX:X<=128){m:Int}(hm:m∈c7 h ((X:Int),(Y:Int)))(ph:∀x∈c7 h ((X:Int),(Y:Int)),m<=x):m=(heightAt (gridOf h) X Y:Int):=by rw[tZ hh hX]at hm ph;exact BM hm ph
abbrev T3:=Int×Int×Int
def tP(t:Nat):T3:=((iOf (t/4):Int),(jOf (t/4):Int),((t%4:Nat):Int))
theorem fL{h:List Nat}{t:Nat}:t∈trianglesOf h↔t/4∈h:=by
 unfold trianglesOf;rw[cj];constructor
 ·rintro⟨r,hr,q⟩;simp at q;have:t/4=r:=by omega
  rw[this];exact hr
 ·intro q;refine⟨_,q,?_⟩;simp;omega
theorem LZ{h:List Nat}(hh:∀r∈h,okR r){t u:Nat}(ht:t∈trianglesOf h)(hu:u∈trianglesOf h)(e:tP t=tP u):t=u:=by have a1:=congrArg (fun z=>z.1) e;have a2:=congrArg (fun z=>z.2.1) e;have a3:=congrArg (fun z=>z.2.2) e;simp[tP]at a1 a2 a3;have:t/4=u/4:=pY (hh _ (fL.mp ht)) (hh _ (fL.mp hu)) (by unfold hP;rw[show iOf (t/4)=iOf (u/4) by omega,show jOf (t/4)=jOf (u/4) by omega]);omega
noncomputable def aF(p:Pl)(c:Nat):Pl:=if c%4=0 then(p.1+0,p.2+0)else if c%4=1 then(p.1+1,p.2+0)else if c%4=2 then(p.1+1,p.2+1)else(p.1+0,p.2+1)
theorem gV(r c:Nat):aF (hP r) c=iP (cornerOf r c):=by
 unfold aF cornerOf hP iP;dsimp only;by_cases h0:c%4=0
 ·simp[h0]
 ·by_cases h1:c%4=1
  ·simp[h0,h1]
  ·by_cases h2:c%4=2
   ·simp[h0,h1,h2]
   ·simp[h0,h1,h2]
theorem FT{r c:Nat}(hr:okR r):(cornerOf r c).1<=128/\(cornerOf r c).2<=128:=by
 obtain⟨i,j,hi,hj,rfl⟩:=hr;unfold cornerOf;rw[DO hi,DJ hi];dsimp only;split
 ·simp;omega
 ·split
  ·simp;omega
  ·split
   ·simp;omega
   ·simp;omega
noncomputable def IS(s:Nat)(u v k:Int):Int:=if u=k/\v=k then s else if v=k then((s:Int)+1)%4 else if u=k then((s:Int)+3)%4 else((s:Int)+2)%4
theorem L0{g:Grid}{t:Nat}(hv:0<g.val (t/4)):IS (t%4) (heightOf g (t/4) (t%4):Int) (heightOf g (t/4) (t%4+1):Int) ((g.val (t/4):Int) - 1)=(facingOf g t:Int):=by
 unfold IS facingOf;dsimp only;generalize heightOf g (t/4) (t%4)=u;generalize heightOf g (t/4) (t%4+1)=v;generalize hk:g.val (t/4)=k at*;have ek:(k:Int) - 1=((k - 1:Nat):Int):=by omega
 rw[ek];generalize k - 1=m;have c1:((u:Int)=(m:Int))↔u=m:=by omega
 have c2:((v:Int)=(m:Int))↔v=m:=by omega
 simp only[c1,c2];by_cases h1:u=m<;>by_cases h2:v=m<;>simp[h1,h2]<;>omega
theorem vZ{f:Nat->Nat}:∀(l:List Nat)(a:Array Nat),(l.foldl (fun(a:Array Nat)(t:Nat)=>a.setIfInBounds t (f t)) a).size=a.size
 |[],a=>rfl
 |t::l,a=>by rw[List.foldl_cons,vZ l];simp
theorem tT{f:Nat->Nat}:∀(l:List Nat)(a:Array Nat)(t d:Nat),(∀x∈l,x<a.size)->(l.foldl (fun(a:Array Nat)(t:Nat)=>a.setIfInBounds t (f t)) a).getD t d=if t∈l then f t else a.getD t d
 |[],a,t,d,_=>by simp
 |x::l,a,t,d,h=>by
  rw[List.foldl_cons,tT l _ t d fun y hy=>by simpa using h y (by simp[hy])];have hx:=h x (by simp);by_cases h1:t∈l
  ·simp[h1]
  ·rw[af h1];by_cases h2:t=x
   ·subst h2;simp[df,hx]
   ·have h3:¬t∈x::l:=by simp[h1,h2]
    rw[af h3];simp only[df,jc];rw[af (fun e=>h2 e.symm)]
theorem AZ{h:List Nat}(hh:∀r∈h,okR r){t:Nat}(ht:t∈trianglesOf h):t<4*W*W:=by obtain⟨i,j,hi,hj,e⟩:=hh _ (fL.mp ht);unfold raw W at e;unfold W;omega
noncomputable def r9(h:List Nat):Array Nat:=(trianglesOf h).foldl (fun(a:Array Nat)(t:Nat)=>a.setIfInBounds t (facingOf (gridOf h) t)) (Array.replicate (4*W*W) 4)
noncomputable def xG(h:List Nat):Array Nat:=(trianglesOf h).foldl (fun(a:Array Nat)(t:Nat)=>a.setIfInBounds t NONE) (Array.replicate (4*W*W) 0)
theorem FK{h:List Nat}(hh:∀r∈h,okR r)(t:Nat):(r9 h).getD t 4=if t∈trianglesOf h then facingOf (gridOf h) t else 4:=by
 unfold r9;rw[tT _ _ _ _ fun x hx=>by simpa using AZ hh hx];have:(Array.replicate (4*W*W) 4).getD t 4=4:=by rw[df,Array.getElem?_replicate];split<;>rfl
 rw[this]
theorem zI{h:List Nat}(hh:∀r∈h,okR r)(t:Nat):(xG h).getD t 0=if t∈trianglesOf h then NONE else 0:=by
 unfold xG;rw[tT (f:=fun _=>NONE) _ _ _ _ fun x hx=>by simpa using AZ hh hx];have:(Array.replicate (4*W*W) 0).getD t 0=0:=by rw[df,Array.getElem?_replicate];split<;>rfl
 rw[this]
theorem F1(h:List Nat):(xG h).size=4*W*W:=by unfold xG;rw[vZ (f:=fun _=>NONE)];simp
section
variable {α:Type}
inductive Rch (ok:α->Prop) (nb:α->List α) (U:α->Prop) (t0:α):α->Prop where
 |refl:Rch ok nb U t0 t0
 |step {x u:α}:Rch ok nb U t0 x->u∈nb x->ok u->¬U u->Rch ok nb U t0 u
structure gI(ok:α->Prop)(nb:α->List α)(U:α->Prop)(t0:α)(N W:List α):Prop where
 new:∀x∈N,Rch ok nb U t0 x
 wait:∀x∈W,ok x->¬U x->Rch ok nb U t0 x
 start:t0∈N\/t0∈W
 pE:∀x∈N,∀u∈nb x,ok u->¬U u->u∈N\/u∈W
variable {ok:α->Prop}{nb:α->List α}{U:α->Prop}{t0:α}
theorem gI.first:gI ok nb U t0 [] [t0]:=⟨by simp,by intro x hx _ _;simp at hx;subst hx;exact .refl,.inr (by simp),by simp⟩
theorem gI.skip{N W W':List α}{x:α}(h:gI ok nb U t0 N W)(o0:ok t0)(u0:¬U t0)(h1:∀y∈W',y∈W)(h2:∀y∈W,y∈W'\/y=x)(hx:¬ok x\/U x\/x∈N):gI ok nb U t0 N W':=by
 have drop:∀y,ok y->¬U y->(y∈N\/y∈W)->y∈N\/y∈W':=by
  intro y oy uy hy;rcases hy with hy|hy
  ·exact .inl hy
  ·rcases h2 y hy with hy|rfl
   ·exact .inr hy
   ·rcases hx with hx|hx|hx
    ·exact absurd oy hx
    ·exact absurd hx uy
    ·exact .inl hx
 exact⟨h.new,fun y hy=>h.wait y (h1 y hy),drop t0 o0 u0 h.start,fun y hy u hu ou uu=>drop u ou uu (h.pE y hy u hu ou uu)⟩
theorem gI.take{N W W':List α}{x:α}(h:gI ok nb U t0 N W)(hx:x∈W)(ox:ok x)(ux:¬U x)(h1:∀y∈W',y∈W\/y∈nb x)(h2:∀y∈W,y∈W'\/y=x)(h3:∀u∈nb x,ok u->¬U u->u∈W'):gI ok nb U t0 (x::N) W':=by
 have rx:=h.wait x hx ox ux;have Bg:∀y,(y∈N\/y∈W)->y∈x::N\/y∈W':=by
  intro y hy;rcases hy with hy|hy
  ·exact .inl (by simp[hy])
  ·rcases h2 y hy with hy|rfl
   ·exact .inr hy
   ·exact .inl (by simp)
 refine⟨?_,?_,Bg t0 h.start,?_⟩
 ·intro y hy;rcases ak.mp hy with rfl|hy
  ·exact rx
  ·exact h.new y hy
 ·intro y hy oy uy;rcases h1 y hy with q|q
  ·exact h.wait y q oy uy
  ·exact .step rx q oy uy
 ·intro y hy u hu ou uu;rcases ak.mp hy with rfl|hy
  ·exact .inr (h3 u hu ou uu)
  ·exact Bg u (h.pE y hy u hu ou uu)
theorem gI.done{N:List α}(h:gI ok nb U t0 N [])(x:α):x∈N↔Rch ok nb U t0 x:=by
 constructor
 ·exact h.new x
 ·intro r;induction r with
  |refl=>
       rcases h.start with q|q
       ·exact q
       ·simp at q
  |step _ hu ou uu ih=>
              rcases h.pE _ ih _ hu ou uu with q|q
              ·exact q
              ·simp at q
theorem Rch.ok'{x:α}(h:Rch ok nb U t0 x)(o0:ok t0)(u0:¬U t0):ok x/\¬U x:=by
 cases h with
 |refl=>exact⟨o0,u0⟩
 |step _ _ ou uu=>exact⟨ou,uu⟩
end
def okN(fac:Array Nat)(t0:Nat)(u:Nat):Prop:=fac.getD u 4=fac.getD t0 4
def isU(lab:Array Nat)(u:Nat):Prop:=lab.getD u 0≠NONE
theorem l8{fac labU:Array Nat}{n t0:Nat}{ts:List Nat}(hn:n≠NONE)(yw:∀u,¬isU labU u->u∈ts)(hsz:∀u∈ts,u<labU.size)(o0:¬isU labU t0):
  ∀(f:Nat)(stack N:List Nat)(lab:Array Nat),lab.size=labU.size->(∀t,lab.getD t 0=if t∈N then n else labU.getD t 0)->gI (okN fac t0) besideOf (isU labU) t0 N stack->N.Nodup->(∀x∈N,x∈ts/\¬isU labU x)->(∀x∈stack,okN fac t0 x) ->
   stack.length+3*(ts.length - N.length)<=f->∃N':List Nat,(∀t,(fill fac n f stack lab).getD t 0=if t∈N' then n else labU.getD t 0)/\(fill fac n f stack lab).size=labU.size/\∀x,x∈N'↔Rch (okN fac t0) besideOf (isU labU) t0 x
 |0,stack,N,lab,hs,hl,S,nd,hN,ho,hf=>by have:stack=[]:=List.length_eq_zero_iff.mp (by omega);subst this;exact⟨N,hl,hs,S.done⟩
 |f+1,[],N,lab,hs,hl,S,nd,hN,ho,hf=>⟨N,hl,hs,S.done⟩
 |f+1,t::r,N,lab,hs,hl,S,nd,hN,ho,hf=>by
  have eF:fill fac n (f+1) (t::r) lab=if lab.getD t 0≠NONE then fill fac n f r lab else fill fac n f (((besideOf t).filter fun(u:Nat)=>fac.getD u 4==fac.getD t 4)++r) (lab.setIfInBounds t n):=rfl
  rw[eF];by_cases hc:lab.getD t 0≠NONE
  ·rw[ah hc];refine l8 hn yw hsz o0 f r N lab hs hl (S.skip (x:=t) rfl o0 (fun y hy=>by simp[hy]) (fun y hy=>by simp at hy;exact hy.symm) ?_) nd hN (fun x hx=>ho x (by simp[hx])) (by simp at hf;omega);rw[hl t]at hc;by_cases hm:t∈N
   ·exact .inr (.inr hm)
   ·rw[af hm]at hc;exact .inr (.inl hc)
  ·rw[af hc];have hc:lab.getD t 0=NONE:=Classical.byContradiction hc;have htN:t∉N:=by intro q;rw[hl t,ah q]at hc;exact hn hc
   have hU:¬isU labU t:=by rw[hl t,af htN]at hc;exact fun q=>q hc
   have htt:t∈ts:=yw t hU;have jr:t<lab.size:=by rw[hs];exact hsz t htt
   have zw:=ho t (by simp);have nd':(t::N).Nodup:=dc.mpr ⟨htN,nd⟩;have Cv:∀x∈t::N,x∈ts/\¬isU labU x:=by
    intro x hx;rcases ak.mp hx with rfl|hx
    ·exact⟨htt,hU⟩
    ·exact hN x hx
   have len:=bX nd' fun x hx=>(Cv x hx).1
   refine l8 hn yw hsz o0 f _ (t::N) (lab.setIfInBounds t n) (by simpa using hs) (fun u=>?_) (S.take (x:=t) (by simp) zw hU ?_ ?_ ?_) nd' Cv ?_ ?_
   ·by_cases hu:u=t
    ·subst hu;simp[df,jr]
    ·have e:(lab.setIfInBounds t n).getD u 0=lab.getD u 0:=by simp only[df,jc];rw[af (fun e=>hu e.symm)]
     rw[e,hl u];simp[hu]
   ·intro y hy;rcases aw.mp hy with hy|hy
    ·exact .inr (br.mp hy).1
    ·exact .inl (by simp[hy])
   ·intro y hy;simp at hy;rcases hy with rfl|hy
    ·exact .inr rfl
    ·exact .inl (by simp[hy])
   ·intro u hu ou uu;refine cc _ (br.mpr ⟨hu,?_⟩);have:fac.getD u 4=fac.getD t 4:=by have h1:fac.getD u 4=fac.getD t0 4:=ou;have h2:fac.getD t 4=fac.getD t0 4:=zw;rw[h1,h2]
    simp[this]
   ·intro x hx;rcases aw.mp hx with hx|hx
    ·have q:=(br.mp hx).2;have q:fac.getD x 4=fac.getD t 4:=by simpa using q
     have h2:fac.getD t 4=fac.getD t0 4:=zw;show fac.getD x 4=_
     rw[q,h2]
    ·exact ho x (by simp[hx])
   ·have:((besideOf t).filter fun(u:Nat)=>fac.getD u 4==fac.getD t 4).length<=3:=by refine de (dk _ _) ?_;simp[besideOf]
    simp only[aj,bo]at hf len ⊢;omega
theorem FI{fac labU:Array Nat}{n t0:Nat}{ts:List Nat}(hn:n≠NONE)(yw:∀u,¬isU labU u->u∈ts)(hsz:∀u∈ts,u<labU.size)(o0:¬isU labU t0):
  ∃N':List Nat,(∀t,(fill fac n (4*ts.length+4) [t0] labU).getD t 0=if t∈N' then n else labU.getD t 0)/\(fill fac n (4*ts.length+4) [t0] labU).size=labU.size/\∀x,x∈N'↔Rch (okN fac t0) besideOf (isU labU) t0 x:=
 l8 hn yw hsz o0 _ [t0] [] labU rfl (fun t=>by simp) gI.first (by simp) (by simp) (by intro x hx;simp at hx;subst hx;rfl) (by simp;omega)
noncomputable def nbP(p:T3):List T3:=[(p.1,p.2.1,(p.2.2+1)%4),(p.1,p.2.1,(p.2.2+3)%4),((aI (p.1,p.2.1) p.2.2.toNat).1,(aI (p.1,p.2.1) p.2.2.toNat).2,(p.2.2+2)%4)]
theorem J1{h:List Nat}(hh:∀r∈h,okR r){r q s:Nat}(hr:okR r)(hq:okR q)(hs:s<4):hP q=aI (hP r) s↔q=beyond r s:=by
 obtain⟨i,j,hi,hj,rfl⟩:=hr;obtain⟨i',j',qz,zh,rfl⟩:=hq;rw[d4 hi,d4 qz];have cs:s=0\/s=1\/s=2\/s=3:=by omega
 rcases cs with rfl|rfl|rfl|rfl<;>simp[aI,beyond,raw,W,Prod.ext_iff]<;>omega
theorem SG{h:List Nat}(hh:∀r∈h,okR r){t u:Nat}(ht:t∈trianglesOf h)(hu:u∈trianglesOf h):tP u∈nbP (tP t)↔u∈besideOf t:=by
 have zw:=hh _ (fL.mp ht);have oku:=hh _ (fL.mp hu);have hs:t%4<4:=by omega
 have B:=J1 hh zw oku hs;have own:∀k:Nat,k<4->(tP u=((tP t).1,(tP t).2.1,(k:Int))↔u=4*(t/4)+k):=by
  intro k hk;constructor
  ·intro e;have a1:=congrArg (fun z=>z.1) e;have a2:=congrArg (fun z=>z.2.1) e;have a3:=congrArg (fun z=>z.2.2) e;simp[tP]at a1 a2 a3;have:u/4=t/4:=pY oku zw (by unfold hP;rw[show iOf (u/4)=iOf (t/4) by omega,show jOf (u/4)=jOf (t/4) by omega]);omega
  ·intro e;have e1:u/4=t/4:=by omega
   have e2:u%4=k:=by omega
   unfold tP;rw[e1,e2]
 have e1:((tP t).2.2+1)%4=(((t%4+1)%4:Nat):Int):=by simp[tP]
 have e3:((tP t).2.2+3)%4=(((t%4+3)%4:Nat):Int):=by simp[tP]
 have e2:((tP t).2.2+2)%4=(((t%4+2)%4:Nat):Int):=by simp[tP]
 have es:(tP t).2.2.toNat=t%4:=by simp only[tP];omega
 have eh:((tP t).1,(tP t).2.1)=hP (t/4):=rfl;unfold nbP besideOf;dsimp only;rw[e1,e3,e2,es,eh];simp only[ak,dq,or_false];rw[own _ (by omega),own _ (by omega)];have across:tP u=((aI (hP (t/4)) (t%4)).1,(aI (hP (t/4)) (t%4)).2,(((t%4+2)%4:Nat):Int))↔u=4*beyond (t/4) (t%4)+(t%4+2)%4:=by
  constructor
  ·intro e;have a1:=congrArg (fun z=>(z.1,z.2.1)) e;have a3:=congrArg (fun z=>z.2.2) e;have:hP (u/4)=aI (hP (t/4)) (t%4):=a1;have q:=B.mp this;simp[tP]at a3;omega
  ·intro e;have q:u/4=beyond (t/4) (t%4):=by omega
   have r:=B.mpr q;have:u%4=(t%4+2)%4:=by omega
   unfold tP;rw[this];have a:=congrArg Prod.fst r;have b:=congrArg Prod.snd r;unfold hP at a b;rw[show(iOf (u/4):Int)=_ from a,show(jOf (u/4):Int)=_ from b];rfl
 rw[across]
structure lM(h:List Nat)(jv:T3->Option Int)(lab:Array Nat):Prop where
 ins:∀t∈trianglesOf h,jv (tP t)=if lab.getD t 0=NONE then none else some (lab.getD t 0:Int)
 out:∀p,p∉ (trianglesOf h).map tP->jv p=none
 lo:∀t,t∉trianglesOf h->lab.getD t 0≠NONE
 size:lab.size=4*W*W
def okT(fac:T3->Option Int)(p0 p:T3):Prop:=fac p=fac p0
def isN(jv:T3->Option Int)(p:T3):Prop:=(jv p).isSome=true
theorem GR{h:List Nat}(hh:∀r∈h,okR r){fac:Array Nat}{jx jv:T3->Option Int}{lab:Array Nat}(hf:∀t∈trianglesOf h,jx (tP t)=some (fac.getD t 4:Int))(zl:∀p,p∉ (trianglesOf h).map tP->jx p=none)
  (R:lM h jv lab) {t0:Nat} (h0:t0∈trianglesOf h):(∀t∈trianglesOf h,Rch (okT jx (tP t0)) nbP (isN jv) (tP t0) (tP t)↔Rch (okN fac t0) besideOf (isU lab) t0 t)/\∀p,Rch (okT jx (tP t0)) nbP (isN jv) (tP t0) p->p∈(trianglesOf h).map tP:=by
 have key:∀p,Rch (okT jx (tP t0)) nbP (isN jv) (tP t0) p->∃t∈trianglesOf h,p=tP t/\Rch (okN fac t0) besideOf (isU lab) t0 t:=by
  intro p r;induction r with
  |refl=>exact⟨t0,h0,rfl,.refl⟩
  | @step x u _ hu ou uu ih=>
   obtain⟨t,ht,rfl,rt⟩:=ih;have hm:u∈(trianglesOf h).map tP:=by apply Classical.byContradiction;intro q;have h1:=zl u q;have h2:jx u=jx (tP t0):=ou;rw[h1,hf t0 h0]at h2;cases h2
   obtain⟨v,hv,rfl⟩:=ax.mp hm;refine⟨v,hv,rfl,.step rt ((SG hh ht hv).mp hu) ?_ ?_⟩
   ·have h2:jx (tP v)=jx (tP t0):=ou;rw[hf v hv,hf t0 h0]at h2;have:=Option.some.inj h2;show fac.getD v 4=fac.getD t0 4
    omega
   ·intro q;refine uu ?_;show(jv (tP v)).isSome=true
    rw[R.ins v hv,af q];rfl
 refine⟨fun t ht=>⟨fun r=>?_,fun r=>?_⟩,fun p r=>?_⟩
 ·obtain⟨v,hv,e,rv⟩:=key _ r;rw[LZ hh ht hv e];exact rv
 ·have mem:∀x,Rch (okN fac t0) besideOf (isU lab) t0 x->x∈trianglesOf h/\Rch (okT jx (tP t0)) nbP (isN jv) (tP t0) (tP x):=by
   intro x r;induction r with
   |refl=>exact⟨h0,.refl⟩
   | @step x u _ hu ou uu ih=>
    obtain⟨hx,rx⟩:=ih;have ue:u∈trianglesOf h:=by apply Classical.byContradiction;intro q;exact uu (R.lo u q)
    refine⟨ue,.step rx ((SG hh hx ue).mpr hu) ?_ ?_⟩
    ·show jx (tP u)=jx (tP t0)
     rw[hf u ue,hf t0 h0];have:fac.getD u 4=fac.getD t0 4:=ou;rw[this]
    ·intro q;have q:(jv (tP u)).isSome=true:=q;rw[R.ins u ue]at q;by_cases e:lab.getD u 0=NONE
     ·rw[ah e]at q;cases q
     ·exact uu e
  exact(mem t r).2
 ·obtain⟨v,hv,e,_⟩:=key _ r;rw[e];exact ax.mpr ⟨v,hv,rfl⟩
theorem lM.face{h:List Nat}(hh:∀r∈h,okR r){fac:Array Nat}{jx jv Bb:T3->Option Int}{lab:Array Nat}(hf:∀t∈trianglesOf h,jx (tP t)=some (fac.getD t 4:Int))(zl:∀p,p∉ (trianglesOf h).map tP->jx p=none)
  (R:lM h jv lab) {t0 n:Nat} (h0:t0∈trianglesOf h) (hn:n<NONE) (hl:lab.getD t0 0=NONE) {N:List T3} (hN:∀p,p∈N↔Rch (okT jx (tP t0)) nbP (isN jv) (tP t0) p) (Bx:∀p,Bb p=if p∈N then some (n:Int)else jv p):
  lM h Bb (fill fac n (4*(trianglesOf h).length+4) [t0] lab):=by
 obtain⟨S1,S2⟩:=GR hh hf zl R h0;have yw:∀u,¬isU lab u->u∈trianglesOf h:=fun u q=>Classical.byContradiction fun z=>q (R.lo u z)
 obtain⟨N',f1,f2,f3⟩:=FI (fac:=fac) (labU:=lab) (n:=n) (t0:=t0) (ts:=trianglesOf h) (by omega) yw (fun u hu=>by rw[R.size];exact AZ hh hu) (fun q=>q hl);refine⟨fun t ht=>?_,fun p hp=>?_,fun t ht=>?_,by rw[f2,R.size]⟩
 ·have e:tP t∈N↔t∈N':=by rw[hN,f3,S1 t ht]
  rw[Bx,f1];by_cases q:t∈N'
  ·rw[ah (e.mpr q),ah q,af (by omega)]
  ·rw[af (fun z=>q (e.mp z)),af q];exact R.ins t ht
 ·rw[Bx,af (fun z=>hp (S2 p ((hN p).mp z)))];exact R.out p hp
 ·rw[f1];split
  ·omega
  ·exact R.lo t ht
theorem lM.start{h:List Nat}(hh:∀r∈h,okR r):lM h (fun _=>none) (xG h):=by
 refine⟨fun t ht=>?_,fun _ _=>rfl,fun t ht=>?_,F1 h⟩
 ·rw[zI hh,ah ht,ah rfl]
 ·rw[zI hh,af ht];decide
section
variable {κ β:Type} [DecidableEq κ]
noncomputable def aN(l:List (κ×β))(k:κ):Option β:=(l.find? fun x=>decide (x.1=k)).map (·.2)
noncomputable def d5(l:List (κ×β))(k:κ)(v:β):List (κ×β):=
 if(l.any fun x=>decide (x.1=k))=true then l.map (fun x=>if x.1=k then(x.1,v)else x)else l++[(k,v)]
theorem jB{k:κ}:aN ([]:List (κ×β)) k=none:=rfl
theorem cI{x:κ×β}{r:List (κ×β)}{k:κ}:aN (x::r) k=if x.1=k then some x.2 else aN r k:=by
 unfold aN;by_cases e:x.1=k
 ·simp[e]
 ·simp[e]
theorem aV(k:κ):∀l:List (κ×β),(aN l k).isSome=true↔k∈l.map (·.1)
 |[]=>by simp[jB]
 |x::r=>by
  rw[cI,bh,ak];by_cases e:x.1=k
  ·rw[ah e];simp[e]
  ·rw[af e,aV k r];constructor
   ·exact .inr
   ·rintro(h|h)
    ·exact absurd h.symm e
    ·exact h
theorem m9{l:List (κ×β)}{k:κ}:aN l k=none↔k∉l.map (·.1):=by rw[<- aV];cases aN l k<;>simp
theorem rP{l:List (κ×β)}{k:κ}:(l.any fun x=>decide (x.1=k))=true↔k∈l.map (·.1):=by simp[fb]
theorem fR{l:List (κ×β)}{k:κ}(v:β)(h:k∉l.map (·.1)):d5 l k v=l++[(k,v)]:=by unfold d5;rw[af (fun z=>h (rP.mp z))]
theorem uQ{l:List (κ×β)}{k:κ}(v:β)(h:k∈l.map (·.1)):(d5 l k v).map (·.1)=l.map (·.1):=by unfold d5;rw[ah (rP.mpr h),fh];apply dt;intro x _;simp only[Function.comp];split<;>rfl
theorem wI{l:List (κ×β)}{k:κ}(v:β):(d5 l k v).map (·.1)=if k∈l.map (·.1)then l.map (·.1)else l.map (·.1)++[k]:=by
 by_cases h:k∈l.map (·.1)
 ·rw[ah h,uQ v h]
 ·rw[af h,fR v h];simp
theorem u6{l:List (κ×β)}{k:κ}{v:β}(h:(l.map (·.1)).Nodup):((d5 l k v).map (·.1)).Nodup:=by
 rw[wI];split
 ·exact h
 ·rename_i hk;rw[cn];exact⟨h,by simp,fun a ha b hb e=>hk (by simp at hb;rw[<- hb,<- e];exact ha)⟩
theorem AJ(k j:κ)(y:β):∀l:List (κ×β),aN (l.map fun x=>if x.1=k then(x.1,y)else x) j=if j=k then(aN l j).map (fun _=>y)else aN l j
 |[]=>by simp[jB]
 |x::r=>by
  rw[bh,cI,cI,AJ k j y r];by_cases e:x.1=k
  ·rw[ah e];by_cases e2:x.1=j
   ·rw[ah e2,ah e2,ah (e2▸e:j=k)];rfl
   ·rw[af e2,af e2]
  ·rw[af e];by_cases e2:x.1=j
   ·rw[ah e2,af (show¬j=k by intro z;exact e (e2.trans z)),ah e2]
   ·rw[af e2,af e2]
theorem wJ(k j:κ)(y:β):∀l:List (κ×β),k∉l.map (·.1)->aN (l++[(k,y)]) j=if j=k then some y else aN l j
 |[],_=>by
  rw[nil_append,cI];by_cases e:j=k
  ·rw[ah e,ah e.symm]
  ·rw[af e,af (Ne.symm e)]
 |x::r,h=>by
  rw[cons_append,cI,cI,wJ k j y r (fun z=>h (by rw[bh];exact ar _ z))];by_cases e2:x.1=j
  ·rw[ah e2,ah e2,af];intro z;exact h (by rw[bh,ak];exact .inl (by rw[e2,z]))
  ·rw[af e2,af e2]
theorem lH(l:List (κ×β))(k j:κ)(y:β):aN (d5 l k y) j=if j=k then some y else aN l j:=by
 by_cases h:k∈l.map (·.1)
 ·unfold d5;rw[ah (rP.mpr h),AJ];by_cases e:j=k
  ·subst e;rw[ah rfl,ah rfl];have:=(aV j l).mpr h;cases q:aN l j with
   |none=>rw[q]at this;cases this
   |some z=>rfl
  ·rw[af e,af e]
 ·rw[fR y h,wJ k j y l h]
noncomputable def cN(l:List (κ×β))(ps:List (κ×β)):List (κ×β):=ps.foldl (fun a p=>d5 a p.1 p.2) l
theorem rE:∀(ps l:List (κ×β)),(l.map (·.1)).Nodup->((cN l ps).map (·.1)).Nodup
 |[],_,h=>h
 |p::r,l,h=>rE r (d5 l p.1 p.2) (u6 h)
theorem xY(l a b:List (κ×β)):cN l (a++b)=cN (cN l a) b:=by simp[cN]
theorem iB(l:List (κ×β))(k:κ)(v:β):(d5 l k v).length<=l.length+1:=by unfold d5;split<;>simp
theorem gH:∀(ps l:List (κ×β)),(cN l ps).length<=l.length+ps.length
 |[],l=>by simp[cN]
 |p::r,l=>by
  have h1:=gH r (d5 l p.1 p.2);have h2:=iB l p.1 p.2;show(cN (d5 l p.1 p.2) r).length<=_
  simp only[bo];omega
theorem wK:∀(ps l:List (κ×β)),(∀p∈ps,∀q∈ps,p.1=q.1->p.2=q.2)->(∀p∈ps,∀v,aN l p.1=some v->v=p.2)->∀k v,aN (cN l ps) k=some v↔aN l k=some v\/(k,v)∈ps
 |[],l,_,_=>by intro k v;simp[cN]
 |p::r,l,h,h2=>by
  intro k v;have hp:∀q∈r,∀v,aN (d5 l p.1 p.2) q.1=some v->v=q.2:=by
   intro q hq v e;rw[lH]at e;by_cases z:q.1=p.1
   ·rw[ah z]at e;cases e;exact h p (by simp) q (by simp[hq]) z.symm
   ·rw[af z]at e;exact h2 q (by simp[hq]) v e
  show aN (cN (d5 l p.1 p.2) r) k=some v↔ _
  rw[wK r _ (fun a ha b hb=>h a (by simp[ha]) b (by simp[hb])) hp k v,lH];by_cases z:k=p.1
  ·rw[ah z];constructor
   ·rintro(e|e)
    ·cases e;exact .inr (by rw[z];simp)
    ·exact .inr (by simp[e])
   ·rintro(e|e)
    ·have:=h2 p (by simp) v (z▸e);exact .inl (by rw[this])
    ·rcases ak.mp e with e|e
     ·rw[<- e];exact .inl rfl
     ·exact .inr e
  ·rw[af z];constructor
   ·rintro(e|e)
    ·exact .inl e
    ·exact .inr (by simp[e])
   ·rintro(e|e)
    ·exact .inl e
    ·rcases ak.mp e with e|e
     ·exact absurd (show k=p.1 by rw[<- e]) z
     ·exact .inr e
end
def hdg(d:Nat):Int:=((d:Int)+1)%4
noncomputable def eJ(cs:List Pl)(c:Pl):List (Pl×Int):=([0,1,2,3].filter fun(s:Nat)=>!decide (aI c s∈cs)).map fun s=>(aF c s,hdg s)
def fN(cs:List Pl):List (Pl×Int):=cs.flatMap (eJ cs)
def d3(cs:List Pl):List (Pl×Int):=cN [] (fN cs)
theorem uJ{l:Cells}{p:Pl}{h:Int}:(p,h)∈fN (iW l)↔∃d,d<4/\aW l p.1 p.2 d=true/\h=hdg d:=by
 unfold fN eJ;rw[cj];constructor
 ·rintro⟨c,hc,hm⟩;obtain⟨s,hs,e⟩:=ax.mp hm;rw[br]at hs;obtain⟨hs,hn⟩:=hs;obtain⟨x,y⟩:=c;have uk:inI l x y=true:=mQ.mp hc;have cs:s=0\/s=1\/s=2\/s=3:=by simpa using hs
  have tm:inI l (aI (x,y) s).1 (aI (x,y) s).2=false:=by rw[<- jS];simpa using hn
  cases e;refine⟨s,by omega,?_,rfl⟩;rcases cs with rfl|rfl|rfl|rfl
  ·simp[aW,aF,ne,se,aI]at tm ⊢;exact⟨uk,tm⟩
  ·simp[aW,aF,ne,nw,aI]at tm ⊢;exact⟨uk,tm⟩
  ·simp[aW,aF,sw,nw,aI]at tm ⊢;exact⟨uk,tm⟩
  ·simp[aW,aF,se,sw,aI]at tm ⊢;exact⟨uk,tm⟩
 ·rintro⟨d,hd,w,rfl⟩;obtain⟨X,Y⟩:=p;have cd:d=0\/d=1\/d=2\/d=3:=by omega
  rcases cd with rfl|rfl|rfl|rfl
  ·simp[aW,ne,se]at w;refine⟨(X,Y),mQ.mpr w.1,ax.mpr ⟨0,?_,by simp[aF]⟩⟩;rw[br];refine⟨by simp,?_⟩;show(!decide (((X,Y - 1):Pl)∈iW l))=true
   rw[jS,w.2];rfl
  ·simp[aW,nw,ne]at w;refine⟨(X - 1,Y),mQ.mpr w.1,ax.mpr ⟨1,?_,?_⟩⟩
   ·rw[br];refine⟨by simp,?_⟩;show(!decide (((X - 1+1,Y):Pl)∈iW l))=true
    rw[jS,show X - 1+1=X by omega,w.2];rfl
   ·simp[aF]
  ·simp[aW,sw,nw]at w;refine⟨(X - 1,Y - 1),mQ.mpr w.1,ax.mpr ⟨2,?_,?_⟩⟩
   ·rw[br];refine⟨by simp,?_⟩;show(!decide (((X - 1,Y - 1+1):Pl)∈iW l))=true
    rw[jS,show Y - 1+1=Y by omega,w.2];rfl
   ·simp[aF]
  ·simp[aW,se,sw]at w;refine⟨(X,Y - 1),mQ.mpr w.1,ax.mpr ⟨3,?_,?_⟩⟩
   ·rw[br];refine⟨by simp,?_⟩;show(!decide (((X - 1,Y - 1):Pl)∈iW l))=true
    rw[jS,w.2];rfl
   ·simp[aF]
theorem KO{d e:Nat}(hd:d<4)(he:e<4)(h:hdg d=hdg e):d=e:=by unfold hdg at h;omega
theorem G5{l:Cells}{X Y:Int}{d:Nat}(hd:d<4)(h:aW l X Y d=true):0<=X/\0<=Y:=by
 have cd:d=0\/d=1\/d=2\/d=3:=by omega
 rcases cd with rfl|rfl|rfl|rfl
 ·simp[aW,ne]at h;have:=bR h.1;omega
 ·simp[aW,nw]at h;have:=bR h.1;omega
 ·simp[aW,sw]at h;have:=bR h.1;omega
 ·simp[aW,se]at h;have:=bR h.1;omega
theorem jN{l:Cells}(hp:pinched l=false){p:Pl}{h:Int}:(p,h)∈fN (iW l)↔∃q d,p=iP q/\outOf l q=some d/\h=hdg d:=by
 rw[uJ];constructor
 ·rintro⟨d,hd,w,rfl⟩;obtain⟨X,Y⟩:=p;have:=G5 hd w;refine⟨(X.toNat,Y.toNat),d,?_,yW hp hd ?_,rfl⟩
  ·simp[iP];omega
  ·rw[eO];simp only;rw[show((X.toNat:Nat):Int)=X by omega,show((Y.toNat:Nat):Int)=Y by omega];exact w
 ·rintro⟨q,d,rfl,ho,rfl⟩;obtain⟨hd,w⟩:=bC ho;rw[eO]at w;exact⟨d,hd,w,rfl⟩
theorem pX{l:Cells}(hp:pinched l=false)(p:Pl)(h:Int):aN (d3 (iW l)) p=some h↔∃q d,p=iP q/\outOf l q=some d/\h=hdg d:=by
 unfold d3;rw[wK _ _ ?_ (by intro p _ v e;cases e) p h,jN hp]
 ·simp[jB]
 ·intro a ha b hb e;obtain⟨q,d,e1,o1,e2⟩:=(jN hp).mp ha;obtain⟨q',d',e1',o1',e2'⟩:=(jN hp).mp hb;have:q=q':=fW (by rw[<- e1,<- e1',e]);subst this;rw[o1]at o1';cases o1';rw[e2,e2']
theorem zU(cs:List Pl):((d3 cs).map (·.1)).Nodup:=rE _ _ (by simp)
theorem pW{l:Cells}(hp:pinched l=false)(p:Pl):p∈(d3 (iW l)).map (·.1)↔∃q d,p=iP q/\outOf l q=some d:=by
 rw[<- aV];constructor
 ·intro h;cases e:aN (d3 (iW l)) p with
  |none=>rw[e]at h;cases h
  |some v=>obtain⟨q,d,h1,h2,_⟩:=(pX hp p v).mp e;exact⟨q,d,h1,h2⟩
 ·rintro⟨q,d,h1,h2⟩;rw[(pX hp p (hdg d)).mpr ⟨q,d,h1,h2,rfl⟩];rfl
theorem rH(cs:List Pl):(fN cs).length<=4*cs.length:=by
 unfold fN;have:∀(l:List Pl),(l.flatMap (eJ cs)).length<=4*l.length:=by
  intro l;induction l with
  |nil=>simp
  |cons c r ih=>
   rw[gb,aj,bo];have:(eJ cs c).length<=4:=by unfold eJ;rw[ai];exact de (dk _ _) (by simp)
   omega
 exact this cs
theorem oA(cs:List Pl):(d3 cs).length<=4*cs.length:=by have h1:=gH (fN cs) [];have h2:=rH cs;unfold d3;simp at h1;omega
inductive mK (hd:Pl->Option Int):Pl->List (Pl×Int)->Pl->Prop where
 |nil (p:Pl):mK hd p [] p
 |cons {p q:Pl}{h:Int}{r:List (Pl×Int)}:hd p=some h->0<=h->h<4->mK hd (aI p h.toNat) r q->mK hd p ((p,h)::r) q
noncomputable def bJ:Option Int->List (Pl×Int)->List Pl
 |_,[]=>[]
 |came,(p,h)::r=>if some h=came then bJ (some h) r else p::bJ (some h) r
def iF(x:Foot):Pl×Int:=(iP x.1,hdg x.2)
theorem GG{l:Cells}{p:Point}{d:Nat}(h:outOf l p=some d):aI (iP p) (hdg d).toNat=iP (stepped p d):=by
 obtain⟨hd,_⟩:=bC h;obtain⟨b2,b3⟩:=jG h;have cd:d=0\/d=1\/d=2\/d=3:=by omega
 rcases cd with rfl|rfl|rfl|rfl
 ·simp[aI,hdg,iP,stepped]
 ·simp[aI,hdg,iP,stepped]
 ·simp[aI,hdg,iP,stepped];have:=b2 rfl;omega
 ·simp[aI,hdg,iP,stepped];have:=b3 rfl;omega
theorem G3{l:Cells}(hp:pinched l=false){p q:Point}{f:List Foot}(h:Way l p f q):mK (aN (d3 (iW l))) (iP p) (f.map iF) (iP q):=by
 induction h with
 |nil p=>exact .nil _
 | @cons p q d r ho _ ih=>
  rw[bh];refine .cons ((pX hp _ _).mpr ⟨p,d,rfl,ho,rfl⟩) ?_ ?_ ?_
  ·unfold hdg;omega
  ·unfold hdg;omega
  ·rw[GG ho];exact ih
theorem mH:∀(r:List Foot)(d:Nat),d<4->(∀x∈r,x.2<4)->bJ (some (hdg d)) (r.map iF)=iW (turns d r)
 |[],d,_,_=>rfl
 |x::r,d,hd,hr=>by
  have hx:=hr x (by simp);rw[bh];show(if some (hdg x.2)=some (hdg d)then bJ (some (hdg x.2)) (r.map iF)else iP x.1::bJ (some (hdg x.2)) (r.map iF))=iW (if x.2=d then turns x.2 r else x.1::turns x.2 r)
  rw[mH r x.2 hx (fun y hy=>hr y (by simp[hy]))];by_cases e:x.2=d
  ·rw[ah (by rw[e]),ah e]
  ·rw[af (fun z=>e (KO hx hd (Option.some.inj z))),af e];rfl
def c9(l:Cells):List Point:=(pointsOf l).filter fun p=>(outOf l p).isSome
theorem dE(l:Cells):∀(uz seen:List Point),walksFrom l seen uz=walksFrom l seen (uz.filter fun p=>(outOf l p).isSome)
 |[],seen=>rfl
 |p::r,seen=>by
  cases ho:outOf l p with
  |none=>
   rw[List.filter_cons_of_neg (by simp[ho])];have e:walksFrom l seen (p::r)=walksFrom l seen r:=by
    show(if seen.contains p=true then _ else match outOf l p with|none=>_|some d=>_)=_
    rw[ho];split<;>rfl
   rw[e];exact dE l r seen
  |some d=>
   rw[List.filter_cons_of_pos (by simp[ho])];show(if seen.contains p=true then _ else match outOf l p with|none=>_|some d=>_)=(if seen.contains p=true then _ else match outOf l p with|none=>_|some d=>_)
   rw[ho,dE l r seen];dsimp only;rw[dE l r (seen++List.map (fun x=>x.fst) (follow l p (4*List.length l+4) p d))]
theorem fC.starts(l:Cells):fC l [] (c9 l):=by
 have g:=fC.start l;refine⟨g.pE,fun q d h=>?_,?_⟩
 ·rcases g.all q d h with z|z
  ·exact .inl z
  ·exact .inr (br.mpr ⟨z,by simp[h]⟩)
 ·exact g.row.sublist (iq ..)
theorem rD{a b:Point}(h:before a b=true):sI (iP a) (iP b):=by rw[cS]at h;unfold sI iP;simp only;omega
theorem qK{a b:Pl}(h:sI a b):dN a b:=by unfold sI at h;unfold dN;omega
theorem yO{xs ys:List Pl}(hp:xs.Perm ys)(h1:xs.Pairwise dN)(h2:ys.Pairwise dN):xs=ys:=
 hp.eq_of_pairwise (fun _ _ _ _ a b=>mM a b) h1 h2
theorem uF{l:Cells}(hp:pinched l=false){ys:List Pl}(h:ys.Perm ((d3 (iW l)).map (·.1)))(hs:ys.Pairwise dN):ys=iW (c9 l):=by
 have hr:(iW (c9 l)).Pairwise dN:=by unfold iW;rw[ib];exact(fC.starts l).row.imp fun h=>qK (rD h)
 refine yO (h.trans ?_) hs hr;refine(List.perm_ext_iff_of_nodup (zU _) ?_).mpr fun p=>?_
 ·unfold iW;exact dJ (eS (fC.starts l).row) fun x _ y _ e=>fW e
 ·rw[pW hp];constructor
  ·rintro⟨q,d,rfl,ho⟩;exact cZ.mpr (br.mpr ⟨gO ho,by simp[ho]⟩)
  ·intro hm;obtain⟨q,hq,rfl⟩:=ax.mp hm;have:=(br.mp hq).2;cases e:outOf l q with
   |none=>rw[e]at this;cases this
   |some d=>exact⟨q,d,rfl,e⟩
theorem G7{l:Cells}(hp:pinched l=false){seen r:List Point}{p:Point}{d:Nat}(g:fC l seen (p::r))(hs:p∉seen)(ho:outOf l p=some d):
  ∃f:List Foot,mK (aN (d3 (iW l))) (iP p) (f.map iF) (iP p)/\f≠[]/\((f.map iF).map (·.1)).Nodup/\(∀y∈f.map (·.1),y∉seen)/\fC l (seen++f.map (·.1)) r/\
   walksFrom l seen (p::r)=cornersOf f::walksFrom l (seen++f.map (·.1)) r/\iW (cornersOf f)=bJ none (f.map iF):=by
 obtain⟨R,fr,⟨r',er,ec⟩,ew,g2⟩:=g.step hp hs ho rfl;refine⟨_,G3 hp R.way,R.ne,?_,fr,g2,?_,?_⟩
 ·have e:((follow l p (4*l.length+4) p d).map iF).map (·.1)=iW ((follow l p (4*l.length+4) p d).map (·.1)):=by simp[iW,iF,Function.comp_def]
  rw[e];exact dJ R.nd fun x _ y _ e=>fW e
 ·show(if seen.contains p=true then _ else match outOf l p with|none=>_|some d=>_)=_
  rw[af (by simpa using hs),ho]
 ·rw[ec,er,bh];show iP p::iW (turns d r')=(if some (hdg d)=none then _ else iP p::bJ (some (hdg d)) (r'.map iF))
  rw[af (by simp),mH r' d (bC ho).1];intro x hx;have:=R.way.out x (by rw[er];simp[hx]);exact(bC this).1
noncomputable def aE:Nat->List (List T3)->List (T3×Int)
 |_,[]=>[]
 |k,N::r=>N.map (fun p=>(p,(k:Int)))++aE (k+1) r
theorem jX:∀(a b:List (List T3))(k:Nat),aE k (a++b)=aE k a++aE (k+a.length) b
 |[],b,k=>by simp[aE]
 |N::a,b,k=>by
  rw[cons_append];show N.map (fun p=>(p,(k:Int)))++aE (k+1) (a++b)=(N.map (fun p=>(p,(k:Int)))++aE (k+1) a)++aE (k+(a.length+1)) b
  rw[jX a b (k+1),dz,show k+1+a.length=k+(a.length+1) by omega]
theorem bA:∀(Ns:List (List T3))(k:Nat),(aE k Ns).map (·.1)=Ns.flatten
 |[],k=>rfl
 |N::r,k=>by
  show(N.map (fun p=>(p,(k:Int)))++aE (k+1) r).map (·.1)=N++r.flatten
  rw[cf,bA r (k+1),fh];congr 1;simp[Function.comp_def]
theorem lJ{κ β:Type}[DecidableEq κ](k:κ)(b:List (κ×β)):∀a:List (κ×β),aN (a++b) k=if k∈a.map (·.1)then aN a k else aN b k
 |[]=>by simp
 |x::a=>by
  rw[cons_append,cI,cI,lJ k b a,bh];by_cases e:x.1=k
  ·rw[ah e,ah e,ah (by rw[ak];exact .inl e.symm)]
  ·rw[af e,af e];by_cases h:k∈a.map (·.1)
   ·rw[ah h,ah (ar _ h)]
   ·rw[af h,af (by rw[ak];rintro(z|z);exact e z.symm;exact h z)]
theorem qF{κ β:Type}[DecidableEq κ](v:β)(k:κ):∀N:List κ,aN (N.map fun p=>(p,v)) k=if k∈N then some v else none
 |[]=>by simp[jB]
 |x::N=>by
  rw[bh,cI,qF v k N];by_cases e:x=k
  ·rw[ah e,ah (by simp[e])]
  ·rw[af e];by_cases h:k∈N
   ·rw[ah h,ah (ar _ h)]
   ·rw[af h,af (by rw[ak];rintro(z|z);exact e z.symm;exact h z)]
theorem j0(Ns:List (List T3))(N:List T3):aE 0 (Ns++[N])=aE 0 Ns++N.map (fun p=>(p,(Ns.length:Int))):=by rw[jX];simp[aE]
theorem nQ{Ns:List (List T3)}{N:List T3}(hd:∀p∈N,p∉Ns.flatten)(p:T3):aN (aE 0 (Ns++[N])) p=if p∈N then some (Ns.length:Int)else aN (aE 0 Ns) p:=by
 rw[j0,lJ,qF,bA];by_cases h:p∈Ns.flatten
 ·rw[ah h,af (fun z=>hd p z h)]
 ·rw[af h];split
  ·rfl
  ·exact(m9.mpr (by rw[bA];exact h)).symm
theorem rN:∀(Ns:List (List T3))(j:Nat)(p:T3)(k:Int),Ns.flatten.Nodup->(aN (aE j Ns) p=some k↔∃i N,Ns[i]? =some N/\p∈N/\k=((j+i:Nat):Int))
 |[],j,p,k,_=>by simp[aE,jB]
 |N::r,j,p,k,hn=>by
  rw[ja,cn]at hn;show aN (N.map (fun p=>(p,(j:Int)))++aE (j+1) r) p=some k↔ _
  rw[lJ,qF];have e:(N.map fun p=>(p,(j:Int))).map (·.1)=N:=by simp[Function.comp_def]
  rw[e];by_cases h:p∈N
  ·rw[ah h,ah h];constructor
   ·intro q;cases q;exact⟨0,N,rfl,h,by simp⟩
   ·rintro⟨i,M,hi,hm,rfl⟩;cases i with
    |zero=>cases hi;simp
    |succ i=>exfalso;rw[gp]at hi;exact hn.2.2 p h p (List.mem_flatten.mpr ⟨M,ay hi,hm⟩) rfl
  ·rw[af h,rN r (j+1) p k hn.2.1];constructor
   ·rintro⟨i,M,hi,hm,rfl⟩;exact⟨i+1,M,by rw[gp];exact hi,hm,by congr 1;omega⟩
   ·rintro⟨i,M,hi,hm,rfl⟩;cases i with
    |zero=>cases hi;exact absurd hm h
    |succ i=>rw[gp]at hi;exact⟨i,M,hi,hm,by congr 1;omega⟩
structure lK(h:List Nat)(Ns:List (List T3))(lab:Array Nat):Prop where
 rel:lM h (aN (aE 0 Ns)) lab
 nd:Ns.flatten.Nodup
 ne:∀N∈Ns,N≠[]
theorem lK.sub{h:List Nat}{Ns:List (List T3)}{lab:Array Nat}(R:lK h Ns lab):∀p∈Ns.flatten,p∈(trianglesOf h).map tP:=by intro p hp;apply Classical.byContradiction;intro q;have:=R.rel.out p q;rw[m9,bA]at this;exact this hp
theorem kZ{α:Type}:∀{Ns:List (List α)},(∀N∈Ns,N≠[])->Ns.length<=Ns.flatten.length
 |[],_=>by simp
 |N::r,h=>by
  have h1:=kZ (Ns:=r) fun M hM=>h M (by simp[hM])
  have h2:0<N.length:=fy.mpr (h N (by simp));simp only[bo,ja,aj];omega
theorem lK.few{h:List Nat}{Ns:List (List T3)}{lab:Array Nat}(R:lK h Ns lab):Ns.length<=(trianglesOf h).length:=by have h1:=kZ R.ne;have h2:=bX R.nd R.sub;rw[ai]at h2;omega
theorem lK.start{h:List Nat}(hh:∀r∈h,okR r):lK h [] (xG h):=⟨lM.start hh,by simp,by simp⟩
theorem lK.face{h:List Nat}(hh:∀r∈h,okR r){fac:Array Nat}{jx:T3->Option Int}{lab:Array Nat}{Ns:List (List T3)}(hf:∀t∈trianglesOf h,jx (tP t)=some (fac.getD t 4:Int))(zl:∀p,p∉ (trianglesOf h).map tP->jx p=none)
  (jt:(trianglesOf h).length<NONE) (R:lK h Ns lab) {t0:Nat} (h0:t0∈trianglesOf h) (hl:aN (aE 0 Ns) (tP t0)=none) {N:List T3} (hN:∀p,p∈N↔Rch (okT jx (tP t0)) nbP (isN (aN (aE 0 Ns))) (tP t0) p) (qj:N.Nodup):
  lab.getD t0 0=NONE/\lK h (Ns++[N]) (fill fac Ns.length (4*(trianglesOf h).length+4) [t0] lab):=by
 have zg:lab.getD t0 0=NONE:=by have:=R.rel.ins t0 h0;rw[hl]at this;apply Classical.byContradiction;intro q;rw[af q]at this;cases this
 have u0:¬isN (aN (aE 0 Ns)) (tP t0):=by intro q;have q:(aN (aE 0 Ns) (tP t0)).isSome=true:=q;rw[hl]at q;cases q
 have hd:∀p∈N,p∉Ns.flatten:=by
  intro p hp hm;have:=(((hN p).mp hp).ok' rfl u0).2;refine this ?_;show(aN (aE 0 Ns) p).isSome=true
  rw[aV,bA];exact hm
 refine⟨zg,?_,?_,?_⟩
 ·exact R.rel.face hh hf zl h0 (ig R.few jt) zg hN (nQ hd)
 ·rw[gw,cn];refine⟨R.nd,by simpa using qj,?_⟩;intro a ha b hb e;have tw:b∈N:=by simpa using hb
  exact hd b tw (e▸ha)
 ·intro M hM;rcases aw.mp hM with hM|hM
  ·exact R.ne M hM
  ·have:M=N:=by simpa using hM
   subst this;intro e;have:tP t0∈M:=(hN _).mpr .refl;rw[e]at this;cases this
structure Numbering(h:List Nat)(i:Nat)(Ns:List (List T3)):Prop where
 ex:∃(lab:Array Nat)(firsts:List Nat),lK h Ns lab/\firsts.length=Ns.length/\
  facesFrom (r9 h) (4*(trianglesOf h).length+4) (trianglesOf h) 0 [] (xG h)=facesFrom (r9 h) (4*(trianglesOf h).length+4) ((trianglesOf h).drop i) Ns.length firsts lab
 done:(∀t∈(trianglesOf h).take i,(aN (aE 0 Ns) (tP t)).isSome=true)/\(∀j,j<Ns.length->∃n t,n<i/\(trianglesOf h)[n]? =some t/\aN (aE 0 Ns) (tP t)=some (j:Int))/\
  ∀(n t k:Nat),n<i->(trianglesOf h)[n]? =some t->aN (aE 0 Ns) (tP t)=some (k:Int)->∀j,j<k->∃m u,m<n/\(trianglesOf h)[m]? =some u/\aN (aE 0 Ns) (tP u)=some (j:Int)
theorem Numbering.start{h:List Nat}(hh:∀r∈h,okR r):Numbering h 0 []:=⟨⟨xG h,[],lK.start hh,rfl,rfl⟩,by simp,fun j hj=>by simp at hj,fun n t k hn=>by omega⟩
theorem drop_cons{α:Type}{l:List α}{i:Nat}{t:α}(h:l[i]? =some t):l.drop i=t::l.drop (i+1):=by obtain⟨hi,e⟩:=aq.mp h;rw[List.drop_eq_getElem_cons hi,e]
theorem take_snoc{α:Type}{l:List α}{i:Nat}{t:α}(h:l[i]? =some t):l.take (i+1)=l.take i++[t]:=by rw[List.take_add_one,h];rfl
theorem Numbering.skip{h:List Nat}{i:Nat}{Ns:List (List T3)}(R:Numbering h i Ns){t:Nat}(ht:(trianglesOf h)[i]? =some t)(hs:(aN (aE 0 Ns) (tP t)).isSome=true):Numbering h (i+1) Ns:=by
 obtain⟨⟨lab,firsts,O,hl,e⟩,dn⟩:=R;have hm:t∈trianglesOf h:=ay ht;have q:lab.getD t 0≠NONE:=by intro q;have:=O.rel.ins t hm;rw[ah q]at this;rw[this]at hs;cases hs
 refine⟨⟨lab,firsts,O,hl,?_⟩,fun u hu=>?_,fun j hj=>?_,fun n u k hn hu hk j hj=>?_⟩
 ·rw[e,drop_cons ht];show(if lab.getD t 0≠NONE then _ else _)=_
  rw[ah q]
 ·rw[take_snoc ht]at hu;rcases aw.mp hu with hu|hu
  ·exact dn.1 u hu
  ·have:u=t:=by simpa using hu
   subst this;exact hs
 ·obtain⟨n,u,a1,a2⟩:=dn.2.1 j hj;exact⟨n,u,by omega,a2⟩
 ·by_cases c:n<i
  ·exact dn.2.2 n u k c hu hk j hj
  ·have:n=i:=by omega
   subst this;obtain⟨m,N,b1,_,b3⟩:=(rN Ns 0 _ _ O.nd).mp hk;have:=(aq.mp b1).1;exact dn.2.1 j (by omega)
theorem Numbering.face{h:List Nat}(hh:∀r∈h,okR r){jx:T3->Option Int}(hf:∀t∈trianglesOf h,jx (tP t)=some ((r9 h).getD t 4:Int))(zl:∀p,p∉ (trianglesOf h).map tP->jx p=none)
  (jt:(trianglesOf h).length<NONE) {i:Nat}{Ns:List (List T3)} (R:Numbering h i Ns) {t:Nat} (ht:(trianglesOf h)[i]? =some t) (hl:aN (aE 0 Ns) (tP t)=none)
  {N:List T3} (hN:∀p,p∈N↔Rch (okT jx (tP t)) nbP (isN (aN (aE 0 Ns))) (tP t) p) (qj:N.Nodup):Numbering h (i+1) (Ns++[N]):=by
 obtain⟨⟨lab,firsts,O,hl2,e⟩,dn⟩:=R;have hm:t∈trianglesOf h:=ay ht;obtain⟨q,O2⟩:=O.face hh hf zl jt hm hl hN qj;have grow:∀p,(aN (aE 0 Ns) p).isSome=true->(aN (aE 0 (Ns++[N])) p).isSome=true:=by intro p hp;rw[aV,bA]at hp ⊢;rw[gw];exact cc _ hp
 have hd:∀p∈N,p∉Ns.flatten:=fun p hp hm=>by have z:=O2.nd;rw[gw,cn]at z;exact z.2.2 p hm p (by simpa using hp) rfl
 have old:∀p (k:Nat),aN (aE 0 Ns) p=some (k:Int)->aN (aE 0 (Ns++[N])) p=some (k:Int):=fun p k hk=>by
  rw[nQ hd,af]
  ·exact hk
  ·intro hp;refine hd p hp ?_;rw[<- bA Ns 0,<- aV,hk];rfl
 have htN:tP t∈N:=(hN _).mpr .refl;have new:aN (aE 0 (Ns++[N])) (tP t)=some (Ns.length:Int):=by rw[nQ hd,ah htN]
 refine⟨⟨_,t::firsts,O2,by simp[hl2],?_⟩,fun u hu=>?_,fun j hj=>?_,fun n u k hn hu hk j hj=>?_⟩
 rotate_left 2
 ·by_cases c:j<Ns.length
  ·obtain⟨n,u,a1,a2,a3⟩:=dn.2.1 j c;exact⟨n,u,by omega,a2,old _ _ a3⟩
  ·have:j=Ns.length:=by simp at hj;omega
   subst this;exact⟨i,t,by omega,ht,new⟩
 ·by_cases c:n<i
  ·have hs:=dn.1 u (ay (l:=(trianglesOf h).take i) (i:=n) (by rw[fu c];exact hu));have qy:aN (aE 0 Ns) (tP u)=some (k:Int):=by
    rw[nQ hd,af]at hk
    ·exact hk
    ·intro hp;refine hd _ hp ?_;rw[<- bA Ns 0,<- aV];exact hs
   obtain⟨m,v,a1,a2,a3⟩:=dn.2.2 n u k c hu qy j hj;exact⟨m,v,a1,a2,old _ _ a3⟩
  ·have:n=i:=by omega
   subst this;rw[ht]at hu;cases hu;rw[new]at hk;have:(Ns.length:Int)=(k:Int):=Option.some.inj hk;obtain⟨m,v,a1,a2,a3⟩:=dn.2.1 j (by omega);exact⟨m,v,a1,a2,old _ _ a3⟩
 ·rw[e,drop_cons ht];show(if lab.getD t 0≠NONE then _ else facesFrom _ _ _ (Ns.length+1) (t::firsts) (fill _ _ _ [t] lab))=_
  rw[af (by simpa using q),aj];rfl
 ·rw[take_snoc ht]at hu;rcases aw.mp hu with hu|hu
  ·exact grow _ (dn.1 u hu)
  ·have:u=t:=by simpa using hu
   subst this;rw[aV,bA,gw];refine bc _ ?_;have:tP u∈N:=(hN _).mpr .refl;simpa using this
theorem Numbering.all{l:Cells}{Ns:List (List T3)}{i:Nat}(R:Numbering (halvesOf l) i Ns)(hi:(trianglesOf (halvesOf l)).length<=i):
  (∀t∈(topOf l).tris,aN (aE 0 Ns) (tP t)=some ((topOf l).face t:Int))/\(topOf l).firsts.length=Ns.length/\(∀p,p∉ (topOf l).tris.map tP->aN (aE 0 Ns) p=none)/\Ns.flatten.Nodup/\∀N∈Ns,N≠[]:=by
 obtain⟨⟨lab,firsts,O,hl,e⟩,dn⟩:=R;rw[List.drop_eq_nil_of_le hi]at e;have e1:facesFrom (r9 (halvesOf l)) (4*(trianglesOf (halvesOf l)).length+4) (trianglesOf (halvesOf l)) 0 [] (xG (halvesOf l))=(lab,firsts.reverse):=e;have eT:(topOf l).lab=lab:=congrArg Prod.fst e1;have eF:(topOf l).firsts=firsts.reverse:=congrArg Prod.snd e1;refine⟨fun t ht=>?_,by rw[eF,List.length_reverse,hl],fun p hp=>O.rel.out p hp,O.nd,O.ne⟩;have hs:=dn.1 t (by rw[bg hi];exact ht);have:=O.rel.ins t ht;rw[this]at hs ⊢;by_cases q:lab.getD t 0=NONE
 ·rw[ah q]at hs;cases hs
 ·rw[af q];show _=some (((topOf l).lab.getD t 0:Nat):Int)
  rw[eT]
noncomputable def gP(hs:List Pl):List T3:=hs.flatMap fun p=>[(p.1,p.2,0),(p.1,p.2,1),(p.1,p.2,2),(p.1,p.2,3)]
theorem kE(h:List Nat):gP (h.map hP)=(trianglesOf h).map tP:=by
 unfold gP trianglesOf;induction h with
 |nil=>rfl
 |cons r h ih=>
  rw[bh,gb,gb,cf,ih];congr 1;have e0:tP (4*r)=((hP r).1,(hP r).2,0):=by unfold tP hP;rw[show 4*r/4=r by omega,show 4*r%4=0 by omega];rfl
  have e1:tP (4*r+1)=((hP r).1,(hP r).2,1):=by unfold tP hP;rw[show(4*r+1)/4=r by omega,show(4*r+1)%4=1 by omega];rfl
  have e2:tP (4*r+2)=((hP r).1,(hP r).2,2):=by unfold tP hP;rw[show(4*r+2)/4=r by omega,show(4*r+2)%4=2 by omega];rfl
  have e3:tP (4*r+3)=((hP r).1,(hP r).2,3):=by unfold tP hP;rw[show(4*r+3)/4=r by omega,show(4*r+3)%4=3 by omega];rfl
  simp[e0,e1,e2,e3]
theorem jC(hs:List Pl):(gP hs).length=4*hs.length:=by
 unfold gP;induction hs with
 |nil=>rfl
 |cons p r ih=>rw[gb,aj,ih];simp only[bo,dv];omega
theorem iN(l:Cells):(halvesOf l).length=4*l.length:=by
 unfold halvesOf;rw[List.length_mergeSort];induction l with
 |nil=>rfl
 |cons p r ih=>rw[gb,aj,ih];simp only[bo,dv];omega
section
variable {κ β:Type} [DecidableEq κ]
theorem kO(f:κ->β)(l:List κ):(l.map fun p=>(p,f p)).map (·.1)=l:=by rw[fh];simp[Function.comp_def]
theorem lI(f:κ->β)(k:κ):∀l:List κ,aN (l.map fun p=>(p,f p)) k=if k∈l then some (f k)else none
 |[]=>by simp[jB]
 |x::N=>by
  rw[bh,cI,lI f k N];by_cases e:x=k
  ·rw[ah e,ah (by simp[e]),e]
  ·rw[af e];by_cases h:k∈N
   ·rw[ah h,ah (ar _ h)]
   ·rw[af h,af (by rw[ak];rintro(z|z);exact e z.symm;exact h z)]
theorem J9(f:κ->β){l:List κ}{k:κ}(v:β)(h:k∈l):d5 (l.map fun p=>(p,f p)) k v=l.map fun p=>(p,if p=k then v else f p):=by unfold d5;rw[ah (rP.mpr (by rw[kO];exact h)),fh];apply dt;intro x _;simp only[Function.comp];split<;>rfl
theorem wH:∀(L:List κ)(f:κ->β){l:List κ}(v:β),(∀p∈L,p∈l)->cN (l.map fun p=>(p,f p)) (L.map fun p=>(p,v))=l.map fun p=>(p,if p∈L then v else f p)
 |[],f,l,v,_=>by simp[cN]
 |k::L,f,l,v,h=>by
  rw[bh];show cN (d5 (l.map fun p=>(p,f p)) k v) (L.map fun p=>(p,v))=_
  rw[J9 f v (h k (by simp)),wH L (fun p=>if p=k then v else f p) v (fun p hp=>h p (by simp[hp]))];apply dt;intro x _;by_cases h1:x∈L
  ·simp[h1]
  ·by_cases h2:x=k
   ·simp[h1,h2]
   ·simp[h1,h2]
theorem qE:∀(ps l:List (κ×β)),(ps.map (·.1)).Nodup->(∀k∈ps.map (·.1),k∉l.map (·.1))->cN l ps=l++ps
 |[],l,_,_=>by simp[cN]
 |p::r,l,h,h2=>by
  rw[bh,dc]at h;show cN (d5 l p.1 p.2) r=_
  rw[fR p.2 (h2 p.1 (by simp)),qE r _ h.2,dz]
  ·rfl
  ·intro k hk hm;rw[cf,aw]at hm;rcases hm with hm|hm
   ·exact h2 k (by rw[bh];exact ar _ hk) hm
   ·have:k=p.1:=by simpa using hm
    exact h.1 (this▸hk)
end
theorem FN{hs:List Pl}{p:Pl}(h:p∈hs):gG hs 1 p=0:=by
 show(if p∈aO hs 0 then((0:Nat):Int)else gG hs 0 p)=0
 rw[ah (show p∈aO hs 0 from h)];rfl
theorem mS(hs:List Pl):∀k,∀p∈aO hs k,p∈hs
 |0,_,h=>h
 |k+1,p,h=>mS hs k p (br.mp h).1
noncomputable def iQ(hs:List Pl)(k:Nat):List (Pl×Int):=if k=0 then[]else hs.map fun p=>(p,gG hs k p)
theorem AE{hs:List Pl}(hn:hs.Nodup)(k:Nat):cN (iQ hs k) ((aO hs k).map fun p=>(p,(k:Int)))=iQ hs (k+1):=by
 cases k with
 |zero=>
  show cN [] (hs.map fun p=>(p,((0:Nat):Int)))=hs.map fun p=>(p,gG hs 1 p)
  rw[qE]
  ·rw[nil_append];apply dt;intro p hp;rw[FN hp];rfl
  ·rw[kO (fun _=>((0:Nat):Int))];exact hn
  ·simp
 |succ k=>
  show cN (hs.map fun p=>(p,gG hs (k+1) p)) _=hs.map fun p=>(p,gG hs (k+2) p)
  rw[wH (aO hs (k+1)) (fun p=>gG hs (k+1) p) ((k+1:Nat):Int) (mS hs _)];apply dt;intro p _;show _=(p,if p∈aO hs (k+1)then((k+1:Nat):Int)else gG hs (k+1) p)
  by_cases q:p∈aO hs (k+1)
  ·rw[ah q,ah q]
  ·rw[af q,af q]
theorem w8{hs:List Pl}{k:Nat}(e:aO hs k=[])(p:Pl):∀m,k<=m->gG hs m p=gG hs k p:=by
 have nH:∀m,k<=m->aO hs m=[]:=by
  intro m hm;induction m with
  |zero=>
       have:k=0:=by omega
       rw[<- this];exact e
  |succ m ih=>
   by_cases h:k<=m
   ·show(aO hs m).filter _=[]
    rw[ih h];rfl
   ·have:k=m+1:=by omega
    rw[<- this];exact e
 intro m hm;induction m with
 |zero=>
      have:k=0:=by omega
      rw[this]
 |succ m ih=>
  by_cases h:k<=m
  ·show(if p∈aO hs m then(m:Int)else gG hs m p)=_
   rw[nH m h,af (by simp),ih h]
  ·have:k=m+1:=by omega
   rw[this]
def bT(h:List Nat):List (Pl×Int):=(h.map hP).map fun p=>(p,bQ h p)
theorem CK{h:List Nat}(hh:∀r∈h,okR r){k:Nat}(hk:0<k)(e:aO (h.map hP) k=[]):iQ (h.map hP) k=bT h:=by
 unfold iQ bT;rw[af (by omega)];apply dt;intro p hp;unfold bQ;rw[ah hp];have Ak:aO (h.map hP) 64=[]:=by rw[cY hh,eD hh (au 64)];rfl
 by_cases c:k<=64
 ·rw[w8 e p 64 c]
 ·rw[w8 Ak p k (by omega)]
theorem IW(h:List Nat)(p:Pl):(aN (bT h) p).getD (-1)=bQ h p:=by
 unfold bT;rw[lI];by_cases q:p∈h.map hP
 ·rw[ah q];rfl
 ·rw[af q];unfold bQ;rw[af q];rfl
def hgt(h:List Nat)(p:Pl):Int:=(heightAt (gridOf h) p.1.toNat p.2.toNat:Int)
theorem mT(h:List Nat)(c:Point):hgt h (iP c)=(heightAt (gridOf h) c.1 c.2:Int):=by unfold hgt iP;simp
theorem DP{h:List Nat}(hh:∀r∈h,okR r){r c:Nat}(hr:r∈h){m:Int}(hm:m∈c7 h (aF (hP r) c))(ph:∀x∈c7 h (aF (hP r) c),m<=x):m=hgt h (aF (hP r) c):=by rw[gV]at hm ph ⊢;rw[mT];exact F6 hh (FT (hh r hr)).1 hm ph
noncomputable def xR(h:List Nat)(t:T3):Int:=IS t.2.2.toNat (hgt h (aF (t.1,t.2.1) t.2.2.toNat)) (hgt h (aF (t.1,t.2.1) (t.2.2.toNat+1))) (bQ h (t.1,t.2.1))
theorem KZ{h:List Nat}(hh:∀r∈h,okR r){t:Nat}(ht:t∈trianglesOf h):xR h (tP t)=((r9 h).getD t 4:Int):=by
 have hr:=fL.mp ht;rw[FK hh,ah ht,<- L0 ((xK hh).mpr hr)];unfold xR;have e1:((tP t).1,(tP t).2.1)=hP (t/4):=rfl;have e2:(tP t).2.2.toNat=t%4:=by unfold tP;dsimp only;omega
 rw[e1,e2,qB hh hr,gV,gV,mT,mT];rfl
def dZ(h:List Nat):List (T3×Int):=(gP (h.map hP)).map fun t=>(t,xR h t)
theorem DT{h:List Nat}(hh:∀r∈h,okR r):∀t∈trianglesOf h,aN (dZ h) (tP t)=some ((r9 h).getD t 4:Int):=by intro t ht;unfold dZ;rw[lI,kE,ah (ax.mpr ⟨t,ht,rfl⟩),KZ hh ht]
theorem A8(h:List Nat):∀p,p∉ (trianglesOf h).map tP->aN (dZ h) p=none:=by intro p hp;unfold dZ;rw[lI,kE,af hp]
noncomputable def partsFrom(m:Int)(cur:List Int):List Int->List (List Int)
 |[]=>[cur]
 |v::r=>if v=m then cur::partsFrom m [] r else partsFrom m (cur++[v]) r
theorem fU(m:Int):∀(t cur:List Int),∃p ps,parts m t=p::ps/\partsFrom m cur t=(cur++p)::ps
 |[],cur=>⟨[],[],rfl,by simp[partsFrom]⟩
 |v::r,cur=>by
  by_cases e:v=m
  ·obtain⟨p,ps,h1,h2⟩:=fU m r [];refine⟨[],parts m r,?_,?_⟩
   ·simp[parts,e]
   ·simp only[partsFrom,ah e];rw[h2,h1];simp
  ·obtain⟨p,ps,h1,h2⟩:=fU m r (cur++[v]);refine⟨v::p,ps,?_,?_⟩
   ·simp[parts,e,h1]
   ·simp only[partsFrom,af e];rw[h2];simp
theorem iH(m:Int)(t:List Int):partsFrom m [] t=parts m t:=by obtain⟨p,ps,h1,h2⟩:=fU m t [];rw[h2,h1];simp
theorem iI{m v:Int}{cur r:List Int}(e:v=m):partsFrom m cur (v::r)=cur::partsFrom m [] r:=by simp[partsFrom,e]
theorem gR{m v:Int}{cur r:List Int}(e:¬v=m):partsFrom m cur (v::r)=partsFrom m (cur++[v]) r:=by simp[partsFrom,e]
theorem pM(m:Int)(t:List Int):(parts m t).length<=t.length+1:=by
 have:∀(t cur:List Int),(partsFrom m cur t).length<=t.length+1:=by
  intro t;induction t with
  |nil=>intro cur;simp[partsFrom]
  |cons v r ih=>
   intro cur;by_cases e:v=m
   ·rw[iI e];have:=ih [];simp;omega
   ·rw[gR e];have:=ih (cur++[v]);simp;omega
 rw[<- iH];exact this t []
theorem iG{m:Int}{t p:List Int}(h:p∈parts m t):p.length<=t.length:=by
 have:∀(t cur:List Int),∀p∈partsFrom m cur t,p.length<=cur.length+t.length:=by
  intro t;induction t with
  |nil=>intro cur p hp;simp[partsFrom]at hp;subst hp;simp
  |cons v r ih=>
   intro cur p hp;by_cases e:v=m
   ·rw[iI e]at hp;rcases ak.mp hp with rfl|hp
    ·simp
    ·have:=ih [] p hp;simp at this ⊢;omega
   ·rw[gR e]at hp;have:=ih _ p hp;simp at this ⊢;omega
 rw[<- iH]at h;simpa using this t [] p h
section
variable {α β:Type}{f:α->Option β}
theorem ET:∀{l:List α}{zs:List β}{x:α}{z:β},l.mapM f=some zs->f x=some z->(l++[x]).mapM f=some (zs++[z]):=by
 intro l zs x z h1 h2;exact lY (by
  have h:=mapM_some h1;induction h with
  |nil=>exact .cons h2 .nil
  |cons r _ ih=>exact .cons r (ih (lY (by assumption))))
theorem pQ{l:List α}{i:Nat}{zs:List β}{x:α}{z:β}(h:(l.take i).mapM f=some zs)(hx:l[i]? =some x)(hz:f x=some z):(l.take (i+1)).mapM f=some (zs++[z]):=by rw[take_snoc hx];exact ET h hz
theorem mD.mem{R:α->β->Prop}:∀{l:List α}{m:List β},mD R l m->∀x∈l,∃y,R x y
 |_,_,.nil,_,h=>by cases h
 |_,_,.cons r t,x,h=>by
  rcases ak.mp h with rfl|h
  ·exact⟨_,r⟩
  ·exact mD.mem t x h
theorem mD.len{R:α->β->Prop}:∀{l:List α}{m:List β},mD R l m->l.length=m.length
 |_,_,.nil=>rfl
 |_,_,.cons _ t=>by simp[mD.len t]
theorem pR{l:List α}{x:α}(hx:x∈l)(hz:f x=none):l.mapM f=none:=by
 cases h:l.mapM f with
 |none=>rfl
 |some zs=>obtain⟨y,e⟩:=(mapM_some h).mem x hx;rw[hz]at e;cases e
theorem tE{l:List α}{zs:List β}(h:l.mapM f=some zs):zs.length=l.length:=((mapM_some h).len).symm
end
theorem A6{α β:Type}{f:β->α->Option β}{l:List α}{b:β}{x:α}:(l++[x]).foldlM f b=(l.foldlM f b).bind fun c=>f c x:=by
 rw[List.foldlM_append];show(l.foldlM f b>>=fun c=>[x].foldlM f c)=_
 congr 1;funext c;simp
theorem r8{α β:Type}{f:β->α->Option β}{l:List α}{b c:β}{i:Nat}{x:α}(h:(l.take i).foldlM f b=some c)(hx:l[i]? =some x):(l.take (i+1)).foldlM f b=f c x:=by rw[take_snoc hx,A6,h];rfl
theorem A7{α β:Type}{f:β->α->Option β}{l:List α}{b c:β}{i:Nat}{x:α}(h:(l.take i).foldlM f b=some c)(hx:l[i]? =some x)(hn:f c x=none):l.foldlM f b=none:=by have e:l=l.take (i+1)++l.drop (i+1):=(List.take_append_drop ..).symm;rw[e,List.foldlM_append,r8 h hx,hn];rfl
def fP(a b q:Pl):Prop:=a.1=b.1/\a.1=q.1/\min a.2 b.2<=q.2/\q.2<max a.2 b.2
def nL(n k:Nat):Nat:=if k=0 then n - 1 else k - 1
noncomputable def A5(w:List Pl)(k:Nat)(q:Pl):Prop:=∃a b,w[k]? =some a/\w[nL w.length k]? =some b/\fP a b q
noncomputable def jQ(ws:List (List Pl))(i:Nat)(q:Pl):Prop:=∃w∈ws.take i,∃k,A5 w k q
theorem DS(a b:Point)(x y:Nat):r6 a b x y=true↔fP (iP b) (iP a) ((x:Int),(y:Int)):=by
 unfold r6 fP iP;simp only[cg,beq_iff_eq,decide_eq_true_iff];have e1:(min (b.2:Int) (a.2:Int))=((min a.2 b.2:Nat):Int):=by omega
 have e2:(max (b.2:Int) (a.2:Int))=((max a.2 b.2:Nat):Int):=by omega
 rw[e1,e2];omega
theorem yG(w:Walk)(s:Point×Point):s∈sides w↔∃k,w[k]? =some s.2/\w[nL w.length k]? =some s.1:=by
 unfold sides;rw[fe];have hz:∀(j:Nat),(w.zip (w.drop 1++w.take 1))[j]? =some s↔w[j]? =some s.1/\(w.drop 1++w.take 1)[j]? =some s.2:=by intro j;rw[List.getElem?_zip_eq_some]
 constructor
 ·rintro⟨j,h⟩;obtain⟨h1,h2⟩:=(hz j).mp h;have hj:j<w.length:=(aq.mp h1).1;by_cases c:j+1<w.length
  ·rw[gy (by rw[gz];omega),List.getElem?_drop]at h2;refine⟨j+1,by rw[Nat.add_comm];exact h2,?_⟩;unfold nL;rw[af (by omega)];exact h1
  ·rw[dj (by rw[gz];omega),gz]at h2;have e:j - (w.length - 1)=0:=by omega
   rw[e,fu (by omega)]at h2;refine⟨0,h2,?_⟩;unfold nL;rw[ah rfl,show w.length - 1=j by omega];exact h1
 ·rintro⟨k,h1,h2⟩;have hk:k<w.length:=(aq.mp h1).1;by_cases c:k=0
  ·subst c;refine⟨w.length - 1,(hz _).mpr ⟨h2,?_⟩⟩;rw[dj (by rw[gz];omega),gz,show w.length - 1 - (w.length - 1)=0 by omega,fu (by omega)];exact h1
  ·refine⟨k - 1,(hz _).mpr ⟨?_,?_⟩⟩
   ·unfold nL at h2;rw[af c]at h2;exact h2
   ·rw[gy (by rw[gz];omega),List.getElem?_drop,show 1+(k - 1)=k by omega];exact h1
theorem vY(w:Walk)(x y:Nat):(∃k,A5 (iW w) k ((x:Int),(y:Int)))↔∃s∈sides w,r6 s.1 s.2 x y=true:=by
 have hl:(iW w).length=w.length:=ai ..;have hg:∀(k:Nat)(a:Pl),(iW w)[k]? =some a↔∃p,w[k]? =some p/\a=iP p:=by intro k a;unfold iW;rw[bf];cases w[k]? <;>simp[eq_comm]
 constructor
 ·rintro⟨k,a,b,h1,h2,h3⟩;obtain⟨p,hp,rfl⟩:=(hg k a).mp h1;rw[hl]at h2;obtain⟨q,hq,rfl⟩:=(hg _ b).mp h2;exact⟨(q,p),(yG w (q,p)).mpr ⟨k,hp,hq⟩,(DS q p x y).mpr h3⟩
 ·rintro⟨s,hs,hf⟩;obtain⟨k,h1,h2⟩:=(yG w s).mp hs;exact⟨k,iP s.2,iP s.1,(hg k _).mpr ⟨_,h1,rfl⟩,by rw[hl];exact(hg _ _).mpr ⟨_,h2,rfl⟩,(DS s.1 s.2 x y).mp hf⟩
theorem CA(ws:List Walk)(x y:Nat):jQ (iWs ws) (iWs ws).length ((x:Int),(y:Int))↔dD ws x y=true:=by
 unfold jQ dD;rw[bg (au _),fb];constructor
 ·rintro⟨w,hw,hk⟩;obtain⟨v,hv,rfl⟩:=ax.mp hw;obtain⟨s,hs,hf⟩:=(vY v x y).mp hk;exact⟨v,hv,fb.mpr ⟨s,hs,hf⟩⟩
 ·rintro⟨v,hv,h⟩;obtain⟨s,hs,hf⟩:=fb.mp h;exact⟨iW v,ax.mpr ⟨v,hv,rfl⟩,(vY v x y).mpr ⟨s,hs,hf⟩⟩
noncomputable def mF(ws:List (List Pl))(i:Nat)(w:List Pl)(k:Nat)(q:Pl):Prop:=jQ ws i q\/∃j,j<k/\A5 w j q
theorem CB(ws:List (List Pl))(i:Nat)(w:List Pl)(q:Pl):mF ws i w 0 q↔jQ ws i q:=by
 unfold mF;constructor
 ·rintro(h|⟨j,h,_⟩)
  ·exact h
  ·omega
 ·exact .inl
theorem tR(ws:List (List Pl))(i:Nat)(w:List Pl)(k:Nat)(q:Pl):mF ws i w (k+1) q↔mF ws i w k q\/A5 w k q:=by
 unfold mF;constructor
 ·rintro(h|⟨j,h1,h2⟩)
  ·exact .inl (.inl h)
  ·by_cases e:j=k
   ·exact .inr (e▸h2)
   ·exact .inl (.inr ⟨j,by omega,h2⟩)
 ·rintro((h|⟨j,h1,h2⟩)|h)
  ·exact .inl h
  ·exact .inr ⟨j,by omega,h2⟩
  ·exact .inr ⟨k,by omega,h⟩
theorem FE{ws:List (List Pl)}{i:Nat}{w:List Pl}(hw:ws[i]? =some w)(q:Pl):mF ws i w w.length q↔jQ ws (i+1) q:=by
 unfold mF jQ;rw[take_snoc hw];constructor
 ·rintro(⟨v,hv,h⟩|⟨j,_,h⟩)
  ·exact⟨v,cc _ hv,h⟩
  ·exact⟨w,by simp,j,h⟩
 ·rintro⟨v,hv,h⟩;rcases aw.mp hv with hv|hv
  ·exact .inl ⟨v,hv,h⟩
  ·have:v=w:=by simpa using hv
   subst this;obtain⟨k,h⟩:=h;obtain⟨a,b,h1,h2⟩:=id h;exact .inr ⟨k,(aq.mp h1).1,h⟩
noncomputable def box:List Pl:=(List.range 65).flatMap fun(x:Nat)=>(List.range 65).map fun(y:Nat)=>(((x:Int),(y:Int)):Pl)
theorem E1{q:Pl}(h1:0<=q.1)(h2:q.1<=64)(h3:0<=q.2)(h4:q.2<=64):q∈box:=by unfold box;refine cj.mpr ⟨q.1.toNat,gu.mpr (by omega),ax.mpr ⟨q.2.toNat,gu.mpr (by omega),?_⟩⟩;obtain⟨a,b⟩:=q;simp at h1 h3 ⊢;omega
theorem L8:box.length=4225:=by decide+kernel
theorem tQ{ws:List (List Pl)}(ho:∀w∈ws,∀p∈w,(0<=p.1/\p.1<=64)/\(0<=p.2/\p.2<=64)){w:List Pl}(hw:w∈ws){k:Nat}{q:Pl}(h:A5 w k q):q∈box:=by obtain⟨a,b,h1,h2,h3,h4,h5,h6⟩:=h;have o1:=ho w hw a (ay h1);have o2:=ho w hw b (ay h2);exact E1 (by omega) (by omega) (by omega) (by omega)
noncomputable def mO(F:Nat->Nat->Bool)(y n:Nat):Cells:=((List.range n).map fun x=>((x,y):Cell)).filter fun c=>bZ F c.2 c.1
noncomputable def iY(F:Nat->Nat->Bool)(n:Nat):Cells:=(List.range n).flatMap fun y=>mO F y 64
theorem EI(F:Nat->Nat->Bool):iY F 64=aR F:=rfl
theorem lS(F:Nat->Nat->Bool)(y n:Nat):mO F y (n+1)=if bZ F y n=true then mO F y n++[(n,y)]else mO F y n:=by
 unfold mO;rw[iz,cf,fk];by_cases h:bZ F y n=true
 ·rw[ah h];simp[h]
 ·rw[af h];simp[h]
theorem sH(F:Nat->Nat->Bool)(n:Nat):iY F (n+1)=iY F n++mO F n 64:=by unfold iY;rw[iz,ik];simp
theorem sJ{F:Nat->Nat->Bool}{y n:Nat}{c:Cell}(h:c∈mO F y n):c.1<n/\c.2=y:=by unfold mO at h;obtain⟨h1,_⟩:=br.mp h;obtain⟨x,hx,rfl⟩:=ax.mp h1;exact⟨gu.mp hx,rfl⟩
theorem v8{F:Nat->Nat->Bool}{n:Nat}{c:Cell}(h:c∈iY F n):c.2<n/\c.1<64:=by unfold iY at h;obtain⟨y,hy,h⟩:=cj.mp h;have:=sJ h;have:=gu.mp hy;omega
theorem zP(F:Nat->Nat->Bool)(y x:Nat):bZ F y x=xor (if x=0 then false else bZ F y (x - 1)) (F x y):=by
 cases x with
 |zero=>simp[bZ]
 |succ x=>simp[bZ]
theorem sL(F:Nat->Nat->Bool)(y n:Nat):(mO F y n).length<=n:=by unfold mO;exact de (dk _ _) (by simp)
theorem pG(F:Nat->Nat->Bool)(n:Nat):(iY F n).length<=64*n:=by
 induction n with
 |zero=>simp[iY]
 |succ n ih=>rw[sH,aj];have:=sL F n 64;omega
section
variable {κ β:Type} [DecidableEq κ]
noncomputable def Tbl(l:List (κ×β))(S:κ->Prop):Prop:=(l.map (·.1)).Nodup/\∀q,q∈l.map (·.1)↔S q
theorem Tbl.nil:Tbl ([]:List (κ×β)) fun _=>False:=⟨by simp,by simp⟩
theorem Tbl.put{l:List (κ×β)}{S:κ->Prop}(h:Tbl l S)(k:κ)(v:β):Tbl (d5 l k v) fun q=>S q\/q=k:=by
 refine⟨u6 h.1,fun q=>?_⟩;rw[wI];split
 ·rename_i hk;rw[h.2];constructor
  ·exact .inl
  ·rintro(z|z)
   ·exact z
   ·rw[z];exact(h.2 k).mp hk
 ·rw[aw,h.2];simp
theorem Tbl.iff{l:List (κ×β)}{S T:κ->Prop}(h:Tbl l S)(e:∀q,S q↔T q):Tbl l T:=⟨h.1,fun q=>(h.2 q).trans (e q)⟩
theorem Tbl.len{l:List (κ×β)}{S:κ->Prop}(h:Tbl l S){b:List κ}(hb:∀q,S q->q∈b):l.length<=b.length:=by
 have:=bX h.1 (b:=b) fun q hq=>hb q ((h.2 q).mp hq)
 rwa [ai]at this
end
theorem K0{W:List Walk}(h:sV W):∀w∈iWs W,∀p∈w,(0<=p.1/\p.1<=64)/\(0<=p.2/\p.2<=64):=by intro w hw p hp;obtain⟨v,hv,rfl⟩:=ax.mp hw;obtain⟨q,hq,rfl⟩:=ax.mp hp;have:=h v hv q hq;unfold okP at this;unfold iP;simp only;omega
theorem FD{ws:List (List Pl)}(ho:∀w∈ws,∀p∈w,(0<=p.1/\p.1<=64)/\(0<=p.2/\p.2<=64)){w:List Pl}(hw:w∈ws){i k:Nat}{q:Pl}(h:mF ws i w k q):q∈box:=by
 rcases h with⟨v,hv,k,h⟩|⟨j,_,h⟩
 ·exact tQ ho (List.mem_of_mem_take hv) h
 ·exact tQ ho hw h
theorem A4(ws:List (List Pl))(q:Pl):jQ ws 0 q↔False:=by simp[jQ]
noncomputable def cR(cs:List Pl)(c:Pl)(j:Nat):List (Pl×Int):=(([0,1,2,3].take j).filter fun(s:Nat)=>!decide (aI c s∈cs)).map fun s=>(aF c s,hdg s)
theorem tX(cs:List Pl)(c:Pl):cR cs c 4=eJ cs c:=rfl
theorem rJ(cs:List Pl)(c:Pl){j:Nat}(hj:j<4):cR cs c (j+1)=cR cs c j++(if aI c j∈cs then[]else[(aF c j,hdg j)]):=by
 have e:([0,1,2,3]:List Nat).take (j+1)=[0,1,2,3].take j++[j]:=by
  have cs:j=0\/j=1\/j=2\/j=3:=by omega
  rcases cs with rfl|rfl|rfl|rfl<;>rfl
 unfold cR;rw[e,fk,cf];congr 1;by_cases h:aI c j∈cs
 ·rw[ah h];simp[h]
 ·rw[af h];simp[h]
theorem lE(cs:List Pl)(c:Pl)(j:Nat):(cR cs c j).length<=4:=by unfold cR;rw[ai];refine de (dk _ _) ?_;rw[bu];simp;omega
def d7(cs:List Pl)(i:Nat):List (Pl×Int):=(cs.take i).flatMap (eJ cs)
theorem oB{cs:List Pl}{i:Nat}{c:Pl}(h:cs[i]? =some c):d7 cs (i+1)=d7 cs i++eJ cs c:=by unfold d7;rw[take_snoc h,ik];simp
theorem zW(cs:List Pl):cN [] (d7 cs cs.length)=d3 cs:=by unfold d7 d3 fN;rw[bg (au _)]
theorem zV(cs:List Pl)(i:Nat):(d7 cs i).length<=4*i:=by
 induction i with
 |zero=>simp[d7]
 |succ i ih=>
  cases h:cs[i]? with
  |some c=>rw[oB h,aj,<- tX];have:=lE cs c 4;omega
  |none=>
   have hl:cs.length<=i:=jf.mp h;have:d7 cs (i+1)=d7 cs i:=by unfold d7;rw[bg (by omega),bg hl]
   rw[this];omega
theorem u5{κ β:Type}[DecidableEq κ](l a:List (κ×β))(k:κ)(v:β):cN l (a++[(k,v)])=d5 (cN l a) k v:=by rw[xY];rfl
structure f9(l:Cells)(seen:List Point)(i:Nat)(ws:List Walk):Prop where
 IK:fC l seen ((c9 l).drop i)
 eq:ws++walksFrom l seen ((c9 l).drop i)=walksOf l
 nd:seen.Nodup
 out:∀y∈seen,(outOf l y).isSome=true
theorem f9.start(l:Cells):f9 l [] 0 [] where
 IK:=fC.starts l
 eq:=by
  show walksFrom l [] (c9 l)=walksFrom l [] (pointsOf l)
  rw[dE l (pointsOf l)];rfl
 nd:=by simp
 out:=by simp
theorem f9.skip{l:Cells}{seen:List Point}{i:Nat}{ws:List Walk}(h:f9 l seen i ws){p:Point}(hi:(c9 l)[i]? =some p)(hs:p∈seen):f9 l seen (i+1) ws:=by
 have g:=h.IK;have e:=h.eq;rw[drop_cons hi]at g e;refine⟨g.skip (.inl hs),?_,h.nd,h.out⟩;rw[<- e];show _=ws++(if seen.contains p=true then _ else _)
 rw[ah (by simpa using hs)]
theorem f9.done{l:Cells}{seen:List Point}{ws:List Walk}(h:f9 l seen (c9 l).length ws):ws=walksOf l:=by have e:=h.eq;rw[List.drop_eq_nil_of_le (au _)]at e;rw[<- e];simp[walksFrom]
theorem f9.len{l:Cells}(hp:pinched l=false){seen:List Point}{i:Nat}{ws:List Walk}(h:f9 l seen i ws):seen.length<=4*l.length:=by
 have h1:(iW seen).Nodup:=dJ h.nd fun x _ y _ e=>fW e
 have h2:=bX (b:=(d3 (iW l)).map (·.1)) h1 fun p hm=>by
  obtain⟨q,hq,rfl⟩:=ax.mp hm;have:=h.out q hq;cases e:outOf l q with
  |none=>rw[e]at this;cases this
  |some d=>exact(pW hp _).mpr ⟨q,d,rfl,e⟩
 have h3:=oA (iW l);simp only[iW,ai]at h2 h3;omega
theorem f9.next{l:Cells}(hp:pinched l=false){seen:List Point}{i:Nat}{ws:List Walk}(h:f9 l seen i ws){p:Point}(hi:(c9 l)[i]? =some p)(hs:p∉seen):
  ∃f:List (Pl×Int),mK (aN (d3 (iW l))) (iP p) f (iP p)/\f≠[]/\(f.map (·.1)).Nodup/\(∀y∈f.map (·.1),y∉iW seen)/\∃(ny:List Point)(w:Walk),iW ny=iW seen++f.map (·.1)/\iW w=bJ none f/\f9 l ny (i+1) (ws++[w]):=by
 have g:=h.IK;have e:=h.eq;rw[drop_cons hi]at g e;have hm:=ay hi;have ho:=(br.mp hm).2;obtain⟨d,ho⟩:∃d,outOf l p=some d:=by
  cases q:outOf l p with
  |none=>rw[q]at ho;cases ho
  |some d=>exact⟨d,rfl⟩
 obtain⟨f,p1,p2,p3,p4,p5,p6,p7⟩:=G7 hp g hs ho;have ek:(f.map iF).map (·.1)=iW (f.map (·.1)):=by simp[iW,iF,Function.comp_def]
 have nd2:(f.map (·.1)).Nodup:=by rw[ek]at p3;unfold iW at p3;exact List.Pairwise.of_map iP (fun a b ub z=>ub (by rw[z])) p3
 refine⟨f.map iF,p1,by intro z;exact p2 (by simpa using z),p3,?_,seen++f.map (·.1),cornersOf f,?_,p7,p5,?_,?_,?_⟩
 ·intro y hy;rw[ek]at hy;obtain⟨q,hq,rfl⟩:=ax.mp hy;intro z;exact p4 q hq (cZ.mp z)
 ·rw[ek];simp[iW]
 ·rw[<- e,p6];simp
 ·rw[cn];exact⟨h.nd,nd2,fun a ha b hb z=>p4 b hb (z▸ha)⟩
 ·intro y hy;rcases aw.mp hy with hy|hy
  ·exact h.out y hy
  ·have hk:iP y∈(f.map iF).map (·.1):=by rw[ek];exact cZ.mpr hy
   have pa:∀{a b:Pl}{r:List (Pl×Int)},mK (aN (d3 (iW l))) a r b->∀z∈r.map (·.1),(aN (d3 (iW l)) z).isSome=true:=by
    intro a b r pr;induction pr with
    |nil p=>intro z hz;cases hz
    |cons h1 _ _ _ ih=>
     intro z hz;rcases ak.mp hz with rfl|hz
     ·rw[h1];rfl
     ·exact ih z hz
   have:=pa p1 _ hk;rw[aV]at this;obtain⟨q,d',h1,h2⟩:=(pW hp _).mp this;rw[fW h1,h2];rfl
noncomputable def vC(c:Pl):List Pl:=[(2*c.1+0,2*c.2+0),(2*c.1+1,2*c.2+0),(2*c.1+0,2*c.2+1),(2*c.1+1,2*c.2+1)]
theorem yL{cs:List Pl}{i:Nat}{c:Pl}(h:cs[i]? =some c):eU (cs.take (i+1))=eU (cs.take i)++vC c:=by unfold eU;rw[take_snoc h,ik];simp[vC]
theorem B4(cs:List Pl):(eU cs).length=4*cs.length:=by
 unfold eU;induction cs with
 |nil=>rfl
 |cons c r ih=>rw[gb,aj,ih,bo];simp;omega
theorem EL(c:Pl){j:Nat}{q:Pl}(hq:([(0,0),(1,0),(0,1),(1,1)]:List Pl)[j]? =some q):(vC c).take (j+1)=(vC c).take j++[(2*c.1+q.1,2*c.2+q.2)]:=by
 have hj:j<4:=(aq.mp hq).1;have cs:j=0\/j=1\/j=2\/j=3:=by omega
 rcases cs with rfl|rfl|rfl|rfl<;>(cases hq;rfl)
theorem CT(p:Pl){j:Nat}{q:Pl}(hq:([(-1,-1),(0,-1),(1,-1),(-1,0),(1,0),(-1,1),(0,1),(1,1)]:List Pl)[j]? =some q):(cM p)[j]? =some (p.1+q.1,p.2+q.2):=by
 have hj:j<8:=(aq.mp hq).1;have cs:j=0\/j=1\/j=2\/j=3\/j=4\/j=5\/j=6\/j=7:=by omega
 rcases cs with rfl|rfl|rfl|rfl|rfl|rfl|rfl|rfl<;>(cases hq;rfl)
theorem LD(h:List Nat)(p:Pl){j:Nat}{q:Pl}(hq:([(-1,-1),(0,-1),(-1,0),(0,0)]:List Pl)[j]? =some q):(c7 h p)[j]? =some (bQ h (p.1+q.1,p.2+q.2)+1):=by
 have hj:j<4:=(aq.mp hq).1;have cs:j=0\/j=1\/j=2\/j=3:=by omega
 rcases cs with rfl|rfl|rfl|rfl<;>(cases hq;rfl)
structure AO(h:List Nat)(ht:List (Pl×Int)):Prop where
 val:∀q z,aN ht q=some z->z=hgt h q
 all:∀x∈h,∀c,c<4->aN ht (aF (hP x) c)=some (hgt h (aF (hP x) c))
structure gB(h:List Nat)(ht:List (Pl×Int))(i j:Nat):Prop where
 val:∀q z,aN ht q=some z->z=hgt h q
 old:∀m x,m<i->h[m]? =some x->∀c,c<4->(aN ht (aF (hP x) c)).isSome=true
 cur:∀x,h[i]? =some x->∀c,c<j->(aN ht (aF (hP x) c)).isSome=true
 len:ht.length<=4*i+j
theorem gB.start(h:List Nat):gB h [] 0 0:=⟨fun q z e=>(by cases e),fun m x hm=>by omega,fun x _ c hc=>by omega,bz _⟩
theorem gB.keep{h:List Nat}{ht:List (Pl×Int)}{i j:Nat}(a:gB h ht i j){r:Nat}(hr:h[i]? =some r)(hs:(aN ht (aF (hP r) j)).isSome=true):gB h ht i (j+1):=by
 refine⟨a.val,a.old,fun x hx c hc=>?_,by have:=a.len;omega⟩;by_cases e:c=j
 ·subst e;rw[hr]at hx;cases hx;exact hs
 ·exact a.cur x hx c (by omega)
theorem gB.put{h:List Nat}{ht:List (Pl×Int)}{i j:Nat}(a:gB h ht i j){r:Nat}(hr:h[i]? =some r):gB h (d5 ht (aF (hP r) j) (hgt h (aF (hP r) j))) i (j+1):=by
 have mono:∀q,(aN ht q).isSome=true->(aN (d5 ht (aF (hP r) j) (hgt h (aF (hP r) j))) q).isSome=true:=by
  intro q hq;rw[lH];split
  ·rfl
  ·exact hq
 refine⟨fun q z e=>?_,fun m x hm hx c hc=>mono _ (a.old m x hm hx c hc),fun x hx c hc=>?_,?_⟩
 ·rw[lH]at e;by_cases z':q=aF (hP r) j
  ·rw[ah z']at e;cases e;rw[z']
  ·rw[af z']at e;exact a.val q z e
 ·by_cases e:c=j
  ·subst e;rw[hr]at hx;cases hx;rw[lH,ah rfl];rfl
  ·exact mono _ (a.cur x hx c (by omega))
 ·have:=iB ht (aF (hP r) j) (hgt h (aF (hP r) j));have:=a.len;omega
theorem gB.next{h:List Nat}{ht:List (Pl×Int)}{i:Nat}(a:gB h ht i 4):gB h ht (i+1) 0:=by
 refine⟨a.val,fun m x hm hx c hc=>?_,by intro x _ c hc;omega,by have:=a.len;omega⟩;by_cases e:m=i
 ·subst e;exact a.cur x hx c hc
 ·exact a.old m x (by omega) hx c hc
theorem gB.done{h:List Nat}{ht:List (Pl×Int)}(a:gB h ht h.length 0):AO h ht:=by
 refine⟨a.val,fun x hx c hc=>?_⟩;obtain⟨m,hm⟩:=fe.mp hx;have:=a.old m x (aq.mp hm).1 hm c hc;cases e:aN ht (aF (hP x) c)with
 |none=>rw[e]at this;cases this
 |some z=>rw[a.val _ z e]
def wL(p:Pl):List T3:=[(p.1,p.2,0),(p.1,p.2,1),(p.1,p.2,2),(p.1,p.2,3)]
theorem AY{hs:List Pl}{i:Nat}{p:Pl}(h:hs[i]? =some p):gP (hs.take (i+1))=gP (hs.take i)++wL p:=by unfold gP;rw[take_snoc h,ik];simp[wL]
theorem EH(p:Pl){j:Nat}(hj:j<4):(wL p).take (j+1)=(wL p).take j++[(p.1,p.2,(j:Int))]:=by
 have cs:j=0\/j=1\/j=2\/j=3:=by omega
 rcases cs with rfl|rfl|rfl|rfl<;>rfl
theorem EE{hs:List Pl}{t:T3}(h:t∈gP hs):(t.1,t.2.1)∈hs:=by unfold gP at h;obtain⟨p,hp,h⟩:=cj.mp h;simp at h;rcases h with rfl|rfl|rfl|rfl<;>exact hp
theorem EG{hs:List Pl}(hn:hs.Nodup){i j:Nat}{p:Pl}(h:hs[i]? =some p)(hj:j<4):(p.1,p.2,(j:Int))∉gP (hs.take i)++(wL p).take j:=by
 intro z;rcases aw.mp z with z|z
 ·have:=EE z;simp only at this;obtain⟨m,hm⟩:=fe.mp this;have jr:m<i:=by have:=(aq.mp hm).1;rw[bu]at this;omega
  rw[fu jr]at hm;have h1:=(aq.mp hm).1;have hpw:=List.pairwise_iff_getElem.mp hn m i h1 (aq.mp h).1 jr;have e1:=(aq.mp hm).2;have e2:=(aq.mp h).2;exact hpw (e1.trans e2.symm)
 ·have cs:j=0\/j=1\/j=2\/j=3:=by omega
  rcases cs with rfl|rfl|rfl|rfl<;>simp[wL]at z
theorem EF(hs:List Pl)(i:Nat):(gP (hs.take i)).length<=4*hs.length:=by rw[jC,bu];omega
section
variable {α:Type}{ok:α->Prop}{nb:α->List α}{U:α->Prop}{t0:α}
theorem gI.iff{N N' W:List α}(h:gI ok nb U t0 N W)(e:∀x,x∈N'↔x∈N):gI ok nb U t0 N' W:=
 ⟨fun x hx=>h.new x ((e x).mp hx),h.wait,h.start.imp (e t0).mpr id,fun x hx u hu ou uu=>(h.pE x ((e x).mp hx) u hu ou uu).imp (e u).mpr id⟩
theorem gI.pop{N W:List α}{x:α}(h:gI ok nb U t0 N (W++[x]))(o0:ok t0)(u0:¬U t0)(hx:¬ok x\/U x\/x∈N):gI ok nb U t0 N W:=
 h.skip o0 u0 (x:=x) (fun y hy=>cc _ hy) (fun y hy=>by
  rcases aw.mp hy with q|q
  ·exact .inl q
  ·exact .inr (by simpa using q)) hx
theorem gI.push{N W:List α}{x:α}(h:gI ok nb U t0 N (W++[x]))(ox:ok x)(ux:¬U x):gI ok nb U t0 (N++[x]) (W++nb x):=by
 refine(h.take (x:=x) (W':=W++nb x) (by simp) ox ux (fun y hy=>?_) (fun y hy=>?_) fun u hu _ _=>bc _ hu).iff fun y=>by simp[or_comm]
 ·rcases aw.mp hy with q|q
  ·exact .inl (cc _ q)
  ·exact .inr q
 ·rcases aw.mp hy with q|q
  ·exact .inl (cc _ q)
  ·exact .inr (by simpa using q)
end
theorem FJ{h:List Nat}{t:T3}{z:Int}(e:aN (dZ h) t=some z):0<=t.2.2/\t.2.2<4:=by
 have hm:t∈(trianglesOf h).map tP:=by apply Classical.byContradiction;intro q;rw[A8 h t q]at e;cases e
 obtain⟨u,_,rfl⟩:=ax.mp hm;unfold tP;dsimp only;omega
theorem m7(h:List Nat):(dZ h).map (·.1)=(trianglesOf h).map tP:=by unfold dZ;rw[kO,kE]
theorem yE(h:List Nat):(trianglesOf h).length=4*h.length:=by have:=jC (h.map hP);rw[kE,ai,ai]at this;exact this
theorem DC:∀(Ns:List (List T3))(j:Nat)(x:T3×Int),x∈aE j Ns->(j:Int)<=x.2
 |[],j,x,h=>by cases h
 |N::r,j,x,h=>by
  rcases aw.mp (show x∈N.map (fun p=>(p,(j:Int)))++aE (j+1) r from h)with h|h
  ·obtain⟨p,_,rfl⟩:=ax.mp h;exact le_refl _
  ·have:=DC r (j+1) x h;omega
theorem z9:∀(A B:List (List T3))(j:Nat),(∀N∈A,N≠[])->(∀N∈B,N≠[])->aE j A=aE j B->A=B
 |[],[],_,_,_,_=>rfl
 |[],N::r,j,_,hB,e=>by
  have e:([]:List (T3×Int))=N.map (fun p=>(p,(j:Int)))++aE (j+1) r:=e;have:=hB N (by simp);cases N with
  |nil=>exact absurd rfl this
  |cons _ _=>simp at e
 |N::r,[],j,hA,_,e=>by
  have e:N.map (fun p=>(p,(j:Int)))++aE (j+1) r=[]:=e;have:=hA N (by simp);cases N with
  |nil=>exact absurd rfl this
  |cons _ _=>simp at e
 |N::r,M::s,j,hA,hB,e=>by
  have e:N.map (fun p=>(p,(j:Int)))++aE (j+1) r=M.map (fun p=>(p,(j:Int)))++aE (j+1) s:=e;have none_of:∀q:List (List T3),(aE (j+1) q).filter (fun x=>decide (x.2=(j:Int)))=[]:=by intro q;rw[List.filter_eq_nil_iff];intro x hx;have:=DC q (j+1) x hx;simp;omega
  have all_of:∀q:List T3,(q.map (fun p=>(p,(j:Int)))).filter (fun x=>decide (x.2=(j:Int)))=q.map (fun p=>(p,(j:Int))):=by intro q;rw[List.filter_eq_self];intro x hx;obtain⟨p,_,rfl⟩:=ax.mp hx;simp
  have e2:=congrArg (List.filter (fun x=>decide (x.2=(j:Int)))) e;rw[fk,fk,none_of,none_of,all_of,all_of,da,da]at e2;have eN:N=M:=by
   have:=congrArg (List.map Prod.fst) e2;rw[fh,fh]at this;have id1:∀q:List T3,q.map (Prod.fst∘fun p=>(p,(j:Int)))=q:=fun q=>map_id q
   rw[id1,id1]at this;exact this
  subst eN;have e3:=List.append_cancel_left e;rw[z9 r s (j+1) (fun x hx=>hA x (by simp[hx])) (fun x hx=>hB x (by simp[hx])) e3]
theorem vO:∀(Ns:List (List T3))(k i:Nat)(t:T3)(m:Int),(∀N∈Ns,N≠[])->(aE k Ns)[i]? =some (t,m)->(i=0/\m=(k:Int))\/(0<i/\∃t' m',(aE k Ns)[i - 1]? =some (t',m')/\(m=m'\/m=m'+1))
 |[],k,i,t,m,_,h=>by simp[aE]at h
 |N::r,k,i,t,m,jn,h=>by
  have h:(N.map (fun p=>(p,(k:Int)))++aE (k+1) r)[i]? =some (t,m):=h;show(i=0/\m=(k:Int))\/(0<i/\∃t' m',(N.map (fun p=>(p,(k:Int)))++aE (k+1) r)[i - 1]? =some (t',m')/\(m=m'\/m=m'+1))
  have hN:0<N.length:=fy.mpr (jn N (by simp));have lN:(N.map (fun p=>(p,(k:Int)))).length=N.length:=by simp
  have inN:∀j,j<N.length->∃t',(N.map (fun p=>(p,(k:Int)))++aE (k+1) r)[j]? =some (t',(k:Int)):=by intro j hj;refine⟨N[j],?_⟩;rw[gy (by omega),bf,bx hj];rfl
  by_cases c:i<N.length
  ·obtain⟨t',su⟩:=inN i c;rw[su]at h;cases h;by_cases i0:i=0
   ·exact .inl ⟨i0,rfl⟩
   ·obtain⟨t2,Bo⟩:=inN (i - 1) (by omega);exact .inr ⟨by omega,t2,_,Bo,.inl rfl⟩
  ·rw[dj (by omega),lN]at h;rcases vO r (k+1) (i - N.length) t m (fun x hx=>jn x (by simp[hx])) h with⟨e1,e2⟩|⟨e1,t',m',e2,e3⟩
   ·obtain⟨t2,Bo⟩:=inN (i - 1) (by omega);exact .inr ⟨by omega,t2,_,Bo,.inr (by omega)⟩
   ·refine .inr ⟨by omega,t',m',?_,e3⟩;rw[dj (by omega),lN,show i - 1 - N.length=i - N.length - 1 by omega];exact e2
structure qG(Ns:List (List T3))(i:Nat)(Fs:List (List T3)):Prop where
 eq:aE 0 Fs=(aE 0 Ns).take i
 ne:∀F∈Fs,F≠[]
theorem qG.start(Ns:List (List T3)):qG Ns 0 []:=⟨rfl,by simp⟩
theorem qG.done{Ns Fs:List (List T3)}(jn:∀N∈Ns,N≠[])(h:qG Ns (aE 0 Ns).length Fs):Fs=Ns:=by have e:=h.eq;rw[bg (au _)]at e;exact z9 Fs Ns 0 h.ne jn e
theorem qG.step{Ns Fs:List (List T3)}(jn:∀N∈Ns,N≠[]){i:Nat}{t:T3}{m:Int}(h:qG Ns i Fs)(hi:(aE 0 Ns)[i]? =some (t,m)):
  (m=(Fs.length:Int)/\qG Ns (i+1) (Fs++[[]++[t]]))\/∃F L,Fs=F++[L]/\m=(F.length:Int)/\qG Ns (i+1) (F++[L++[t]]):=by
 have ql:=(aq.mp hi).1;have new:m=(Fs.length:Int)->qG Ns (i+1) (Fs++[[]++[t]]):=by
  intro em;refine⟨?_,fun F hF=>?_⟩
  ·rw[j0,h.eq,take_snoc hi,em];rfl
  ·rcases aw.mp hF with hF|hF
   ·exact h.ne F hF
   ·have:F=[t]:=by simpa using hF
    rw[this];simp
 rcases vO Ns 0 i t m jn hi with⟨i0,m0⟩|⟨ip,t',m',qz,hm⟩
 ·subst i0;have hF:Fs=[]:=by
   cases Fs with
   |nil=>rfl
   |cons F r=>
    have e:=h.eq;have:=h.ne F (by simp);cases F with
    |nil=>exact absurd rfl this
    |cons _ _=>simp[aE]at e
  subst hF;exact .inl ⟨by rw[m0];rfl,new (by rw[m0];rfl)⟩
 ·have Bz:Fs≠[]:=by intro z;have e:=h.eq;rw[z]at e;have:=congrArg List.length e;rw[bu]at this;simp[aE]at this;omega
  obtain⟨F,L,eF⟩:∃F L,Fs=F++[L]:=⟨Fs.dropLast,Fs.getLast Bz,(iu Bz).symm⟩
  subst eF;have hL:L≠[]:=h.ne L (by simp);have e:=h.eq;rw[j0]at e;have el:(aE 0 F++L.map fun p=>(p,(F.length:Int))).length=i:=by rw[e,bu];omega
  have hLp:0<L.length:=fy.mpr hL;have xr:(aE 0 F++L.map fun p=>(p,(F.length:Int)))[i - 1]? =some (L[L.length - 1],(F.length:Int)):=by rw[aj,ai]at el;rw[dj (by omega),bf,show i - 1 - (aE 0 F).length=L.length - 1 by omega,bx (by omega)];rfl
  rw[e,fu (by omega),qz]at xr;cases xr;rcases hm with hm|hm
  ·refine .inr ⟨F,L,rfl,hm,?_,fun G hG=>?_⟩
   ·rw[j0,cf,<- dz,e,take_snoc hi,hm];rfl
   ·rcases aw.mp hG with hG|hG
    ·exact h.ne G (by simp[hG])
    ·have:G=L++[t]:=by simpa using hG
     rw[this];simp
  ·have em:m=((F++[L]).length:Int):=by rw[hm,aj];simp
   exact .inl ⟨em,new em⟩
noncomputable def EU(h g:List Nat)(t:T3):Int:=
 if(t.1,t.2.1)∉h.map hP then 2 else if(t.1,t.2.1)∉g.map hP then 3 else
 if bQ h (t.1,t.2.1)=bQ g (t.1,t.2.1)/\hgt h (aF (t.1,t.2.1) t.2.2.toNat)=hgt g (aF (t.1,t.2.1) t.2.2.toNat)/\hgt h (aF (t.1,t.2.1) (t.2.2.toNat+1))=hgt g (aF (t.1,t.2.1) (t.2.2.toNat+1))then 0 else 1
theorem DR{h:List Nat}(hh:∀r∈h,okR r){r:Nat}(hr:okR r):hP r∈h.map hP↔r∈h:=by
 constructor
 ·intro q;obtain⟨x,hx,e⟩:=ax.mp q;exact pY (hh x hx) hr e▸hx
 ·exact fun q=>ax.mpr ⟨r,q,rfl⟩
theorem rW{l:Cells}(hb:∀c∈l,c.1<64/\c.2<64)(t:Nat):(topOf l).in_ t=true↔t/4∈halvesOf l:=by have e:(topOf l).in_ t=decide (0<(gridOf (halvesOf l)).val (t/4)):=rfl;rw[e,decide_eq_true_iff,xK (bD hb)]
section
variable {l m:Cells} (hl:∀c∈l,c.1<64/\c.2<64) (hm:∀c∈m,c.1<64/\c.2<64)
include hl hm
theorem same_iff{t:Nat}(h1:t/4∈halvesOf l)(h2:t/4∈halvesOf m):same (topOf l) (topOf m) t=true↔bQ (halvesOf l) (hP (t/4))=bQ (halvesOf m) (hP (t/4))/\hgt (halvesOf l) (aF (hP (t/4)) (t%4))=hgt (halvesOf m) (aF (hP (t/4)) (t%4))/\hgt (halvesOf l) (aF (hP (t/4)) (t%4+1))=hgt (halvesOf m) (aF (hP (t/4)) (t%4+1)):=by have e:same (topOf l) (topOf m) t=((gridOf (halvesOf l)).val (t/4)==(gridOf (halvesOf m)).val (t/4)&& ([t%4,t%4+1].all fun(c:Nat)=>heightOf (gridOf (halvesOf l)) (t/4) c==heightOf (gridOf (halvesOf m)) (t/4) c)):=rfl;rw[e,qB (bD hl) h1,qB (bD hm) h2,gV,gV,mT,mT,mT,mT];simp only[all_cons,all_nil,Bool.and_true,cg,beq_iff_eq];unfold heightOf;omega
theorem K9{t:Nat}(hr:okR (t/4))(vx:t/4∈halvesOf l\/t/4∈halvesOf m):∃k:Nat,lot (topOf l) (topOf m) t=some k/\EU (halvesOf l) (halvesOf m) (tP t)=(k:Int)/\k<4:=by
 have e1:((tP t).1,(tP t).2.1)=hP (t/4):=rfl;have e2:(tP t).2.2.toNat=t%4:=by unfold tP;dsimp only;omega
 unfold EU lot;rw[e1,e2];have m1:=DR (bD hl) hr;have m2:=DR (bD hm) hr;by_cases c1:t/4∈halvesOf l
 ·rw[ah ((rW hl t).mpr c1),af (not_not_intro (m1.mpr c1))];by_cases c2:t/4∈halvesOf m
  ·rw[ah ((rW hm t).mpr c2),af (not_not_intro (m2.mpr c2))];by_cases c3:same (topOf l) (topOf m) t=true
   ·rw[ah c3,ah ((same_iff hl hm c1 c2).mp c3)];exact⟨0,rfl,rfl,by decide⟩
   ·rw[af c3,af (fun z=>c3 ((same_iff hl hm c1 c2).mpr z))];exact⟨1,rfl,rfl,by decide⟩
  ·rw[af (fun z=>c2 ((rW hm t).mp z)),ah (show¬ _ from fun z=>c2 (m2.mp z))];exact⟨3,rfl,rfl,by decide⟩
 ·have c2:t/4∈halvesOf m:=vx.resolve_left c1;rw[af (fun z=>c1 ((rW hl t).mp z)),ah (show¬ _ from fun z=>c1 (m1.mp z)),ah ((rW hm t).mpr c2)];exact⟨2,rfl,rfl,by decide⟩
end
section
variable {i j s:Int}{t u:List Int}
theorem BH{t:List Int}{f:Top->RoofB.Answer}(h:houseOf (RoofBNeutral.text t)=none):RoofB.ofTop (RoofBNeutral.text t) f=[-1]:=by unfold RoofB.ofTop;rw[h];rfl
theorem sW{t:List Int}{f:Top->RoofB.Answer}{l:Cells}(h:houseOf (RoofBNeutral.text t)=some l):RoofB.ofTop (RoofBNeutral.text t) f=f (topOf l):=by unfold RoofB.ofTop;rw[h]
end
theorem FL{h:List Nat}{p:Pl}(m:p∈h.map hP):aN (bT h) p=some (bQ h p):=by unfold bT;rw[lI,ah m]
theorem AO.at{h:List Nat}{ht:List (Pl×Int)}{p:Pl}(o:AO h ht)(m:p∈h.map hP){c:Nat}(hc:c<5):aN ht (aF p c)=some (hgt h (aF p c)):=by
 obtain⟨r,hr,rfl⟩:=ax.mp m;by_cases c4:c<4
 ·exact o.all r hr c c4
 ·have e:c=4:=by omega
  subst e;exact o.all r hr 0 (by decide)
theorem Numbering.oO{l:Cells}{Ns:List (List T3)}(R:Numbering (halvesOf l) (trianglesOf (halvesOf l)).length Ns){k:Nat}{N:List T3}(hk:Ns[k]? =some N)(p:T3):p∈N↔∃t∈(topOf l).tris,tP t=p/\(topOf l).face t=k:=by
 obtain⟨a1,_,a3,nd,_⟩:=R.all (au _);constructor
 ·intro hp;have e:=(rN Ns 0 p ((0+k:Nat):Int) nd).mpr ⟨k,N,hk,hp,rfl⟩;by_cases q:p∈(topOf l).tris.map tP
  ·obtain⟨t,ht,rfl⟩:=ax.mp q;rw[a1 t ht]at e;exact⟨t,ht,rfl,by have:=Option.some.inj e;omega⟩
  ·rw[a3 p q]at e;cases e
 ·rintro⟨t,ht,rfl,hf⟩;obtain⟨i,N',h1,h2,h3⟩:=(rN Ns 0 (tP t) _ nd).mp (a1 t ht);have:i=k:=by omega
  subst this;rw[hk]at h1;cases h1;exact h2
theorem GH{l m:Cells}(hl:∀c∈l,c.1<64/\c.2<64)(hm:∀c∈m,c.1<64/\c.2<64){Ns:List (List T3)}(R:Numbering (halvesOf l) (trianglesOf (halvesOf l)).length Ns){k:Nat}{N:List T3}(hk:Ns[k]? =some N):
  staysFace (topOf l) (topOf m) k=N.all fun t=>decide (EU (halvesOf l) (halvesOf m) t=0):=by
 rw[dh];unfold staysFace Top.trisOf;rw[fi,fi];have val:∀t∈(topOf l).tris,(lot (topOf l) (topOf m) t==some 0)=true↔EU (halvesOf l) (halvesOf m) (tP t)=0:=fun t ht=>by
  have hr:t/4∈halvesOf l:=fL.mp ht;obtain⟨v,e1,e2,_⟩:=K9 hl hm (bD hl _ hr) (.inl hr);rw[e1,e2,beq_iff_eq];constructor
  ·intro q;have:=Option.some.inj q;omega
  ·intro q;have:v=0:=by omega
   rw[this]
 constructor
 ·intro h p hp;obtain⟨t,ht,rfl,hf⟩:=(R.oO hk p).mp hp;exact decide_eq_true ((val t ht).mp (h t (br.mpr ⟨ht,by rw[hf];simp⟩)))
 ·intro h t ht;obtain⟨ht,hf⟩:=br.mp ht;exact(val t ht).mpr (ba (h (tP t) ((R.oO hk _).mpr ⟨t,ht,rfl,by simpa using hf⟩)))
theorem Numbering.side{l:Cells}{Ns:List (List T3)}(R:Numbering (halvesOf l) (trianglesOf (halvesOf l)).length Ns):∀N∈Ns,∀t∈N,0<=t.2.2/\t.2.2<4:=by
 intro N hN p hp;obtain⟨k,hk⟩:=fe.mp hN;obtain⟨t,ht,rfl,_⟩:=(R.oO hk p).mp hp;show 0<=((t%4:Nat):Int)/\((t%4:Nat):Int)<4
 omega
theorem zE{α:Type}:∀{Ns:List (List α)},(∀N∈Ns,N≠[])->Ns.length<=Ns.flatten.length
 |[],_=>au _
 |N::r,h=>by
  have:=zE (Ns:=r) fun M hM=>h M (ar _ hM)
  have:=fy.mpr (h N bb);rw[ja,aj,bo];omega
theorem HX{α:Type}:∀{Ns:List (List α)}{N:List α},N∈Ns->N.length<=Ns.flatten.length
 |M::r,N,h=>by
  rw[ja,aj];rcases ak.mp h with rfl|h
  ·omega
  ·have:=HX h;omega
theorem Numbering.small{l:Cells}{Ns:List (List T3)}(R:Numbering (halvesOf l) (trianglesOf (halvesOf l)).length Ns)(mz:l.length<=256):Ns.flatten.length<=4096/\Ns.length<=4096/\∀N∈Ns,N.length<=4096:=by
 obtain⟨lab,firsts,O,_,_⟩:=R.ex;have h2:=bX O.nd O.sub;have tl:=jC ((halvesOf l).map hP);rw[kE,ai,ai,iN]at tl;rw[ai]at h2;have f:Ns.flatten.length<=4096:=by omega
 exact⟨f,de (zE O.ne) f,fun N hN=>de (HX hN) f⟩
theorem Numbering.half{l:Cells}{Ns:List (List T3)}(R:Numbering (halvesOf l) (trianglesOf (halvesOf l)).length Ns):∀N∈Ns,∀t∈N,(t.1,t.2.1)∈(halvesOf l).map hP:=by intro N hN p hp;obtain⟨k,hk⟩:=fe.mp hN;obtain⟨t,ht,rfl,_⟩:=(R.oO hk p).mp hp;exact ax.mpr ⟨t/4,fL.mp ht,rfl⟩
theorem D9{α:Type}[DecidableEq α]:∀{A B:List α},A.Nodup->B.Nodup->(∀x,x∈A↔x∈B)->A.Perm B
 |[],B,_,_,h=>by
  cases B with
  |nil=>exact .nil
  |cons b B=>exact absurd ((h b).mpr bb) (by simp)
 |a::A,B,ha,hb,h=>by
  rw[dc]at ha;have hm:a∈B:=(h a).mp bb;refine List.Perm.trans ?_ (List.perm_cons_erase hm).symm;refine List.Perm.cons a (D9 ha.2 (hb.erase a) fun x=>?_);rw[hb.mem_erase_iff];constructor
  ·intro hx;exact⟨fun e=>ha.1 (e▸hx),(h x).mp (ar _ hx)⟩
  ·rintro⟨n,hx⟩;rcases ak.mp ((h x).mpr hx)with e|e
   ·exact absurd e n
   ·exact e
section
variable {hs:List Pl}
theorem EZ:∀{k:Nat}{p:Pl},p∈aO hs (k+1)->p∈aO hs k:=fun h=>(br.mp h).1
theorem zH{p:Pl}:∀{k m:Nat},k<=m->p∈aO hs m->p∈aO hs k:=by
 intro k m hkm h;induction m with
 |zero=>rw[show k=0 by omega];exact h
 |succ m ih=>
  by_cases c:k=m+1
  ·rw[c];exact h
  ·exact ih (by omega) (EZ h)
theorem vS:∀(k:Nat)(p:Pl),p∈aO hs k↔∀dx dy:Int,-(k:Int)<=dx->dx<=k->-(k:Int)<=dy->dy<=k->(p.1+dx,p.2+dy)∈hs
 |0,p=>by
  constructor
  ·intro h dx dy a b c d;have e1:dx=0:=by omega
   have e2:dy=0:=by omega
   subst e1 e2;have:(p.1+0,p.2+0)=p:=by simp
   rw[this];exact h
  ·intro h;have:=h 0 0 (by omega) (by omega) (by omega) (by omega);have e:(p.1+0,p.2+0)=p:=by simp
   rw[e]at this;exact this
 |k+1,p=>by
  have ih:=vS k;show p∈(aO hs k).filter _↔ _
  rw[br];simp only[fi,gx];constructor
  ·rintro⟨h0,h8⟩ dx dy a b c d;have near:∀sx sy:Int,(-1<=sx/\sx<=1)->(-1<=sy/\sy<=1)->(p.1+sx,p.2+sy)∈aO hs k:=by
    intro sx sy hx hy;have cx:sx=-1\/sx=0\/sx=1:=by omega
    have cy:sy=-1\/sy=0\/sy=1:=by omega
    rcases cx with rfl|rfl|rfl<;>rcases cy with rfl|rfl|rfl
    ·exact h8 _ (by simp[cM])
    ·exact h8 _ (by simp[cM])
    ·exact h8 _ (by simp[cM])
    ·exact h8 _ (by simp[cM])
    ·have:(p.1+0,p.2+0)=p:=by simp
     rw[this];exact h0
    ·exact h8 _ (by simp[cM])
    ·exact h8 _ (by simp[cM])
    ·exact h8 _ (by simp[cM])
    ·exact h8 _ (by simp[cM])
   obtain⟨sx,hx,x1,x2⟩:∃sx:Int,(-1<=sx/\sx<=1)/\-(k:Int)<=dx - sx/\dx - sx<=k:=by
    by_cases c1:dx=(k:Int)+1
    ·exact⟨1,by omega,by omega,by omega⟩
    ·by_cases c2:dx=-((k:Int)+1)
     ·exact⟨-1,by omega,by omega,by omega⟩
     ·exact⟨0,by omega,by omega,by omega⟩
   obtain⟨sy,hy,y1,y2⟩:∃sy:Int,(-1<=sy/\sy<=1)/\-(k:Int)<=dy - sy/\dy - sy<=k:=by
    by_cases c1:dy=(k:Int)+1
    ·exact⟨1,by omega,by omega,by omega⟩
    ·by_cases c2:dy=-((k:Int)+1)
     ·exact⟨-1,by omega,by omega,by omega⟩
     ·exact⟨0,by omega,by omega,by omega⟩
   have:=(ih _).mp (near sx sy hx hy) (dx - sx) (dy - sy) x1 x2 y1 y2;have e:(p.1+sx+(dx - sx),p.2+sy+(dy - sy))=(p.1+dx,p.2+dy):=by
    apply Prod.ext
    ·show p.1+sx+(dx - sx)=p.1+dx;omega
    ·show p.2+sy+(dy - sy)=p.2+dy;omega
   rw[e]at this;exact this
  ·intro h;have sub:∀sx sy:Int,(-1<=sx/\sx<=1)->(-1<=sy/\sy<=1)->(p.1+sx,p.2+sy)∈aO hs k:=by
    intro sx sy hx hy;refine(ih _).mpr fun dx dy a b c d=>?_
    have:=h (sx+dx) (sy+dy) (by omega) (by omega) (by omega) (by omega);have e:(p.1+sx+dx,p.2+sy+dy)=(p.1+(sx+dx),p.2+(sy+dy)):=by rw[Int.add_assoc,Int.add_assoc]
    show(p.1+sx+dx,p.2+sy+dy)∈hs
    rw[e];exact this
   refine⟨?_,fun q hq=>?_⟩
   ·have:=sub 0 0 (by omega) (by omega);have e:(p.1+0,p.2+0)=p:=by simp
    rw[e]at this;exact this
   ·simp only[cM,ak,dq,or_false]at hq;rcases hq with rfl|rfl|rfl|rfl|rfl|rfl|rfl|rfl<;>exact sub _ _ (by omega) (by omega)
theorem DV:∀(n k:Nat)(p:Pl),k<n->((k:Int)<=gG hs n p↔p∈aO hs k)
 |0,k,p,h=>by omega
 |n+1,k,p,h=>by
  show(k:Int)<=(if p∈aO hs n then(n:Int)else gG hs n p)↔ _
  by_cases c:p∈aO hs n
  ·rw[ah c];exact⟨fun _=>zH (by omega) c,fun _=>by omega⟩
  ·rw[af c];by_cases e:k=n
   ·subst e;refine⟨fun q=>?_,fun q=>absurd q c⟩;exfalso;have:∀m:Nat,gG hs m p<m:=by
     intro m;induction m with
     |zero=>show(-1:Int)<0;decide
     |succ m ih=>
      show(if p∈aO hs m then(m:Int)else gG hs m p)< _
      split<;>omega
    have:=this k;omega
   ·exact DV n k p (by omega)
theorem xV(p:Pl):∀m:Nat,-1<=gG hs m p/\gG hs m p<m
 |0=>⟨by show(-1:Int)<=-1;decide,by show(-1:Int)<0;decide⟩
 |m+1=>by
  have ih:=xV p m;show -1<=(if p∈aO hs m then(m:Int)else gG hs m p)/\(if p∈aO hs m then(m:Int)else gG hs m p)< _
  split<;>omega
end
section
variable {h:List Nat} (hh:∀r∈h,okR r)
include hh
theorem xU(k:Nat)(p:Pl):(k:Int)<=bQ h p↔∀dx dy:Int,-(k:Int)<=dx->dx<=k->-(k:Int)<=dy->dy<=k->(p.1+dx,p.2+dy)∈h.map hP:=by
 rw[<- vS];unfold bQ;by_cases c:p∈h.map hP
 ·rw[ah c];by_cases ck:k<64
  ·exact DV 64 k p ck
  ·constructor
   ·intro q;have:=(xV (hs:=h.map hP) p 64).2;omega
   ·intro q;rw[cY hh,eD hh (by omega)]at q;cases q
 ·rw[af c];constructor
  ·intro q;omega
  ·intro q;exact absurd (zH (k:=0) (bz _) q) c
theorem AD(p:Pl):-1<=bQ h p/\bQ h p<64:=by
 unfold bQ;split
 ·exact xV p 64
 ·omega
theorem IY(p:Pl):0<=bQ h p↔p∈h.map hP:=by
 have:=xU hh 0 p;rw[show((0:Nat):Int)=0 from rfl]at this;rw[this];constructor
 ·intro q;have:=q 0 0 (by omega) (by omega) (by omega) (by omega);have e:(p.1+0,p.2+0)=p:=by simp
  rwa [e]at this
 ·intro q dx dy a b c d;have e1:dx=0:=by omega
  have e2:dy=0:=by omega
  subst e1 e2;have e:(p.1+0,p.2+0)=p:=by simp
  rw[e];exact q
theorem L6{p:Pl}{k:Int}(h1:bQ h p<k)(h0:0<=k):∃q:Pl,q∉h.map hP/\-k<=q.1 - p.1/\q.1 - p.1<=k/\-k<=q.2 - p.2/\q.2 - p.2<=k:=by
 obtain⟨n,rfl⟩:∃n:Nat,k=n:=⟨k.toNat,by omega⟩
 have:=(not_congr (xU hh n p)).mp (by omega);apply Classical.byContradiction;intro c;apply this;intro dx dy a b e f;apply Classical.byContradiction;intro g;exact c ⟨_,g,by simp;omega,by simp;omega,by simp;omega,by simp;omega⟩
theorem CJ{p q:Pl}{k:Int}(hq:q∉h.map hP)(a:-k<=q.1 - p.1)(b:q.1 - p.1<=k)(c:-k<=q.2 - p.2)(d:q.2 - p.2<=k):bQ h p<k:=by
 apply Classical.byContradiction;intro g;obtain⟨n,rfl⟩:∃n:Nat,k=n:=⟨k.toNat,by omega⟩
 have:=(xU hh n p).mp (by omega) (q.1 - p.1) (q.2 - p.2) a b c d;have e:(p.1+(q.1 - p.1),p.2+(q.2 - p.2))=q:=by
  apply Prod.ext
  ·show p.1+(q.1 - p.1)=q.1;omega
  ·show p.2+(q.2 - p.2)=q.2;omega
 rw[e]at this;exact hq this
end
theorem gN{l:Cells}(hb:∀c∈l,c.1<64/\c.2<64)(q:Pl):q∈(halvesOf l).map hP↔(q.1/2,q.2/2)∈iW l:=by
 have e:q∈(halvesOf l).map hP↔q∈eU (iW l):=by
  rw[vB hb,ax,ax];constructor
  ·rintro⟨r,hr,z⟩;exact⟨r,mU.mp hr,z⟩
  ·rintro⟨r,hr,z⟩;exact⟨r,mU.mpr hr,z⟩
 rw[e];unfold eU;rw[cj];constructor
 ·rintro⟨c,hc,hq⟩;have:(q.1/2,q.2/2)=c:=by simp only[ak,dq,or_false]at hq;rcases hq with rfl|rfl|rfl|rfl<;>(apply Prod.ext<;>(dsimp only;omega))
  rw[this];exact hc
 ·intro hc;refine⟨_,hc,?_⟩;simp only[ak,dq,or_false,Prod.ext_iff];omega
section
variable {l:Cells} (hb:∀c∈l,c.1<64/\c.2<64)
include hb
abbrev nb(l:Cells)(p:Pl)(dx dy:Int):Int:=bQ (halvesOf l) (p.1+dx,p.2+dy)
variable {p:Pl}
theorem MJ{d:Int}{dx dy:Int}(h:nb l p dx dy<d)(h0:0<=d):∃q:Pl,q∉ (halvesOf l).map hP/\-d<=q.1 - p.1 - dx/\q.1 - p.1 - dx<=d/\-d<=q.2 - p.2 - dy/\q.2 - p.2 - dy<=d:=by obtain⟨q,h1,h2,h3,h4,h5⟩:=L6 (bD hb) (p:=(p.1+dx,p.2+dy)) h h0;dsimp only at h2 h3 h4 h5;exact⟨q,h1,by omega,by omega,by omega,by omega⟩
theorem SF(dx dy:Int)(hx:-1<=dx/\dx<=1)(hy:-1<=dy/\dy<=1):bQ (halvesOf l) p - 1<=nb l p dx dy:=by apply Classical.byContradiction;intro c;have lo:=(AD (bD hb) (p.1+dx,p.2+dy)).1;obtain⟨q,h1,h2,h3,h4,h5⟩:=MJ hb (p:=p) (d:=bQ (halvesOf l) p - 1) (dx:=dx) (dy:=dy) (by omega) (by have:nb l p dx dy=bQ (halvesOf l) (p.1+dx,p.2+dy):=rfl;omega);have:=CJ (bD hb) (p:=p) (k:=bQ (halvesOf l) p) h1 (by omega) (by omega) (by omega) (by omega);omega
end
section
variable {l:Cells} (hb:∀c∈l,c.1<64/\c.2<64)
include hb
omit hb in
theorem BN(x y:Int):min x y=x\/min x y=y:=(Int.le_total x y).imp Int.min_eq_left Int.min_eq_right
theorem nZ{r c:Nat}(hr:r∈halvesOf l):∀{a b d e:Int},c7 (halvesOf l) (aF (hP r) c)=[a,b,d,e]->hgt (halvesOf l) (aF (hP r) c)=min (min a b) (min d e):=by
 intro a b d e h;refine(DP (bD hb) hr ?_ ?_).symm
 ·rw[h];simp only[ak,dq,or_false];rcases BN (min a b) (min d e)with q|q
  ·rw[q];exact(BN a b).elim .inl fun q=>.inr (.inl q)
  ·rw[q];exact(BN d e).elim (fun q=>.inr (.inr (.inl q))) fun q=>.inr (.inr (.inr q))
 ·rw[h];intro x hx;simp only[ak,dq,or_false]at hx;rcases hx with rfl|rfl|rfl|rfl
  ·exact ir (gr _ _) (gr _ _)
  ·exact ir (gr _ _) (gh _ _)
  ·exact ir (gh _ _) (gr _ _)
  ·exact ir (gh _ _) (gh _ _)
theorem CL{r:Nat}(hr:r∈halvesOf l):∃d,bQ (halvesOf l) (hP r)=d/\0<=d/\d<64/\nb l (hP r) 0 0=d/\(∀dx dy:Int,(-1<=dx/\dx<=1)->(-1<=dy/\dy<=1)->d - 1<=nb l (hP r) dx dy)/\
  hgt (halvesOf l) (aF (hP r) 0)=min (min (nb l (hP r) (-1) (-1)+1) (nb l (hP r) 0 (-1)+1)) (min (nb l (hP r) (-1) 0+1) (d+1))/\
  hgt (halvesOf l) (aF (hP r) 1)=min (min (nb l (hP r) 0 (-1)+1) (nb l (hP r) 1 (-1)+1)) (min (d+1) (nb l (hP r) 1 0+1))/\
  hgt (halvesOf l) (aF (hP r) 2)=min (min (d+1) (nb l (hP r) 1 0+1)) (min (nb l (hP r) 0 1+1) (nb l (hP r) 1 1+1))/\
  hgt (halvesOf l) (aF (hP r) 3)=min (min (nb l (hP r) (-1) 0+1) (d+1)) (min (nb l (hP r) (-1) 1+1) (nb l (hP r) 0 1+1)):=by
 have e0:nb l (hP r) 0 0=bQ (halvesOf l) (hP r):=by
  show bQ _ ((hP r).1+0,(hP r).2+0)=_
  simp
 have m:=(AD (bD hb) (hP r)).2;have i0:=(IY (bD hb) (hP r)).mpr (ax.mpr ⟨r,hr,rfl⟩);refine⟨_,rfl,i0,m,e0,fun dx dy hx hy=>SF hb dx dy hx hy,?_,?_,?_,?_⟩
 ·refine nZ hb hr ?_;unfold c7 nb;have c0:aF (hP r) 0=((hP r).1,(hP r).2):=by unfold aF;simp
  rw[c0];simp
 ·refine nZ hb hr ?_;unfold c7 nb;have c0:aF (hP r) 1=((hP r).1+1,(hP r).2):=by unfold aF;simp
  rw[c0];simp[je]
 ·refine nZ hb hr ?_;unfold c7 nb;have c0:aF (hP r) 2=((hP r).1+1,(hP r).2+1):=by unfold aF;simp
  rw[c0];simp[je]
 ·refine nZ hb hr ?_;unfold c7 nb;have c0:aF (hP r) 3=((hP r).1,(hP r).2+1):=by unfold aF;simp
  rw[c0];simp[je]
noncomputable def HW(l:Cells)(p:Pl)(c:Nat):Prop:=hgt (halvesOf l) (aF p c)=bQ (halvesOf l) p
omit hb in
theorem SH(a b c d:Int):min (min a b) (min c d)=min (min a c) (min d b):=by rw[min_assoc,min_assoc,min_comm b,min_assoc]
omit hb in
theorem XI(a b c d:Int):min (min a b) (min c d)=min (min a c) (min d b):=SH a b c d
omit hb in
theorem oM{a b c d:Int}(ha:d - 1<=a)(hc:d - 1<=b)(hd:d - 1<=c){x:Int}(e:x=min (min (a+1) (b+1)) (min (c+1) (d+1))):(x=d↔(a<d\/b<d\/c<d))/\(x=d\/x=d+1):=by
 have l1:x<=a+1:=e▸ir (gr _ _) (gr _ _);have l2:x<=b+1:=e▸ir (gr _ _) (gh _ _);have l3:x<=c+1:=e▸ir (gh _ _) (gr _ _);have l4:x<=d+1:=e▸ir (gh _ _) (gh _ _);have g:d<=x:=e▸le_min.mpr ⟨le_min.mpr ⟨iw ha,iw hc⟩,le_min.mpr ⟨iw hd,Int.le_of_lt (Int.lt_add_one_iff.mpr (le_refl d))⟩⟩;have two:x=d\/x=d+1:=by omega
 have big:¬(a<d\/b<d\/c<d)->x=d+1:=fun n=>by
  have na:d<=a:=Int.not_lt.mp fun z=>n (.inl z)
  have nb:d<=b:=Int.not_lt.mp fun z=>n (.inr (.inl z))
  have nc:d<=c:=Int.not_lt.mp fun z=>n (.inr (.inr z))
  exact Int.le_antisymm l4 (e▸le_min.mpr ⟨le_min.mpr ⟨Int.add_le_add_right na 1,Int.add_le_add_right nb 1⟩,le_min.mpr ⟨Int.add_le_add_right nc 1,le_refl _⟩⟩)
 refine⟨⟨fun q=>?_,fun q=>?_⟩,two⟩
 ·apply Classical.byContradiction;intro n;have:=big n;omega
 ·rcases q with q|q|q<;>omega
theorem K8{r:Nat}(hr:r∈halvesOf l):∃d,bQ (halvesOf l) (hP r)=d/\0<=d/\d<64/\nb l (hP r) 0 0=d/\(∀dx dy:Int,(-1<=dx/\dx<=1)->(-1<=dy/\dy<=1)->d - 1<=nb l (hP r) dx dy)/\
  (HW l (hP r) 0↔(nb l (hP r) (-1) (-1)<d\/nb l (hP r) 0 (-1)<d\/nb l (hP r) (-1) 0<d))/\(HW l (hP r) 1↔(nb l (hP r) 0 (-1)<d\/nb l (hP r) 1 (-1)<d\/nb l (hP r) 1 0<d))/\
  (HW l (hP r) 2↔(nb l (hP r) 1 0<d\/nb l (hP r) 0 1<d\/nb l (hP r) 1 1<d))/\(HW l (hP r) 3↔(nb l (hP r) (-1) 0<d\/nb l (hP r) (-1) 1<d\/nb l (hP r) 0 1<d))/\
  (∀c,c<4->hgt (halvesOf l) (aF (hP r) c)=d\/hgt (halvesOf l) (aF (hP r) c)=d+1):=by
 obtain⟨d,ed,d0,d64,e0,ge,g0,g1,g2,g3⟩:=CL hb hr;have f0:=oM (ge (-1) (-1) (by decide) (by decide)) (ge 0 (-1) (by decide) (by decide)) (ge (-1) 0 (by decide) (by decide)) g0;have f1:=oM (ge 0 (-1) (by decide) (by decide)) (ge 1 (-1) (by decide) (by decide)) (ge 1 0 (by decide) (by decide)) (g1.trans (by rw[min_comm (d+1)]));have f2:=oM (ge 1 0 (by decide) (by decide)) (ge 0 1 (by decide) (by decide)) (ge 1 1 (by decide) (by decide)) (x:=hgt (halvesOf l) (aF (hP r) 2)) (by rw[g2,min_comm (d+1),SH]);have f3:=oM (ge (-1) 0 (by decide) (by decide)) (ge (-1) 1 (by decide) (by decide)) (ge 0 1 (by decide) (by decide)) (x:=hgt (halvesOf l) (aF (hP r) 3)) (by rw[g3,XI]);unfold HW;rw[ed];refine⟨d,rfl,d0,d64,e0,ge,f0.1,f1.1,f2.1,f3.1,fun c hc=>?_⟩;have cs:c=0\/c=1\/c=2\/c=3:=by clear g0 g1 g2 g3 f0 f1 f2 f3 ge;omega
 rcases cs with rfl|rfl|rfl|rfl
 ·exact f0.2
 ·exact f1.2
 ·exact f2.2
 ·exact f3.2
end
end RM
open Roof
open Roof
namespace RM
open Roof
noncomputable def iV(cs:List Pl)(x b:Int)(n:Nat):List Pl:=((List.range n).map fun(y:Nat)=>((x,b+(y:Int)):Pl)).filter fun q=>!decide (q∈cs)
noncomputable def gZ(cs:List Pl)(a b:Int)(m n:Nat):List Pl:=(List.range m).flatMap fun(x:Nat)=>iV cs (a+(x:Int)) b n
noncomputable def g7(cs:List Pl)(s:Pl×Pl):List Pl:=gZ cs (s.1.1/2) (s.1.2/2) (s.2.1/2+1 - s.1.1/2).toNat (s.2.2/2+1 - s.1.2/2).toNat
theorem p8{cs:List Pl}{x b:Int}{n:Nat}{q:Pl}:q∈iV cs x b n↔q.1=x/\b<=q.2/\q.2<b+n/\q∉cs:=by
 unfold iV;rw[br];simp only[ax,gu,fj,decide_eq_false_iff_not];constructor
 ·rintro⟨⟨y,hy,rfl⟩,h⟩;exact⟨rfl,by simp;omega,by simp;omega,h⟩
 ·rintro⟨rfl,h1,h2,h⟩;exact⟨⟨(q.2 - b).toNat,by omega,Prod.ext rfl (show b+((q.2 - b).toNat:Int)=q.2 by omega)⟩,h⟩
theorem uT{cs:List Pl}{a b:Int}{m n:Nat}{q:Pl}:q∈gZ cs a b m n↔a<=q.1/\q.1<a+m/\b<=q.2/\q.2<b+n/\q∉cs:=by
 unfold gZ;rw[cj];constructor
 ·rintro⟨x,hx,h⟩;have:=gu.mp hx;obtain⟨h1,h2,h3,h4⟩:=p8.mp h;exact⟨by omega,by omega,h2,h3,h4⟩
 ·rintro⟨h1,h2,h3,h4,h5⟩;exact⟨(q.1 - a).toNat,gu.mpr (by omega),p8.mpr ⟨by omega,h3,h4,h5⟩⟩
theorem uS{cs:List Pl}{s:Pl×Pl}{q:Pl}:q∈g7 cs s↔(s.1.1/2<=q.1/\q.1<=s.2.1/2/\s.1.2/2<=q.2/\q.2<=s.2.2/2)/\q∉cs:=by
 unfold g7;rw[uT];constructor
 ·rintro⟨h1,h2,h3,h4,h5⟩;exact⟨⟨h1,by omega,h3,by omega⟩,h5⟩
 ·rintro⟨⟨h1,h2,h3,h4⟩,h5⟩;exact⟨h1,by omega,h3,by omega,h5⟩
theorem y8(cs:List Pl)(x b:Int)(n:Nat):(iV cs x b n).Nodup:=by
 unfold iV;refine List.Nodup.sublist iq ?_;refine dJ List.nodup_range fun y _ z _ e=>?_
 have:b+(y:Int)=b+(z:Int):=congrArg Prod.snd e;omega
theorem qH(cs:List Pl)(a b:Int):∀(m n:Nat),(gZ cs a b m n).Nodup
 |0,n=>by simp[gZ]
 |m+1,n=>by
  have e:gZ cs a b (m+1) n=gZ cs a b m n++iV cs (a+(m:Int)) b n:=by simp[gZ,iz]
  rw[e,cn];refine⟨qH cs a b m n,y8 _ _ _ _,fun x hx y hy q=>?_⟩;subst q;have h1:=uT.mp hx;have h2:=p8.mp hy;omega
theorem ML{α:Type}{l:List α}{c:α}(hn:l.Nodup):l=[c]↔∀q,q∈l↔q=c:=by
 constructor
 ·rintro rfl q;simp
 ·intro h;match l,hn,h with
  |[],_,h=>exact absurd ((h c).mpr rfl) (by simp)
  |[x],_,h=>rw[(h x).mp (by simp)]
  |x::y::r,hn,h=>have h1:=(h x).mp (by simp);have h2:=(h y).mp (by simp);rw[h1,h2]at hn;simp at hn
noncomputable def B2(hs:List Pl)(s:Pl×Pl):Prop:=∀p:Pl,s.1.1<=p.1->p.1<=s.2.1->s.1.2<=p.2->p.2<=s.2.2->p∈hs
section
variable {l m:Cells}{c:Cell} (hl:∀x∈l,x.1<64/\x.2<64) (hm:∀x∈m,x.1<64/\x.2<64) (e:∀x,x∈m↔x=c\/x∈l)
include e in
theorem nX(q:Pl):q∈iW m↔q=iP c\/q∈iW l:=by
 constructor
 ·intro h;obtain⟨x,hx,rfl⟩:=ax.mp h;rcases(e x).mp hx with rfl|h
  ·exact .inl rfl
  ·exact .inr (cZ.mpr h)
 ·rintro(rfl|h)
  ·exact cZ.mpr ((e c).mpr (.inl rfl))
  ·obtain⟨x,hx,rfl⟩:=ax.mp h;exact cZ.mpr ((e x).mpr (.inr hx))
include hl hm e
theorem pP{p:Pl}(h:p∈(halvesOf l).map hP):p∈(halvesOf m).map hP:=(gN hm p).mpr ((nX e _).mpr (.inr ((gN hl p).mp h)))
theorem sE{s:Pl×Pl}(h:¬B2 ((halvesOf l).map hP) s):B2 ((halvesOf m).map hP) s↔g7 (iW l) s=[iP c]:=by
 obtain⟨⟨a,b⟩,u,v⟩:=s;rw[show(g7 (iW l) ((a,b),u,v)=[iP c]↔ _)from ML (qH _ _ _ _ _)];have Aw:∀x lo hi:Int,lo<=hi->lo/2<=x->x<=hi/2->∃z,lo<=z/\z<=hi/\z/2=x:=by
  intro x lo hi h0 h1 h2;by_cases q:lo<=2*x
  ·exact⟨2*x,q,by omega,by omega⟩
  ·exact⟨lo,by omega,by omega,by omega⟩
 have ex:∃p:Pl,a<=p.1/\p.1<=u/\b<=p.2/\p.2<=v/\p∉ (halvesOf l).map hP:=by apply Classical.byContradiction;intro n;apply h;intro p h1 h2 h3 h4;apply Classical.byContradiction;intro h5;exact n ⟨p,h1,h2,h3,h4,h5⟩
 obtain⟨p,p1,p2,p3,p4,p5⟩:=ex;constructor
 ·intro hs q;show q∈g7 _ _↔ _
  rw[uS];constructor
  ·rintro⟨⟨h1,h2,h3,h4⟩,h5⟩;obtain⟨z,z1,z2,z3⟩:=Aw q.1 a u (by omega) h1 h2;obtain⟨y,y1,y2,y3⟩:=Aw q.2 b v (by omega) h3 h4;have:=(gN hm _).mp (hs (z,y) z1 z2 y1 y2);dsimp only at this;rw[z3,y3]at this;exact((nX e _).mp this).resolve_right h5
  ·rintro rfl;have h1:=(gN hm _).mp (hs p p1 p2 p3 p4);have h2:(p.1/2,p.2/2)∉iW l:=fun z=>p5 ((gN hl _).mpr z)
   rw[<- ((nX e _).mp h1).resolve_right h2];exact⟨⟨show a/2<=p.1/2 by omega,show p.1/2<=u/2 by omega,show b/2<=p.2/2 by omega,show p.2/2<=v/2 by omega⟩,h2⟩
 ·intro hq p h1 h2 h3 h4;dsimp only at h1 h2 h3 h4;refine(gN hm _).mpr ((nX e _).mpr ?_);by_cases c1:(p.1/2,p.2/2)∈iW l
  ·exact .inr c1
  ·exact .inl ((hq _).mp (uS.mpr ⟨⟨show a/2<=p.1/2 by omega,show p.1/2<=u/2 by omega,show b/2<=p.2/2 by omega,show p.2/2<=v/2 by omega⟩,c1⟩))
end
noncomputable def sqH(h:List Nat)(p:Pl):Pl×Pl:=((p.1 - (bQ h p+1),p.2 - (bQ h p+1)),(p.1+(bQ h p+1),p.2+(bQ h p+1)))
noncomputable def sqP(h:List Nat)(p:Pl):Pl×Pl:=((p.1 - (hgt h p+1),p.2 - (hgt h p+1)),(p.1+hgt h p,p.2+hgt h p))
section
variable {h:List Nat} (hh:∀r∈h,okR r)
include hh
theorem lC(k:Int)(h0:0<=k)(p:Pl):k<=bQ h p↔B2 (h.map hP) ((p.1 - k,p.2 - k),(p.1+k,p.2+k)):=by
 obtain⟨n,rfl⟩:∃n:Nat,k=n:=⟨k.toNat,by omega⟩
 rw[xU hh];constructor
 ·intro q z h1 h2 h3 h4;dsimp only at h1 h2 h3 h4;have:=q (z.1 - p.1) (z.2 - p.2) (by omega) (by omega) (by omega) (by omega);have e:(p.1+(z.1 - p.1),p.2+(z.2 - p.2))=z:=Prod.ext (show p.1+(z.1 - p.1)=z.1 by omega) (show p.2+(z.2 - p.2)=z.2 by omega);rw[e]at this;exact this
 ·intro q dx dy h1 h2 h3 h4;exact q _ (show p.1 - n<=p.1+dx by omega) (show p.1+dx<=p.1+n by omega) (show p.2 - n<=p.2+dy by omega) (show p.2+dy<=p.2+n by omega)
theorem MY{p:Pl}(h0:0<=p.1)(h1:p.1<=128)(h2:0<=p.2)(k:Int):k<=hgt h p↔∀x∈c7 h p,k<=x:=by
 obtain⟨x,y⟩:=p;dsimp only at h0 h1 h2;obtain⟨X,rfl⟩:∃n:Nat,x=n:=⟨x.toNat,by omega⟩
 obtain⟨Y,rfl⟩:∃n:Nat,y=n:=⟨y.toNat,by omega⟩
 rw[tZ hh (by omega)];have e:hgt h ((X:Int),(Y:Int))=(heightAt (gridOf h) X Y:Int):=by unfold hgt;simp
 rw[e];unfold heightAt;generalize (gridOf h).val (W*Y+X)=a;generalize (gridOf h).val (W*Y+X+1)=b;generalize (gridOf h).val (W*(Y+1)+X)=c;generalize (gridOf h).val (W*(Y+1)+X+1)=d;simp only[ak,dq,or_false,forall_eq_or_imp,forall_eq];omega
theorem xJ{p:Pl}(h0:0<=p.1)(h1:p.1<=128)(h2:0<=p.2)(k:Int)(hk:0<=k):k+1<=hgt h p↔B2 (h.map hP) ((p.1 - (k+1),p.2 - (k+1)),(p.1+k,p.2+k)):=by
 rw[MY hh h0 h1 h2];unfold c7;simp only[ak,dq,or_false,forall_eq_or_imp,forall_eq];have f:∀z,(k+1<=bQ h z+1↔k<=bQ h z):=fun z=>by omega
 rw[f,f,f,f,lC hh k hk,lC hh k hk,lC hh k hk,lC hh k hk];unfold B2;dsimp only;constructor
 ·rintro⟨a,b,c,d⟩ z z1 z2 z3 z4;by_cases q1:z.1<=p.1+-1+k
  ·by_cases q2:z.2<=p.2+-1+k
   ·exact a z (by omega) (by omega) (by omega) (by omega)
   ·exact c z (by omega) (by omega) (by omega) (by omega)
  ·by_cases q2:z.2<=p.2+-1+k
   ·exact b z (by omega) (by omega) (by omega) (by omega)
   ·exact d z (by omega) (by omega) (by omega) (by omega)
 ·intro a;exact⟨fun z z1 z2 z3 z4=>a z (by omega) (by omega) (by omega) (by omega),fun z z1 z2 z3 z4=>a z (by omega) (by omega) (by omega) (by omega),fun z z1 z2 z3 z4=>a z (by omega) (by omega) (by omega) (by omega),fun z z1 z2 z3 z4=>a z (by omega) (by omega) (by omega) (by omega)⟩
theorem DQ(p:Pl):0<=hgt h p:=by unfold hgt;omega
end
section
variable {l m:Cells}{c:Cell} (hl:∀x∈l,x.1<64/\x.2<64) (hm:∀x∈m,x.1<64/\x.2<64) (e:∀x,x∈m↔x=c\/x∈l)
include hl hm e
theorem IX{p:Pl}(hp:p∈(halvesOf l).map hP):bQ (halvesOf l) p=bQ (halvesOf m) p↔g7 (iW l) (sqH (halvesOf l) p)≠[iP c]:=by
 have ol:=bD hl;have om:=bD hm;have d0:0<=bQ (halvesOf l) p:=(IY ol p).mpr hp;have n1:¬B2 ((halvesOf l).map hP) (sqH (halvesOf l) p):=fun z=>by have:=(lC ol (bQ (halvesOf l) p+1) (by omega) p).mpr z;omega
 have ge:bQ (halvesOf l) p<=bQ (halvesOf m) p:=(lC om _ d0 p).mpr fun z h1 h2 h3 h4=>pP hl hm e ((lC ol _ d0 p).mp (le_refl _) z h1 h2 h3 h4)
 have:=lC om (bQ (halvesOf l) p+1) (by omega) p;have s1:=sE hl hm e n1;unfold sqH at s1 ⊢;rw[Ne,<- s1,<- this];omega
theorem zT{p:Pl}(h0:0<=p.1)(h1:p.1<=128)(h2:0<=p.2):hgt (halvesOf l) p=hgt (halvesOf m) p↔g7 (iW l) (sqP (halvesOf l) p)≠[iP c]:=by
 have ol:=bD hl;have om:=bD hm;have d0:=DQ ol p;have n1:¬B2 ((halvesOf l).map hP) (sqP (halvesOf l) p):=fun z=>by have:=(xJ ol h0 h1 h2 (hgt (halvesOf l) p) d0).mpr z;omega
 have ge:hgt (halvesOf l) p<=hgt (halvesOf m) p:=by
  by_cases q:hgt (halvesOf l) p=0
  ·rw[q];exact DQ om p
  ·have g:=(xJ om h0 h1 h2 (hgt (halvesOf l) p - 1) (by omega)).mpr fun z h3 h4 h5 h6=>pP hl hm e ((xJ ol h0 h1 h2 (hgt (halvesOf l) p - 1) (by omega)).mp (by omega) z h3 h4 h5 h6)
   omega
 have:=xJ om h0 h1 h2 (hgt (halvesOf l) p) d0;have s1:=sE hl hm e n1;unfold sqP at s1 ⊢;rw[Ne,<- s1,<- this];omega
end
theorem CP{x y:Cell}(h:y∈beside x):x∈beside y:=by
 obtain⟨s,hs,e⟩:=eM.mp h;refine eM.mpr ⟨(s+2)%4,by omega,?_⟩;rw[e];have cs:s=0\/s=1\/s=2\/s=3:=by omega
 rcases cs with rfl|rfl|rfl|rfl<;>simp[aI]<;>exact Prod.ext (by simp) (by simp)
theorem fD.trans{l:Cells}{a b c:Cell}(h1:fD l a b)(h2:fD l b c):fD l a c:=by
 induction h2 with
 |refl=>exact h1
 |step _ hb hl ih=>exact .step ih hb hl
theorem fD.symm{l:Cells}{a b:Cell}(ha:a∈l)(h:fD l a b):fD l b a:=by
 induction h with
 |refl=>exact .refl
 |step h1 hb hl ih=>
  rename_i x y;have hx:x∈l:=by
   cases h1 with
   |refl=>exact ha
   |step _ _ q=>exact q
  exact fD.trans (.step .refl (CP hb) hx) ih
theorem fD.mono{l m:Cells}(h:∀x∈l,x∈m){a b:Cell}(c:fD l a b):fD m a b:=by
 induction c with
 |refl=>exact .refl
 |step _ hb hl ih=>exact .step ih hb (h _ hl)
theorem j5{l:Cells}:isHouse l=true↔l≠[]/\l.length<=256/\(∀c∈l,c.1<64/\c.2<64)/\(l.Pairwise fun a b=>before a b=true)/\(∀x∈l,∀y∈l,fD l x y)/\pinched l=false:=by
 cases l with
 |nil=>simp[isHouse]
 |cons a r=>
  show(decide ((a::r).length<=CELLS)&& ((a::r).all Roof.within&& (rising (a::r)&& ((reach (a::r) (a::r).length [a] [a]).length==(a::r).length&& !pinched (a::r)))))=true↔ _
  rw[cg,cg,cg,cg,mP,beq_iff_eq,fi,fj,decide_eq_true_iff];have w:(∀x∈a::r,Roof.within x=true)↔∀c∈a::r,c.1<64/\c.2<64:=by unfold Roof.within SIDE;simp only[cg,decide_eq_true_eq]
  rw[w];constructor
  ·rintro⟨h1,h2,h3,h4,h5⟩;have c:=(pH (eS h3) (bb (a:=a))).mp h4;exact⟨by simp,h1,h2,h3,fun x hx y hy=>fD.trans (fD.symm bb (c x hx)) (c y hy),h5⟩
  ·rintro⟨_,h1,h2,h3,h4,h5⟩;exact⟨h1,h2,h3,(pH (eS h3) (bb (a:=a))).mpr fun x hx=>h4 a bb x hx,h5⟩
theorem gL{l:Cells}{p:Pl}{s:Nat}:aT l p s=true↔aI p s∉iW l/\aI p ((s+1)%4)∉iW l/\aI (aI p s) ((s+1)%4)∈iW l:=by unfold aT;simp only[cg,fj,decide_eq_false_iff_not,decide_eq_true_iff]
theorem kL{l:Cells}:pinched l=true↔∃p∈iW l,∃s,s<4/\aT l p s=true:=by
 rw[sT,fb];simp only[or_eq_true];constructor
 ·rintro⟨p,hp,h|h|h|h⟩
  ·exact⟨p,hp,0,by omega,h⟩
  ·exact⟨p,hp,1,by omega,h⟩
  ·exact⟨p,hp,2,by omega,h⟩
  ·exact⟨p,hp,3,by omega,h⟩
 ·rintro⟨p,hp,s,hs,h⟩;refine⟨p,hp,?_⟩;have cs:s=0\/s=1\/s=2\/s=3:=by omega
  rcases cs with rfl|rfl|rfl|rfl
  ·exact .inl h
  ·exact .inr (.inl h)
  ·exact .inr (.inr (.inl h))
  ·exact .inr (.inr (.inr h))
theorem D1(p:Pl){s:Nat}(hs:s<4):aI p s≠p:=by
 intro h;have h1:=congrArg Prod.fst h;have h2:=congrArg Prod.snd h;have cs:s=0\/s=1\/s=2\/s=3:=by omega
 rcases cs with rfl|rfl|rfl|rfl<;>simp[aI]at h1 h2<;>omega
theorem L4(p:Pl){s:Nat}(hs:s<4):aI (aI p s) ((s+1)%4)≠p:=by
 intro h;have h1:=congrArg Prod.fst h;have h2:=congrArg Prod.snd h;have cs:s=0\/s=1\/s=2\/s=3:=by omega
 rcases cs with rfl|rfl|rfl|rfl<;>simp[aI]at h1 h2<;>omega
theorem J4(p:Pl){s:Nat}(hs:s<4):aI (aI (aI p s) ((s+1)%4)) ((s+2)%4)=aI p ((s+1)%4):=by
 have cs:s=0\/s=1\/s=2\/s=3:=by omega
 rcases cs with rfl|rfl|rfl|rfl<;>exact Prod.ext (by simp[aI]) (by simp[aI])
theorem J2(p:Pl){s:Nat}(hs:s<4):aI (aI (aI p s) ((s+1)%4)) (((s+2)%4+1)%4)=aI p s:=by
 have cs:s=0\/s=1\/s=2\/s=3:=by omega
 rcases cs with rfl|rfl|rfl|rfl<;>exact Prod.ext (by simp[aI]) (by simp[aI])
theorem J7(p:Pl){s:Nat}(hs:s<4):aI (aI p ((s+1)%4)) (((s+2)%4+1)%4)=p:=by
 have cs:s=0\/s=1\/s=2\/s=3:=by omega
 rcases cs with rfl|rfl|rfl|rfl<;>exact Prod.ext (by simp[aI]) (by simp[aI])
theorem wW{l m:Cells}{c:Cell}(e:∀x,x∈m↔x=c\/x∈l)(h0:pinched l=false):pinched m=false↔∀s,s<4->aT l (iP c) s=false:=by
 have mi:=nX (l:=l) (m:=m) (c:=c) e;constructor
 ·intro h s hs;apply Classical.byContradiction;intro q;have q:=gL.mp (Bool.not_eq_false _▸q);have:pinched m=true:=kL.mpr ⟨iP c,(mi _).mpr (.inl rfl),s,hs,gL.mpr ⟨fun z=>((mi _).mp z).elim (D1 _ hs) q.1,fun z=>((mi _).mp z).elim (D1 _ (by omega)) q.2.1,(mi _).mpr (.inr q.2.2)⟩⟩;rw[h]at this;cases this
 ·intro h;apply Classical.byContradiction;intro q;obtain⟨p,hp,s,hs,g⟩:=kL.mp (Bool.not_eq_false _▸q);obtain⟨g1,g2,g3⟩:=gL.mp g;have n1:aI p s∉iW l:=fun z=>g1 ((mi _).mpr (.inr z))
  have n2:aI p ((s+1)%4)∉iW l:=fun z=>g2 ((mi _).mpr (.inr z))
  rcases(mi _).mp hp with rfl|hp
  ·have g3:=((mi _).mp g3).resolve_left (L4 _ hs);have:=h s hs;rw[gL.mpr ⟨n1,n2,g3⟩]at this;cases this
  ·rcases(mi _).mp g3 with g3|g3
   ·have:=h ((s+2)%4) (by omega);rw[gL.mpr]at this
    ·cases this
    ·rw[<- g3,J4 p hs,J2 p hs,J7 p hs];exact⟨n2,n1,hp⟩
   ·have:=kL.mpr ⟨p,hp,s,hs,gL.mpr ⟨n1,n2,g3⟩⟩;rw[h0]at this;cases this
theorem tD(l:Cells)(c x:Cell):x∈inRows (c::l)↔x=c\/x∈l:=by rw[fJ,ak]
theorem tM{l:Cells}(H:isHouse l=true){c x:Cell}(hx:x∈l)(hc:c∉l)(hb:c∈beside x):isHouse (inRows (c::l))=true↔l.length<256/\(c.1<64/\c.2<64)/\∀s,s<4->aT l (iP c) s=false:=by
 obtain⟨h0,h1,h2,h3,h4,h5⟩:=j5.mp H;have mm:=tD l c;have srt:=iK (c::l);have len:(inRows (c::l)).length=l.length+1:=by
  have n1:(c::l).Nodup:=dc.mpr ⟨hc,eS h3⟩;have a:=bX n1 fun y hy=>fJ.mpr hy
  have b:=bX (eS srt) fun y hy=>fJ.mp hy
  rw[bo]at a b;omega
 rw[j5,len,wW (mm) h5];constructor
 ·rintro⟨_,g1,g2,_,_,g5⟩;exact⟨by omega,g2 c ((mm c).mpr (.inl rfl)),g5⟩
 ·rintro⟨g1,g2,g3⟩;refine⟨fun z=>by rw[z]at len;simp at len,by omega,fun y hy=>?_,srt,?_,g3⟩
  ·rcases(mm y).mp hy with rfl|hy
   ·exact g2
   ·exact h2 y hy
  ·have cm:c∈inRows (c::l):=(mm c).mpr (.inl rfl);have xm:x∈inRows (c::l):=(mm x).mpr (.inr hx);have one:∀y∈inRows (c::l),fD (inRows (c::l)) x y:=fun y hy=>by
    rcases(mm y).mp hy with rfl|hy
    ·exact .step .refl hb hy
    ·exact fD.mono (fun z hz=>(mm z).mpr (.inr hz)) (h4 x hx y hy)
   exact fun y hy z hz=>fD.trans (fD.symm xm (one y hy)) (one z hz)
noncomputable def sq3(h:List Nat)(t:T3):List (Pl×Pl):=[sqH h (t.1,t.2.1),sqP h (aF (t.1,t.2.1) t.2.2.toNat),sqP h (aF (t.1,t.2.1) (t.2.2.toNat+1))]
noncomputable def kF(l:Cells)(N:List T3)(q:Pl):Prop:=∃t∈N,∃s∈sq3 (halvesOf l) t,g7 (iW l) s=[q]
theorem qY{l:Cells}(hl:∀c∈l,c.1<64/\c.2<64){p:Pl}(h:p∈(halvesOf l).map hP):0<=p.1/\p.1<128/\0<=p.2/\p.2<128:=by obtain⟨r,hr,rfl⟩:=ax.mp h;obtain⟨i,j,hi,hj,rfl⟩:=bD hl r hr;rw[d4 hi];dsimp only;omega
theorem mI{p:Pl}(h:0<=p.1/\p.1<128/\0<=p.2/\p.2<128)(c:Nat):0<=(aF p c).1/\(aF p c).1<=128/\0<=(aF p c).2:=by
 unfold aF;split
 ·dsimp only;omega
 ·split
  ·dsimp only;omega
  ·split<;>dsimp only<;>omega
theorem sD{l m:Cells}{c:Cell}(hl:∀x∈l,x.1<64/\x.2<64)(hm:∀x∈m,x.1<64/\x.2<64)(e:∀x,x∈m↔x=c\/x∈l){Ns:List (List T3)}(R:Numbering (halvesOf l) (trianglesOf (halvesOf l)).length Ns){k:Nat}{N:List T3}(hk:Ns[k]? =some N):
  staysFace (topOf l) (topOf m) k=true↔¬kF l N (iP c):=by
 rw[GH hl hm R hk,fi];have one:∀t∈N,decide (EU (halvesOf l) (halvesOf m) t=0)=true↔¬ ∃s∈sq3 (halvesOf l) t,g7 (iW l) s=[iP c]:=by
  intro t ht;have hp:=R.half N (ay hk) t ht;have hb:=qY hl hp;obtain⟨u0,u1,u2⟩:=mI hb t.2.2.toNat;obtain⟨v0,v1,v2⟩:=mI hb (t.2.2.toNat+1);rw[decide_eq_true_iff];unfold EU;rw[af (not_not_intro hp),af (not_not_intro (pP hl hm e hp))];have wt:=and_congr (IX hl hm e hp) (and_congr (zT hl hm e u0 u1 u2) (zT hl hm e v0 v1 v2));unfold sq3;simp only[ak,dq,or_false,exists_eq_or_imp,exists_eq_left,not_or];constructor
  ·intro h;split at h
   ·rename_i g;exact wt.mp g
   ·cases h
  ·intro h;rw[ah (wt.mpr h)]
 constructor
 ·rintro h ⟨t,ht,q⟩;exact(one t ht).mp (h t ht) q
 ·intro h t ht;exact(one t ht).mpr fun q=>h ⟨t,ht,q⟩
theorem yI{F:List Pl}(h:F.Pairwise sI):F.Nodup:=h.imp fun{a b} q e=>by subst e;unfold sI at q;omega
noncomputable def tY(l:Cells)(q:Pl):Prop:=l.length≠256/\(∃x∈iW l,∃s,s<4/\q=aI x s)/\q∉iW l/\((0<=q.1/\q.1<64)/\0<=q.2/\q.2<64)/\∀s,s<4->aT l q s=false
theorem free_eq{l:Cells}(H:isHouse l=true){Ns:List (List T3)}(R:Numbering (halvesOf l) (trianglesOf (halvesOf l)).length Ns){k:Nat}{N:List T3}(hk:Ns[k]? =some N){F:List Pl}(hs:F.Pairwise dN)(nd:F.Nodup)(hF:∀q,q∈F↔tY l q/\¬kF l N q):F=iW ((topOf l).free k):=by
 obtain⟨h0,h1,h2,h3,h4,h5⟩:=j5.mp H;have ef:(topOf l).free k=(inRows (l.flatMap beside)).filter fun(c:Cell)=>!l.contains c&& (isHouse (inRows (c::l))&& staysFace (topOf l) (topOf (inRows (c::l))) k):=rfl
 have srt:((topOf l).free k).Pairwise fun a b=>before a b=true:=by rw[ef];exact(iK _).sublist iq
 have Au:(iW ((topOf l).free k)).Pairwise sI:=ib.mpr (srt.imp fun{a b} h=>rD h);refine List.Perm.eq_of_pairwise (le:=dN) (fun a b _ _=>mM) hs (Au.imp fun{a b} h=>qK h) (D9 nd (yI Au) fun q=>?_);rw[hF q,ef];have key:∀c:Cell,c∈((inRows (l.flatMap beside)).filter fun(c:Cell)=>!l.contains c&& (isHouse (inRows (c::l))&& staysFace (topOf l) (topOf (inRows (c::l))) k))↔(∃x∈l,c∈beside x)/\c∉l/\(l.length<256/\(c.1<64/\c.2<64)/\∀s,s<4->aT l (iP c) s=false)/\¬kF l N (iP c):=by
  intro c;rw[br,fJ,cj,cg,cg,fj,<- Bool.not_eq_true,gx];constructor
  ·rintro⟨⟨x,hx,hb⟩,hc,hH,hS⟩;have g:=(tM H hx hc hb).mp hH;have hm:∀y∈inRows (c::l),y.1<64/\y.2<64:=(j5.mp hH).2.2.1
   exact⟨⟨x,hx,hb⟩,hc,g,(sD h2 hm (tD l c) R hk).mp hS⟩
  ·rintro⟨⟨x,hx,hb⟩,hc,g,hS⟩;have hH:=(tM H hx hc hb).mpr g;have hm:∀y∈inRows (c::l),y.1<64/\y.2<64:=(j5.mp hH).2.2.1
   exact⟨⟨x,hx,hb⟩,hc,hH,(sD h2 hm (tD l c) R hk).mpr hS⟩
 constructor
 ·rintro⟨⟨b1,⟨x,hx,s,hsd,e⟩,b3,b4,b5⟩,ht⟩;obtain⟨y,hy,rfl⟩:=ax.mp hx;have eq:q=iP (q.1.toNat,q.2.toNat):=Prod.ext (show q.1=(q.1.toNat:Int) by omega) (show q.2=(q.2.toNat:Int) by omega);rw[eq];refine cZ.mpr ((key _).mpr ⟨⟨y,hy,eM.mpr ⟨s,hsd,eq▸e⟩⟩,fun z=>b3 (eq▸cZ.mpr z),⟨by omega,⟨show q.1.toNat<64 by omega,show q.2.toNat<64 by omega⟩,?_⟩,?_⟩)
  ·rw[<- eq];exact b5
  ·rw[<- eq];exact ht
 ·intro hq;obtain⟨c,hc,rfl⟩:=ax.mp hq;obtain⟨⟨x,hx,hb⟩,g1,⟨g2,g3,g4⟩,g5⟩:=(key c).mp hc;obtain⟨s,hsd,e⟩:=eM.mp hb;exact⟨⟨by omega,⟨iP x,cZ.mpr hx,s,hsd,e⟩,fun z=>g1 (cZ.mp z),⟨⟨by show(0:Int)<=(c.1:Int);omega,by show(c.1:Int)<64;omega⟩,by show(0:Int)<=(c.2:Int);omega,by show(c.2:Int)<64;omega⟩,g4⟩,g5⟩
theorem CD(k:Int)(t:List Int):RoofBNeutral.f [[13,k],t]=RoofB.ofTop (RoofBNeutral.text t) fun T=>RoofB.ofFace T k.toNat (RoofB.told ((T.free k.toNat).length::(T.free k.toNat).flatMap fun(c:Cell)=>[c.1,c.2])):=rfl
section
variable {k:Int}{t:List Int}
theorem xO(h:houseOf (RoofBNeutral.text t)=none):RoofBNeutral.f [[13,k],t]=[-1]:=by rw[CD,BH h]
theorem A3(k0:0<=k){l:Cells}(e:houseOf (RoofBNeutral.text t)=some l){Ns:List (List T3)}(R:Numbering (halvesOf l) (trianglesOf (halvesOf l)).length Ns)(hk:(Ns.length:Int)<=k):RoofBNeutral.f [[13,k],t]=[-6]:=by rw[CD,sW e];unfold RoofB.ofFace;rw[(R.all (au _)).2.1,af (by omega)];rfl
theorem FA(k0:0<=k){l:Cells}(H:isHouse l=true)(e:houseOf (RoofBNeutral.text t)=some l){Ns:List (List T3)}(R:Numbering (halvesOf l) (trianglesOf (halvesOf l)).length Ns){N:List T3}(hk:Ns[k.toNat]? =some N){F:List Pl}(hs:F.Pairwise dN)(nd:F.Nodup)(hF:∀q,q∈F↔tY l q/\¬kF l N q):
  RoofBNeutral.f [[13,k],t]=((F.map fun q=>[q.1,q.2]).length:Int)::(F.map fun q=>[q.1,q.2]).flatten:=by
 rw[CD,sW e];unfold RoofB.ofFace;have jr:=(aq.mp hk).1;rw[(R.all (au _)).2.1,ah jr,free_eq H R hk hs nd hF];unfold RoofB.told;rw[bh,ai,iW,ai];congr 1;generalize (topOf l).free k.toNat=L;induction L with
 |nil=>rfl
 |cons c r ih=>rw[gb,cf,ih];rfl
end
end RM
namespace L3
open PySem PySem.Spec PyProof.Rows L2
structure aP(P:Program)(w:World)(K:W.Frag)(mg:Str->Option Value)(base:Heap)(CX:CXT)(k:Nat)(x:Str)(ps:List Str)(sp:Sp):Prop where
 ex:∃f fd,bI P w K mg base CX k f fd ps sp/\mg x=some (.ref f)/\W.keepIn K (.ref f)=true/\Binds K fd ps []
section
variable {X:Cx}{CX:CXT}{k:Nat}{ps:List Str}{sp:Sp}{E:XK}{x:Str}{p pos:Pos}{e:Expr}{es:List Expr}{t:TA}
theorem aS(D:aP X.prog X.w X.K X.mg X.base CX k x ps sp)(hr:cT k X.A)(hx:Passes CX X E)(hg:Gl X x)(ha:PA X (e::es) t)(rb:(x==("__debug__" : Str))=false:=by decide)
  (vk:starEach (e::es) X.env=(false,eval e X.env)::starEach es X.env:=by rfl) (rl:(backTo pos (starEach es X.env)).any (·.1)=false:=by rfl):PE X (.Call (.Name x p) (e::es) [] pos) (CZ sp [] E t):=by
 obtain⟨f,fd,F,hm,hk,hb⟩:=D.ex;exact JX F hr hg hm hk hb .nil hx ha rb vk rl
end
theorem a9.rd{H H':Hp}{a:Addr}{u:HO}(e:a9 H H')(h:Rd H a u):Rd H' a u:=by
 rcases h with h|⟨o,h⟩
 ·exact .inl (e _ _ h)
 ·exact .inr ⟨o,e _ _ h⟩
theorem a9.sqT{K:W.Frag}{H H':Hp}{a:Addr}{xs:List V}(e:a9 H H')(h:SqT K H a xs):SqT K H' a xs:=by
 rcases h with h|h
 ·exact .inl (a9.rd e h)
 ·exact .inr h
theorem a9.upd{H:Hp}{p:Addr}{o:HO}(h:H p=none):a9 H (upd H p o):=fun b u e=>by rw[aB (aJ e h)];exact e
noncomputable def T2(H:Hp)(v:V)(p:Int×Int):Prop:=∃a,v=.ref a/\H a=some (.tup [.int p.1,.int p.2])
noncomputable def C2(K:W.Frag)(H:Hp)(v:V)(p:Int×Int):Prop:=∃a,v=.ref a/\SqT K H a [.int p.1,.int p.2]
noncomputable def T3(H:Hp)(v:V)(p:Int×Int×Int):Prop:=∃a,v=.ref a/\H a=some (.tup [.int p.1,.int p.2.1,.int p.2.2])
theorem T2.mono{H H':Hp}{v:V}{p:Int×Int}(e:a9 H H')(h:T2 H v p):T2 H' v p:=let⟨a,h1,h2⟩:=h;⟨a,h1,e _ _ h2⟩
theorem T3.mono{H H':Hp}{v:V}{p:Int×Int×Int}(e:a9 H H')(h:T3 H v p):T3 H' v p:=let⟨a,h1,h2⟩:=h;⟨a,h1,e _ _ h2⟩
theorem T2.c{K:W.Frag}{H:Hp}{v:V}{p:Int×Int}(h:T2 H v p):C2 K H v p:=let⟨a,h1,h2⟩:=h;⟨a,h1,SqT.of h2⟩
def jM:Option HO->Bool
 |none=>false
 |some (.frz _ _)=>false
 |some _=>true
noncomputable def I0(h:Heap)(H:Hp)(fs:List Addr):List Addr:=(List.range h.objs.size).filter fun a=>jM (H a)||fs.contains a
def g9(h:Heap)(H:Hp)(fs:List Addr):Heap:=W.hideAll h (I0 h H fs)
theorem gM{h:Heap}{H:Hp}{fs:List Addr}{b:Addr}{o:Obj}(e:h.get? b=some o)(n:jM (H b)=false)(hb:b∉fs):(g9 h H fs).get? b=some o:=
 W.hideAll_get _ e fun hm=>by have q:=(br.mp hm).2;rw[n,Bool.false_or]at q;exact hb (by simpa using q)
theorem yZ{h:Heap}{H:Hp}{fs:List Addr}{b:Addr}{o:Obj}(e:(g9 h H fs).get? b=some o):h.get? b=some o/\jM (H b)=false/\b∉fs:=by
 have e':h.get? b=some o:=W.of_hideAll (I0 h H fs) e;refine⟨e',?_⟩;by_cases q:b∈I0 h H fs
 ·have z:(g9 h H fs).get? b=none:=W.hideAll_none _ q;rw[z]at e;cases e
 ·have hn:¬((jM (H b)||fs.contains b)=true):=fun z=>q (br.mpr ⟨gu.mpr (bq e'),z⟩)
  rw[or_eq_true]at hn;refine⟨?_,fun z=>hn (.inr (by simpa using z))⟩;cases z:jM (H b)with
  |false=>rfl
  |true=>exact absurd (.inl z) hn
structure Fly(outer:List Env)(ex:List Addr)(H:Hp)(s:Shared)(ae C:Addr)(s':Shared):Prop where
 fl:∃a0,Heap.FlyingW (g9 s.heap H (frs outer++ex)) outer ae (.ref C) a0 s'.heap
 slot:∀b∈frs outer,∀o,s.heap.get? b=some o->∃sl,s'.heap.get? b=some {o with slots:=sl}
 os:s'.os=s.os
 bare:AllBare s'.gens
noncomputable def CXf:CXT:=fun outer H s E e s'=>∃ae C,e=.ref ae/\Fly outer [] H s ae C s'/\E (.ref C) none H
section
variable {X:Cx}{jj:List (Addr×Obj)}{σ:L2.St}{H:Hp}{s:Shared}
theorem stays(I:Inv X jj σ H s)(ke:HOk X.prog X.w X.H_0 X.s_0.heap){ex:List Addr}(ui:∀b∈X.ex,b∈ex){b:Addr}{o:Obj}(e:(g9 X.s_0.heap X.H_0 (X.fs++ex)).get? b=some o):
  s.heap.get? b=some o/\jM (H b)=false/\b∉frs X.stack/\b∉ex:=by
 obtain⟨e1,n,tw⟩:=yZ e;have hb:b∉X.fs:=fun z=>tw (cc _ z)
 have hx:b∉ex:=fun z=>tw (bc _ z)
 have vk:b∉frs X.stack:=fun z=>by
  rcases ak.mp (I.sC b z)with q|q
  ·exact absurd (bq e1) (not_lt.mpr (q▸I.ok.above))
  ·exact hb q
 have ud:b∉X.ex:=fun z=>hx (ui b z)
 cases q:X.H_0 b with
 |none=>refine⟨I.base.keep b o e1 q hb ud,?_,vk,hx⟩;rw[I.base.free b o e1 q ud];rfl
 |some u=>
  rw[q]at n;cases u with
  |frz ob u=>have z:=I.base.oJ b ob u q;obtain⟨e2,_⟩:=ke b _ q;obtain⟨e3,_⟩:=I.hok b _ z;rw[e1]at e2;cases e2;exact⟨e3,by rw[z];rfl,vk,hx⟩
  |_=>cases n
theorem k6{h base xx:Heap}:∀{l:List Env},h.FunFrames base l->(∀b∈frs l,xx.get? b=none)->h.FunFrames xx l
 |[],_,_=>trivial
 |env::r,⟨hk,⟨L,o,hf,hn,ho,hd⟩,hr⟩,k=>by
  have e:frs (env::r)=L::frs r:=by unfold frs;rw[fg,hf]
  rw[e]at k;exact⟨hk,⟨L,o,hf,k L (by simp),ho,hd⟩,k6 hr fun b hb=>k b (by simp[hb])⟩
theorem C8(I:Inv X jj σ H s)(ke:HOk X.prog X.w X.H_0 X.s_0.heap){ex:List Addr}(ui:∀b∈X.ex,b∈ex):s.heap.FunFrames (g9 X.s_0.heap X.H_0 (X.fs++ex)) X.stack:=
 k6 I.stack fun b hb=>by
  cases q:(g9 X.s_0.heap X.H_0 (X.fs++ex)).get? b with
  |none=>rfl
  |some o=>exact absurd hb (stays I ke ui q).2.2.1
theorem kI(I:Inv X jj σ H s){b:Addr}(hb:b∈X.fs)(hx:b∉X.ex){o:Obj}(e:X.s_0.heap.get? b=some o):∃sl,s.heap.get? b=some {o with slots:=sl}:=I.base.slot b o e (I.ok.frf b hb) hb hx
end
section
variable {P:Program}{w:World}{K:W.Frag}{mg:Str->Option Value}{base:Heap}{N:List Str}{qual:Str}{scope:Scope}{f:Addr}{cd:Value}{A:Around}{outer:List Env}{s:Shared}{H:Hp}{E:XK}
 {jj:List (Addr×Obj)}{σ:L2.St}{H1:Hp}{s1:Shared}
noncomputable abbrev cxF(P:Program)(w:World)(K:W.Frag)(mg:Str->Option Value)(base:Heap)(N:List Str)(qual:Str)(scope:Scope)(f:Addr)(cd:Value)(A:Around)(outer:List Env)(s:Shared)(H:Hp)(E:XK):Cx:=uM CXf P w K mg base N qual scope f cd A outer s H E
theorem nV(l:List Addr):l++[]=l:=da l
theorem GU(ke:HOk P w H s.heap)(I:Inv (cxF P w K mg base N qual scope f cd A outer s H E) jj σ H1 s1){h':Heap}{e C:Addr}{as:List Value}(hx:Heap.MadeExcOf s1.heap h' e (.ref C) as)(hE:E (.ref C) none H):
  (cxF P w K mg base N qual scope f cd A outer s H E).xe (.ref e) {s1 with heap:=h'}:=by
 have st:∀b o,(g9 s.heap H (frs outer++[])).get? b=some o->s1.heap.get? b=some o:=fun b o q=>(stays I ke (ex:=[]) (fun _ z=>z) q).1
 refine wpAny_leaves_madeW (base:=g9 s.heap H (frs outer++[])) (h:=s1.heap) (L:=s.heap.objs.size) (outer:=outer) I.ok.frames rfl st (C8 I ke (fun _ z=>z)) hx fun h2 t fl tup hn up=>?_
 refine⟨e,C,rfl,⟨⟨_,fl⟩,fun b hb o q=>?_,I.os,I.bare⟩,hE⟩;obtain⟨sl,q1⟩:=kI I hb (by intro z;exact nomatch z) q;have fr:=(I.stack.mem (b:=b) (show b∈frs (_::outer) by
  unfold frs;rw[fg];exact ar _ hb)).2
 obtain⟨o2,q2,nf⟩:=fr;rw[q1]at q2;cases q2;obtain⟨rq,q3⟩:=up b _ (hx.keeps b _ q1) nf;exact⟨rq,q3⟩
theorem yR(ke:HOk P w H s.heap):Passes CXf (cxF P w K mg base N qual scope f cd A outer s H E) (fun c _ _=>E c none H):=by
 intro jj σ H1 s1 e s' I h;obtain⟨ae,C,rfl,⟨⟨a0,fl⟩,sl,os,bare⟩,hE⟩:=h;have zo:Heap.FlyingW (g9 s.heap H (frs outer++[])) (cxF P w K mg base N qual scope f cd A outer s H E).stack ae (.ref C) a0 s'.heap:=
  W.flyingW_base (fun b o q=>by
   obtain⟨z1,z2,z3,_⟩:=stays I ke (ex:=[]) (fun _ z=>z) q;exact gM z1 z2 (by rw[nV];exact z3)) fl
 refine wpAny_leaves_onW (L:=s.heap.objs.size) (outer:=outer) I.ok.frames rfl zo fun h2 fl3 up=>?_
 refine⟨ae,C,rfl,⟨⟨_,fl3⟩,fun b hb o q=>?_,os.trans I.os,bare⟩,hE⟩;have wg:b∈frs (cxF P w K mg base N qual scope f cd A outer s H E).stack:=by
  show b∈frs (_::outer)
  unfold frs;rw[fg];exact ar _ hb
 obtain⟨sl1,q1⟩:=kI I hb (by intro z;exact nomatch z) q;obtain⟨rq,q2⟩:=sl b wg _ q1;obtain⟨o3,q3,nf⟩:=(fl.2.2.1.mem (b:=b) wg).2;rw[q2]at q3;cases q3;obtain⟨zt,q4⟩:=up b _ q2 nf;exact⟨zt,q4⟩
theorem dG(ke:HOk P w H s.heap){x:Str}{C:Addr}{B kz yo:String}{bm:List Value}{np jq pos:Pos}(FB:ExcBaseFacts B kz yo bm)(O:OwnCls x C bm kz mg base)
  (hg:Gl (cxF P w K mg base N qual scope f cd A outer s H E) x) (hd:(x==("__debug__" : Str))=false:=by decide):
  PS (cxF P w K mg base N qual scope f cd A outer s H E) (.Raise (some (.Call (.Name x np) [] [] jq)) none pos) (fun _ _ _=>E (.ref C) none H):=by
 intro jj s1 σ H1 D I h;obtain⟨tl,N,nm,q,bs,hdct,sn,sub,ab,col,dd,k0,k1,k2,k3,k5,mN,hC,hN,hni,T⟩:=O.obj;refine wpAny_Raise_call_subT (C:=C) (nm:=nm) (q:=q) (N:=N) (bs:=bs) (bm:=tl) (hdct:=hdct) (sn:=sn) (sub:=sub) (ab:=ab) (col:=col) (dd:=dd) (k0:=k0) (k1:=k1) (k2:=k2) (k3:=k3) (k5:=k5)
  FB (mN:=mN) (T.hasType FB.hasBase) (I.ok.hd rfl) rfl hni (jJ I hg O.bound ⟨rfl,?_⟩ hd)
 exact evalArgs_empty ⟨rfl,bz _,I.bk _ _ hC,hN.keeps I.bk,T.keeps I.bk,fun h' e hx=>GU ke I hx h⟩
end
section
variable {P:Program}{w:World}{K:W.Frag}{mg:Str->Option Value}{base:Heap}
theorem IM{CX:CXT}{k:Nat}{f:Addr}{name qual:Str}{params:Arguments}{body:List Stmt}{scope:Scope}{dV kV kx pm jo ct oc:Value}{an od:Option Addr}
  {mf:Array (Option Value)}{N ps:List Str}{sp:Sp} (lk:K.lookup f=some ⟨oc,od,.func (W.fnOf name qual params body scope dV kV kx pm an jo ct),mf⟩) (nu:W.codeIn K jo qual=true) (S:aL N ps scope)
  (len:∀vs H Q E,sp vs H Q E->vs.length=ps.length)
  (ko:∀(A:Around)(outer:List Env)(s:Shared)(H:Hp)(vs:List V)(Q:VK)(E:XK),cT k (A.deeper (envOfC qual scope s.heap.objs.size f jo))->HOk P w H s.heap->sp vs H Q E ->
   ∃t,PSs (uM CX P w K mg base N qual scope f jo A outer s H E) body t/\t {nx:=fun _ H'=>Q .non H',rt:=Q} (start N vs) H):
  bI P w K mg base CX (k+1) f (W.fnOf name qual params body scope dV kV kx pm an jo ct) ps sp:=by
 refine⟨len,fun A outer s H args us vs Q E hr e0 hb r sv=>?_⟩;have hl:=len _ _ _ _ sv;have KX:K.In s.heap:=e0.mod.kin.keeps fun b o e=>(e0.bs b o e).1
 have yl:s.heap.NoLimit:=e0.mod.nolimit.keeps fun b o e=>(e0.bs b o e).1
 have pj:∀y∈ps.zip us,scope.names.lookup y.1=some .local\/(scope.names.lookup y.1=some .cell/\((cellsFrom (s.heap.objs.size+1) scope.names []).lookup y.1).isSome=true):=fun⟨n,v⟩ hy=>by
  rcases S.par n (of_mem_zip hy).1 with q|q
  ·exact .inl q
  ·exact .inr ⟨q,W.cellsFrom_some _ _ _ (.inl q)⟩
 refine codeAny_call_function hr.depth (KX _ _ lk) rfl S.co S.gen rfl (W.codeRec_of KX nu) (hb _ _ _ _ ?_);refine wpAny_newFunctionEnv_cells S.kind pj fun env he s1 x=>?_
 subst he;refine⟨yl.keeps x.toInCall.keep,codeAny_func ?_⟩;obtain⟨t,ht,hq⟩:=ko A outer s H vs Q E (hr.deeper _) e0.hok sv;have I:Inv (uM CX P w K mg base N qual scope f jo A outer s H E) [] (start N vs) H s1:=pV S hr.hd e0 hl r x;refine wpAny_mono (ht [] s1 (start N vs) H _ I hq) (fun fl s' hs=>?_) fun e s' hs=>hs
 have fin:∀{σ':L2.St}{H':Hp}{v:V}{u:Value},Inv (uM CX P w K mg base N qual scope f jo A outer s H E) [] σ' H' s'->RelV v u->Q v H'->CE outer P w H s Q u s':=
  fun{σ' H' v u} J rv q=>⟨v,H',J.os,J.bare,J.base,J.hok,rv,q⟩
 cases fl with
 |ret u=>obtain⟨v,σ',H',J,rv,q⟩:=hs;exact fin J rv q
 |next=>obtain⟨σ',H',J,q⟩:=hs;exact fin (v:=V.non) (u:=Value.none) J rfl q
 |brk=>obtain⟨_,_,_,q⟩:=hs;exact False.elim q
 |cont=>obtain⟨_,_,_,q⟩:=hs;exact False.elim q
theorem okX{x qual:Str}{st:Stmt}{f:Addr}{fd:FuncData}{N ps:List Str}{k:Nat}{sp:Sp}(F:Fun K x qual st f fd)(S:aL N ps (aH st))(len:∀vs H Q E,sp vs H Q E->vs.length=ps.length)
  (ko:∀(jo:Value)(A:Around)(outer:List Env)(s:Shared)(H:Hp)(vs:List V)(Q:VK)(E:XK),cT k (A.deeper (envOfC qual (aH st) s.heap.objs.size f jo))->HOk P w H s.heap->sp vs H Q E ->
   ∃t,PSs (cxF P w K mg base N qual (aH st) f jo A outer s H E) (f7 st) t/\t {nx:=fun _ H'=>Q .non H',rt:=Q} (start N vs) H):bI P w K mg base CXf (k+1) f fd ps sp:=by
 obtain⟨oc,od,kV,kx,pm,an,jo,ct,mf,rfl,lk,nu⟩:=F.ex;exact IM lk nu S len fun A outer s H vs Q E hr hk sv=>ko jo A outer s H vs Q E hr hk sv
end
section
variable {X:Cx}{x:Str}{pos:Pos}
def u9(mg:Str->Option Value)(x:Str)(n:Int):Prop:=∃t,mg x=some (.int n t)
theorem cU{n:Int}(h:u9 X.mg x n)(hg:Gl X x)(hd:(x==("__debug__" : Str))=false:=by decide):PE X (.Name x pos) (tC (.int n)):=by obtain⟨t,h⟩:=h;exact DB (v:=.int n) hg h ⟨t,rfl⟩ hd
theorem eX{a:Addr}(h:X.mg x=some (.ref a))(hg:Gl X x)(hd:(x==("__debug__" : Str))=false:=by decide):PE X (.Name x pos) (tC (.ref a)):=DB (v:=.ref a) hg h rfl hd
end
noncomputable def CT2(K:W.Frag)(a:Addr)(ps:List (Int×Int)):Prop:=∃xs,(∀H,SqT K H a xs)/\Paired (fun v p=>∀H,C2 K H v p) xs ps
theorem pairs_at{α β:Type}{R:α->β->Prop}:∀{l:List α}{m:List β},Paired R l m->∀{i:Nat}{a:α},l[i]? =some a->∃b,m[i]? =some b/\R a b
 |_,_,.nil,_,_,h=>by simp at h
 |_,_,.cons r _,0,_,h=>by simp at h;subst h;exact⟨_,rfl,r⟩
 |_,_,.cons _ t,i+1,a,h=>by obtain⟨b,h1,h2⟩:=pairs_at t (i:=i) (a:=a) (by simpa using h);exact⟨b,by simpa using h1,h2⟩
theorem iZ{α β:Type}{R:α->β->Prop}:∀{l:List α}{m:List β},Paired R l m->∀{i:Nat}{b:β},m[i]? =some b->∃a,l[i]? =some a/\R a b
 |_,_,.nil,_,_,h=>by simp at h
 |_,_,.cons r _,0,_,h=>by simp at h;subst h;exact⟨_,rfl,r⟩
 |_,_,.cons _ t,i+1,b,h=>by obtain⟨a,h1,h2⟩:=iZ t (i:=i) (b:=b) (by simpa using h);exact⟨a,by simpa using h1,h2⟩
theorem pairs_len{α β:Type}{R:α->β->Prop}:∀{l:List α}{m:List β},Paired R l m->l.length=m.length
 |_,_,.nil=>rfl
 |_,_,.cons _ t=>by simp[pairs_len t]
theorem b8{α β:Type}{R:α->β->Prop}{a:α}{b:β}(r:R a b):∀{l:List α}{m:List β},Paired R l m->Paired R (l++[a]) (m++[b])
 |_,_,.nil=>.cons r .nil
 |_,_,.cons q t=>.cons q (b8 r t)
theorem aK{α β:Type}{R S:α->β->Prop}(f:∀a b,R a b->S a b):∀{l:List α}{m:List β},Paired R l m->Paired S l m
 |_,_,.nil=>.nil
 |_,_,.cons r t=>.cons (f _ _ r) (aK f t)
theorem aX{xs:List V}{z:Int}{v:V}(h0:0<=z)(h:xs[z.toNat]? =some v):atI xs z=some v:=at_of (j:=z.toNat) (gi h0).symm h
abbrev PI:=Int×Int
abbrev PI3:=Int×Int×Int
noncomputable def LI(H:Hp)(v:V)(ns:List Int):Prop:=∃a,v=.ref a/\H a=some (.lst (ns.map V.int))
noncomputable def LLI(H:Hp)(a:Addr)(rows:List (List Int)):Prop:=∃xs,H a=some (.lst xs)/\Paired (LI H) xs rows
noncomputable def LT(H:Hp)(v:V)(ps:List PI):Prop:=∃a xs,v=.ref a/\H a=some (.lst xs)/\Paired (T2 H) xs ps
noncomputable def LLT(H:Hp)(v:V)(ws:List (List PI)):Prop:=∃a xs,v=.ref a/\H a=some (.lst xs)/\Paired (LT H) xs ws
theorem LI.mono{H H':Hp}{v:V}{ns:List Int}(e:a9 H H')(h:LI H v ns):LI H' v ns:=let⟨a,h1,h2⟩:=h;⟨a,h1,e _ _ h2⟩
theorem LT.mono{H H':Hp}{v:V}{ps:List PI}(e:a9 H H')(h:LT H v ps):LT H' v ps:=let⟨a,xs,h1,h2,h3⟩:=h;⟨a,xs,h1,e _ _ h2,aK (fun _ _ q=>q.mono e) h3⟩
theorem LLT.mono{H H':Hp}{v:V}{ws:List (List PI)}(e:a9 H H')(h:LLT H v ws):LLT H' v ws:=let⟨a,xs,h1,h2,h3⟩:=h;⟨a,xs,h1,e _ _ h2,aK (fun _ _ q=>q.mono e) h3⟩
def k2(p:PI):List Key:=[.inl p.1,.inl p.2]
def k3(p:PI3):List Key:=[.inl p.1,.inl p.2.1,.inl p.2.2]
theorem BW{p q:PI}(h:k2 p=k2 q):p=q:=by obtain⟨a,b⟩:=p;obtain⟨c,d⟩:=q;simp[k2]at h;rw[h.1,h.2]
theorem IA{p q:PI3}(h:k3 p=k3 q):p=q:=by obtain⟨a,b,e⟩:=p;obtain⟨c,d,f⟩:=q;simp[k3]at h;rw[h.1,h.2.1,h.2.2]
section
variable {κ:Type} [DecidableEq κ] {kf:κ->List Key} (hk:∀p q,kf p=kf q->p=q)
noncomputable def kvF(kf:κ->List Key)(kvs:List (κ×V)):List (List Key×V):=kvs.map fun x=>(kf x.1,x.2)
include hk in
theorem G8(kvs:List (κ×V))(k:κ):rT (kvF kf kvs) (kf k)=RM.aN kvs k:=by
 unfold kvF;induction kvs with
 |nil=>rfl
 |cons x r ih=>
  rw[bh,RM.cI];by_cases e:x.1=k
  ·rw[ah e,nB (by rw[e])]
  ·rw[af e,nE (fun z=>e (hk _ _ z)),ih]
include hk in
theorem B5(kvs:List (κ×V))(k:κ)(v:V):putK (kvF kf kvs) (kf k) v=kvF kf (RM.d5 kvs k v):=by
 unfold putK RM.d5 kvF;have e1:((kvs.map fun x=>(kf x.1,x.2)).any fun kv=>decide (kv.1=kf k))=kvs.any fun x=>decide (x.1=k):=by
  rw[any_map];congr 1;funext x;simp only[Function.comp];by_cases e:x.1=k
  ·simp[e]
  ·have e':¬kf x.1=kf k:=fun z=>e (hk _ _ z)
   simp[e,e']
 rw[e1];split
 ·rw[fh,fh];apply dt;intro x _;simp only[Function.comp];by_cases e:x.1=k
  ·simp[e]
  ·have e':¬kf x.1=kf k:=fun z=>e (hk _ _ z)
   simp[e,e']
 ·simp
end
theorem f6{κ:Type}{kf:κ->List Key}(kvs:List (κ×V)):(kvF kf kvs).length=kvs.length:=by simp[kvF]
def D2(H:Hp)(a:Addr)(kvs:List (PI×V)):Prop:=H a=some (.dT (kvF k2 kvs))
def R2(H:Hp)(a:Addr)(kvs:List (PI×V)):Prop:=Rd H a (.dT (kvF k2 kvs))
def D3(H:Hp)(a:Addr)(kvs:List (PI3×V)):Prop:=H a=some (.dT (kvF k3 kvs))
def R3(H:Hp)(a:Addr)(kvs:List (PI3×V)):Prop:=Rd H a (.dT (kvF k3 kvs))
theorem D2.rd{H:Hp}{a:Addr}{kvs:List (PI×V)}(h:D2 H a kvs):R2 H a kvs:=.inl h
theorem D3.rd{H:Hp}{a:Addr}{kvs:List (PI3×V)}(h:D3 H a kvs):R3 H a kvs:=.inl h
theorem R2.mono{H H':Hp}{a:Addr}{kvs:List (PI×V)}(e:a9 H H')(h:R2 H a kvs):R2 H' a kvs:=a9.rd e h
theorem R3.mono{H H':Hp}{a:Addr}{kvs:List (PI3×V)}(e:a9 H H')(h:R3 H a kvs):R3 H' a kvs:=a9.rd e h
theorem R2.get{H:Hp}{a:Addr}{kvs:List (PI×V)}(h:R2 H a kvs){b:Addr}{p:PI}(hb:H b=some (.tup [.int p.1,.int p.2])):lP H a (.ref b) (RM.aN kvs p):=
 .inr ⟨_,k2 p,b,h,rfl,hb,(G8 (fun _ _=>BW) kvs p).symm⟩
theorem R3.get{H:Hp}{a:Addr}{kvs:List (PI3×V)}(h:R3 H a kvs){b:Addr}{p:PI3}(hb:H b=some (.tup [.int p.1,.int p.2.1,.int p.2.2])):lP H a (.ref b) (RM.aN kvs p):=
 .inr ⟨_,k3 p,b,h,rfl,hb,(G8 (fun _ _=>IA) kvs p).symm⟩
theorem D2.put{H:Hp}{a:Addr}{kvs:List (PI×V)}(h:D2 H a kvs){b:Addr}{p:PI}(hb:H b=some (.tup [.int p.1,.int p.2]))(v:V)(hl:kvs.length<sizeLine):LK H a (.ref b) v (upd H a (.dT (kvF k2 (RM.d5 kvs p v)))):=
 .inr ⟨_,k2 p,b,h,rfl,hb,by rw[f6];exact hl,by rw[B5 (fun _ _=>BW)]⟩
theorem D3.put{H:Hp}{a:Addr}{kvs:List (PI3×V)}(h:D3 H a kvs){b:Addr}{p:PI3}(hb:H b=some (.tup [.int p.1,.int p.2.1,.int p.2.2]))(v:V)(hl:kvs.length<sizeLine):LK H a (.ref b) v (upd H a (.dT (kvF k3 (RM.d5 kvs p v)))):=
 .inr ⟨_,k3 p,b,h,rfl,hb,by rw[f6];exact hl,by rw[B5 (fun _ _=>IA)]⟩
theorem a9.put{H0 H:Hp}{a:Addr}{o:HO}(e:a9 H0 H)(h:H0 a=none):a9 H0 (L2.upd H a o):=fun b u q=>by rw[aB (aJ q h)];exact e b u q
theorem qZ{h h' base:Heap}:∀{l:List Env},h.FunFrames base l->(∀b∈frs l,∀o,h.get? b=some o->(∀vs,o.data≠ .fields vs)->∃o',h'.get? b=some o'/\o'.data=o.data)->h'.FunFrames base l
 |[],_,_=>trivial
 |env::r,⟨hk,⟨L,o,hf,hn,ho,hd⟩,hr⟩,k=>by
  have e:frs (env::r)=L::frs r:=by unfold frs;rw[fg,hf]
  rw[e]at k;obtain⟨o',h1,h2⟩:=k L (by simp) o ho hd;exact⟨hk,⟨L,o',hf,hn,h1,fun vs=>h2▸hd vs⟩,qZ hr fun b hb=>k b (by simp[hb])⟩
theorem BU{M:Model}{A:Around}{E:Value->Shared->Prop}{s:Shared}{base:Heap}{env:Env}{outer:List Env}{L e:Addr}{cls a0 fl:Value}{Q:Unit->Shared->Prop}
  (vy:A.frames=some (env::outer)) (hf:env.frame=some L) (hkb:base.StaysIn s.heap) (ow:base.get? e=none) (hl:s.heap.FunFrames base (env::outer)) (ht:s.heap.TracedAtW base e cls a0 fl)
  (hQ:∀h',Heap.FlyingW base outer e cls a0 h'->s.heap.UpToSlots h'->Q () {s with heap:=h'}):wpAny M A (leaving env (.ref e)) Q E s:=by
 by_cases Cm:fl=rawInt L
 ·subst Cm;unfold leaving;refine aa (wpAny_noteFrame_againW hf ht (wpAny_landsW (l:=env::outer) ⟨hkb,ow,hl,ht⟩ fun h' fl' up=>?_));obtain⟨k1,k2,⟨_,_,k3⟩,k4⟩:=fl';exact hQ h' ⟨k1,k2,k3,k4⟩ up
 ·obtain⟨oe,vs,T,oT,ts,he,⟨px,h0⟩,hd,h1,hnT,hTe,hT,wd,h3⟩:=ht;subst px;have sz:3<ts.size:=(gf.mp h3).1;have oz:∀b,b≠T->(s.heap.update T (Obj.mapFields (·.setIfInBounds 3 Value.none))).get? b=s.heap.get? b:=fun b hb=>Heap.get?_update_other _ _ hb.symm
  have apart:∀b o,s.heap.get? b=some o->(∀ws,o.data≠ .fields ws)->b≠T:=fun b o hb nf z=>nf ts (by rw[z,hT]at hb;cases hb;exact wd)
  unfold leaving noteFrame;simp only[hf];refine aa (aa (wpAny_field he hd h1 ?_));rw[ah (by simp:(Value.ref T !=Value.none)=true)];refine aa (wpAny_field hT wd h3 ?_);rw[af (by simpa using Cm)];refine aa (wpAny_setField hT wd sz (wpAny_newEntryW vy ?fr hf ((oz e hTe.symm).trans he) ?st ow hd (gf.mp h1).1 h0 fun h' left=>?fin));case fr=>exact hl.of_keeps fun b o hb nf=>⟨o,(oz b (apart b o hb nf)).trans hb,rfl⟩
  case st=>exact fun b o hb=>(oz b fun z=>by rw[z,hnT]at hb;cases hb).trans (hkb b o hb)
  case fin=>obtain⟨k1,⟨_,_,k2⟩,k3,k4⟩:=left;exact hQ h' ⟨k1,ow,k2,k3⟩ fun b o hb nf=>k4 b o ((oz b (apart b o hb nf)).trans hb) nf
noncomputable abbrev uO(X:Cx)(s:Shared)(H:Hp)(scope:Scope)(jl:Env)(fp:List Addr)(EC:Addr->Prop):Cx:=
 (X.blk s H scope jl fp).rF fun e s'=>∃ae C,e=.ref ae/\Fly X.stack fp H s ae C s'/\EC C/\∃m,s'.heap.Ns jl.locals m
section
variable {P:Program}{w:World}{K:W.Frag}{mg:Str->Option Value}{base:Heap}{N:List Str}{qual:Str}{jk:Scope}{f:Addr}{cd:Value}{A:Around}{outer:List Env}{s0:Shared}{H0:Hp}{E:XK}
theorem HH{X:Cx}{s:Shared}{H:Hp}{scope:Scope}{jl:Env}{fp:List Addr}(hk:HOk X.prog X.w H s.heap){E':Value->Prop}:Passes CXf (uO X s H scope jl fp fun C=>E' (.ref C)) (fun c _ _=>E' c):=by
 intro jj σ H1 s1 e s' I h;obtain⟨ae,C,rfl,⟨⟨a0,fl⟩,slot,os,bare⟩,hE⟩:=h;have zo:Heap.FlyingW (g9 s.heap H (frs X.stack++fp)) X.stack ae (.ref C) a0 s'.heap:=
  W.flyingW_base (fun b o q=>by
   obtain⟨z1,z2,z3,_⟩:=stays I hk (ex:=fp) (fun _ z=>z) q;exact gM z1 z2 (by rw[nV];exact z3)) fl
 refine⟨ae,C,rfl,⟨⟨a0,zo⟩,fun b hb o q=>?_,os.trans I.os,bare⟩,hE,?_⟩
 ·obtain⟨sl1,q1⟩:=kI I (show b∈frs X.stack from hb) (fun z=>I.ok.CF b z hb) q;obtain⟨rq,q2⟩:=slot b hb _ q1;exact⟨rq,q2⟩
 ·obtain⟨m,⟨oL,es,ep,Bw,hdL,r⟩,_⟩:=I.loc;have Aa:jl.locals∉frs X.stack:=fun z=>by obtain⟨_,o,ho,_⟩:=I.ok.kW.mem (b:=jl.locals) z;exact absurd (bq ho) (not_lt.mpr I.ok.above)
  have hid:jM (H1 jl.locals)=false:=by have z:H1 jl.locals=none:=I.free;rw[z];rfl
  exact⟨m,oL,es,ep,fl.1 _ _ (gM Bw hid (by rw[nV];exact Aa)),hdL,r⟩
theorem HN(ke:HOk P w H0 s0.heap){jj:List (Addr×Obj)}{σ:L2.St}{H3:Hp}{s3:Shared}{fp:List Addr}{scope:Scope}{cl:List (Str×Addr)}{use:Option (Value->Sem Unit)}{Qf:Value->Shared->Prop}{acc e:Value}{s':Shared}
  (I3:Inv (cxF P w K mg base N qual jk f cd A outer s0 H0 E) jj σ H3 s3) (xi:∀b∈fp,n4 (cxF P w K mg base N qual jk f cd A outer s0 H0 E) jj H3 b)
  (hx:∃ae C,e=.ref ae/\Fly (cxF P w K mg base N qual jk f cd A outer s0 H0 E).stack fp H3 s3 ae C s'/\E (.ref C) none H0/\∃m,s'.heap.Ns s3.heap.objs.size m):
  notedBy (model P w) (cxF P w K mg base N qual jk f cd A outer s0 H0 E).A (compEnvC scope cl s3.heap.objs.size (cxF P w K mg base N qual jk f cd A outer s0 H0 E).env)
   (fun e s'=>compPost (model P w) (cxF P w K mg base N qual jk f cd A outer s0 H0 E).A (cxF P w K mg base N qual jk f cd A outer s0 H0 E).xe use Qf acc s3.heap.objs.size (.error e) s') e s':=by
 obtain⟨ae,C,rfl,⟨⟨a0,fl⟩,slot,os,bare⟩,hE,m,hn⟩:=hx;have low:∀b o,(g9 s0.heap H0 (frs outer++[])).get? b=some o->b<s0.heap.objs.size:=fun b o q=>bq (yZ q).1
 have zo:Heap.FlyingW (g9 s0.heap H0 (frs outer++[])) (cxF P w K mg base N qual jk f cd A outer s0 H0 E).stack ae (.ref C) a0 s'.heap:=
  W.flyingW_base (fun b o q=>by
   obtain⟨z1,z2,z3,_⟩:=stays I3 ke (ex:=[]) (fun _ z=>z) q;refine gM z1 z2 fun z=>(aw.mp z).elim z3 fun z=>?_
   rcases(xi b z).2.2.2.1 with y|y
   ·exact nomatch y
   ·exact absurd (low b o q) (not_lt.mpr y)) fl
 show wpAny (model P w) _ (noteFrame (.ref ae) (cxF P w K mg base N qual jk f cd A outer s0 H0 E).env) _ _ _
 refine wpAny_looks_onW (L:=s0.heap.objs.size) (outer:=outer) I3.ok.frames rfl zo fun h1 wb up1=>?_
 have goal:∃m,h1.Ns s3.heap.objs.size m/\∀h',Heap.SameBut s3.heap.objs.size h1 h'->∀jl:Env,jl.locals=s3.heap.objs.size ->
   wpAny (model P w) (cxF P w K mg base N qual jk f cd A outer s0 H0 E).A (PySem.passOn "comprehension.variables-let-go" (.ref ae) jl:Sem Value) (fun _ _=>False) (cxF P w K mg base N qual jk f cd A outer s0 H0 E).xe {s' with heap:=h'}:=by
  have hn1:=up1.ns hn;refine⟨m,hn1,fun h2 sb jl _=>?_⟩;obtain⟨oL,es,ep,Bw,hdL,_⟩:=hn1;obtain⟨f1,f2,f3,oe,vs,T,oT,ts,he,hc,hd,h1',hnT,hTe,hT,wd,h3⟩:=wb;have nC:∀b o,h1.get? b=some o->(∃ws,o.data=.fields ws)->b≠s3.heap.objs.size:=fun b o q ⟨ws,z⟩ y=>by rw[y,Bw]at q;cases q;rw[hdL]at z;cases z
  have he2:h2.get? ae=some oe:=(sb.2 ae (nC ae oe he ⟨vs,hd⟩)).trans he;have xp:h2.get? T=some oT:=(sb.2 T (nC T oT hT ⟨ts,wd⟩)).trans hT;have sz:3<ts.size:=(gf.mp h3).1;unfold PySem.passOn setFlight;refine aa (wpAny_field he2 hd h1' ?_);rw[af (by simp:¬((Value.ref T==Value.none)=true))];refine aa (aa (wpAny_field he2 hd h1' ?_));rw[ah (by simp:(Value.ref T !=Value.none)=true)];refine wpAny_setField xp wd sz (wpAny_throw ?_);have oz:∀b,b≠T->(h2.update T (Obj.mapFields (·.setIfInBounds 3 (jl.frame.elim Value.none fun f=>rawInt f)))).get? b=h2.get? b:=fun b hb=>Heap.get?_update_other _ _ hb.symm
  have fr:∀b∈frs (cxF P w K mg base N qual jk f cd A outer s0 H0 E).stack,b≠s3.heap.objs.size:=fun b hb=>by obtain⟨_,o,q,_⟩:=I3.stack.mem (b:=b) hb;exact cv (bq q)
  have nT:∀b o,h1.get? b=some o->(∀ws,o.data≠ .fields ws)->b≠T:=fun b o q nf y=>nf ts (by rw[y,hT]at q;cases q;exact wd)
  refine BU (base:=g9 s0.heap H0 (frs outer++[])) (L:=s0.heap.objs.size) (outer:=outer) (cls:=.ref C) (a0:=a0) (fl:=jl.frame.elim Value.none fun f=>rawInt f) I3.ok.frames rfl ?st f2 ?fr ?tr fun h4 fl4 up4=>?fin
  case st=>intro b o q;have l1:=low b o q;have l2:b≠s3.heap.objs.size:=cv (bw l1 I3.sz);rw[oz b fun z=>by rw[z,hnT]at q;cases q];exact(sb.2 b l2).trans (f1 b o q)
  case fr=>exact qZ f3 fun b hb o q nf=>⟨o,(oz b (nT b o q nf)).trans ((sb.2 b (fr b hb)).trans q),rfl⟩
  case tr=>exact⟨oe,vs,T,_,_,(oz ae hTe.symm).trans he2,hc,hd,h1',hnT,hTe,Heap.get?_update_self _ xp (Obj.isFreed_of_fields (Obj.data_mapFields wd _)),Obj.data_mapFields wd _,by simp[sz]⟩
  case fin=>
   refine⟨ae,C,rfl,⟨⟨_,fl4⟩,fun b hb o q=>?_,os.trans I3.os,bare⟩,hE⟩;have wg:b∈frs (cxF P w K mg base N qual jk f cd A outer s0 H0 E).stack:=by
    show b∈frs (_::outer)
    unfold frs;rw[fg];exact ar _ hb
   obtain⟨sl1,q1⟩:=kI I3 hb (by intro z;exact nomatch z) q;obtain⟨rq,q2⟩:=slot b wg _ q1;obtain⟨o3,q3,nf⟩:=(fl.2.2.1.mem (b:=b) wg).2;rw[q2]at q3;cases q3;obtain⟨zt,q4⟩:=up1 b _ q2 nf;have q5:=(oz b (nT b _ q4 nf)).trans ((sb.2 b (fr b wg)).trans q4);obtain⟨sl4,q6⟩:=up4 b _ q5 nf;exact⟨sl4,q6⟩
 cases use<;>exact goal
end
section
variable {P:Program}{w:World}{K:W.Frag}{mg:Str->Option Value}{base:Heap}{N:List Str}{qual:Str}{jk:Scope}{f:Addr}{cd:Value}{A:Around}{outer:List Env}{s0:Shared}{H0:Hp}{E:XK}
theorem zG{X:Cx}(hX:X=cxF P w K mg base N qual jk f cd A outer s0 H0 E)(ke:HOk P w H0 s0.heap){jj:List (Addr×Obj)}{s:Shared}{σ:L2.St}{H:Hp}{Q:VK}{lj tg iter:Expr}{scope:Scope}{own:List (Str×Nat)}{pos kb:Pos}{wi:TI}{g:TG}{te:TE}{use:Option (Value->Sem Unit)}{Qf:Value->Shared->Prop}
  (hN:X.N.Nodup) (I:Inv X jj σ H s) (hi:L2.PI X tg iter wi) (ok:oY X.N X.env.scope scope own)
  (hg:∀(s:Shared)(H:Hp)(C:Addr)(cl:List (Str×Addr))(fp:List Addr),PG (uO X s H scope (compEnvC scope cl C X.env) fp fun C=>E (.ref C) none H0) tg g)
  (he:∀(s:Shared)(H:Hp)(C:Addr)(cl:List (Str×Addr))(fp:List Addr),HOk X.prog X.w H s.heap->PE (uO X s H scope (compEnvC scope cl C X.env) fp fun C=>E (.ref C) none H0) lj te) (hs:∀x,foldedSetIterable iter X.env x=pure x)
  (h:tLc wi g GC te (own.map (·.2)) σ H Q)
  (hRR:∀D C s' m H',Inv X jj σ H' s'->Q (.ref D) H'->s'.heap.Ns C m->n4 X jj H' C->compPost (model X.prog X.w) X.A X.xe use Qf (.ref D) C (.ok .next) s'):
  wpAny (model X.prog X.w) X.A (comprehension (.ListComp lj [⟨tg,iter,[],0⟩] scope pos) scope X.env kb (newList []) false (eval iter X.env) use) Qf X.xe s:=by
 have kn:∀y∈scope.names,y.2=.free->∃c,X.env.cells.lookup y.1=some c:=fun y hy e=>by
  rcases ok.free y hy e with k|k
  ·exact I.ok.has _ (.inl k)
  ·exact I.ok.has _ (.inr k)
 refine wpAny_comprehension_free (use:=use) rfl hs (mX kn) ok.kind (fun y hy e=>by rw[ok.uniq y hy,e])
  (thn (hi jj s σ H _ I h) fun xv s1 hx=>thn hx fun itv s2 h2=>?_)
 obtain⟨it,fp,tn,J,H2,e,I2,T,yb,f2,q⟩:=h2;subst e;refine wpAny_newObj_type (qS ?_) (by show 0<=sizeLine;decide);generalize hD:s2.heap.objs.size=D;have hDn:H2 D=none:=I2.hok.fresh (ie hD);obtain⟨W,⟨m0,w0⟩,ki⟩:=q D hDn;generalize hs3:({s2 with heap:=s2.heap.push {cls:=.type "list",data:=.seq ([]:List Value).toArray}}:Shared)=s3;have I3:Inv X jj σ (upd H2 D (.lst [])) s3:=by rw[<- hs3];refine I2.laid (t':=s2.toks) (fun b o e=>ao _ e) (ie hD) ⟨bz _,[],0,.nil,?_⟩;rw[<- hD];exact az _ rfl
 have h3:s3.heap=s2.heap.push {cls:=.type "list",data:=.seq ([]:List Value).toArray}:=by rw[<- hs3]
 have sz:∀b∈fp,b<s2.heap.objs.size:=fun b hb=>by obtain⟨o,e,_⟩:=T.obj _ _ yb b hb;exact bq e
 have f3:∀b∈fp,n4 X jj (upd H2 D (.lst [])) b/\b<s3.heap.objs.size:=fun b hb=>by have jr:=sz b hb;refine⟨⟨?_,(f2 b hb).2⟩,by rw[h3,ft];exact jh jr⟩;rw[aB (by rw[<- hD];exact cv jr)];exact(f2 b hb).1
 have zr:tn 0 s3.heap:=T.keep _ _ _ yb fun b _ o e=>by rw[h3];exact ao _ e
 have I4':=rC I3 ok hN f3;have pg:=hg s3 (upd H2 D (.lst [])) s3.heap.objs.size (cellsFrom (s3.heap.objs.size+1) scope.names (bF X.env.cells scope.names [])) fp;have pe:=he s3 (upd H2 D (.lst [])) s3.heap.objs.size (cellsFrom (s3.heap.objs.size+1) scope.names (bF X.env.cells scope.names [])) fp I3.hok;show codeAny _ _ (.compStart (.ListComp lj [⟨tg,iter,[],0⟩] scope pos) 0 (.ref it) (.ref D) (compEnvC scope (cellsFrom (s3.heap.objs.size+1) scope.names (bF X.env.cells scope.names [])) s3.heap.objs.size X.env)) (compPost (model X.prog X.w) X.A X.xe use Qf (.ref D) s3.heap.objs.size) {s3 with heap:=pushCells (s3.heap.push {cls:=.type "dict",data:=.dict #[]}) scope.names}
 have Bf:∀b∈fp,(upd H2 D (.lst [])) b=none:=fun b hb=>(f3 b hb).1.1
 generalize ni:cellsFrom (s3.heap.objs.size+1) scope.names (bF X.env.cells scope.names [])=cl at I4' pg pe ⊢;have pb:∀e s',(uO X s3 (upd H2 D (.lst [])) scope (compEnvC scope cl s3.heap.objs.size X.env) fp fun C=>E (.ref C) none H0).xe e s' ->
   notedBy (model X.prog X.w) X.A (compEnvC scope cl s3.heap.objs.size X.env) (fun e s'=>compPost (model X.prog X.w) X.A X.xe use Qf (.ref D) s3.heap.objs.size (.error e) s') e s':=fun e s' hx=>by
  subst hX;exact HN ke I3 (fun b hb=>(f3 b hb).1) hx
 generalize hce:compEnvC scope cl s3.heap.objs.size X.env=ce at I4' pg pe pb ⊢;have cL:ce.locals=s3.heap.objs.size:=by subst hce;rfl
 have I4:Inv (uO X s3 (upd H2 D (.lst [])) scope ce fp fun C=>E (.ref C) none H0) [] (wipe σ (own.map (·.2))) (upd H2 D (.lst [])) {s3 with heap:=pushCells (s3.heap.push {cls:=.type "dict",data:=.dict #[]}) scope.names}:=I4'.rF _;generalize hH3:upd H2 D (.lst [])=H3 at I3 I4 pg pe w0 Bf f3 pb;generalize hs4:({s3 with heap:=pushCells (s3.heap.push {cls:=.type "dict",data:=.dict #[]}) scope.names}:Shared)=s4 at I4 ⊢;have As:tn 0 s4.heap:=T.keep _ _ _ zr fun b _ o e=>by rw[<- hs4];exact pushCells_keeps _ _ _ _ (ao _ e)
 generalize hB:uO X s3 H3 scope ce fp (fun C=>E (.ref C) none H0)=B at I4 pg pe pb;have calm:B.calm=true:=by subst hB hX;rfl
 have mr:∀{σ':L2.St}{H':Hp}{s':Shared},Inv B [] σ' H' s'->(∀b∈fp,H' b=none)->∀b∈fp,n4 B [] H' b:=fun{σ' H' s'} I' hn b hb=>by subst hB;exact⟨hn b hb,(I'.ok.exf b hb).1,I'.ok.CF b hb,.inl hb,fun x c e=>(I'.ok.exf b hb).2 x c e,fun p hp=>absurd (show p∈([]:List (Addr×Obj))++[]from hp) (by simp)⟩
 have eP:B.prog=X.prog:=by subst hB;rfl
 have eW:B.w=X.w:=by subst hB;rfl
 have eK:B.K=X.K:=by subst hB;rfl
 have eA:B.A=X.A:=by subst hB;rfl
 have loop:codeAny (model X.prog X.w) X.A (.compLoop (.ListComp lj [⟨tg,iter,[],0⟩] scope pos) 0 (.ref it) (.ref D) ce) (compPost (model X.prog X.w) X.A X.xe use Qf (.ref D) s3.heap.objs.size) s4:=by
  refine oU (fun n s'=>∃i H',Inv B [] (wipe σ (own.map (·.2))) H' s'/\tn i s'.heap/\(∀b∈fp,H' b=none)/\W i n H') ?_ m0 ⟨0,H3,I4,As,Bf,w0⟩;rintro n s5 ⟨i,H5,I5,uw,n5,w5⟩;rcases ki i n H5 w5 with⟨stop,qq⟩|⟨go,Nx,hNx,step⟩
  ·have td:=T.done B eP eW eK calm i [] s5 _ H5 (fun _ _=>False) I5 (mr I5 n5) uw stop;rw[eA]at td;refine wM td fun r s6 ⟨hr,I6⟩=>?_
   subst hr;have I7:Inv X jj σ H5 s6:=by subst hB;exact I3.DZ (ch:=fp) I6.os I6.base I6.hok I6.bare fun b hb=>⟨(f3 b hb).1.2.2.2.1,(f3 b hb).1.2.1,(f3 b hb).1.2.2.2.2.1,(f3 b hb).1.2.2.2.2.2⟩
   have nC:H5 s3.heap.objs.size=none:=by subst hB;have z:H5 ce.locals=none:=I6.free;rw[cL]at z;exact z
   obtain⟨m,hn⟩:∃m,s6.heap.Ns s3.heap.objs.size m:=by subst hB;obtain⟨m,hn,_⟩:=I6.loc;have hn:s6.heap.Ns ce.locals m:=hn;rw[cL]at hn;exact⟨m,hn⟩
   exact hRR D s3.heap.objs.size s6 m H5 I7 qq hn (I3.C9 (au _) nC)
  ·have ti:=T.item B eP eW eK calm i [] s5 _ H5 (fun _ _=>False) I5 (mr I5 n5) uw go;rw[eA]at ti;refine wM ti fun r s6 ⟨u,hr,h6⟩=>?_
   subst hr;refine wM h6 fun _ s7 ⟨x,H7,I7,r7,y7,xy,n7⟩=>?_
   have I7':=I7.pinned (mr I7 n7) (T.obj _ _ xy);have pg':=pg _ s7 _ H7 x u _ I7' r7 (step x H7 y7);rw[eP,eW,eA]at pg';have ee:B.env=ce:=by subst hB;rfl
   rw[ee]at pg';refine wpAny_mono pg' (fun _ s8 ⟨σ8,H8,I8,Bk,q8⟩=>?_) pb;have fin:∀{s':Shared}{H':Hp},Inv B ([]++pJ fp s7.heap) σ8 H' s'->Nx H'->∃m,m<n/\∃i H',Inv B [] (wipe σ (own.map (·.2))) H' s'/\tn i s'.heap/\(∀b∈fp,H' b=none)/\W i m H':=fun{s' H'} I' nx=>by
    obtain⟨m',hm,w'⟩:=hNx H' nx;have sf:∀b∈fp,∀o,s7.heap.get? b=some o->s'.heap.get? b=some o/\H' b=none:=fun b hb o e=>
     let z:=I'.pin (b,o) (bc _ (bc _ (jI hb e)))
     ⟨z.1,z.2.1⟩
    have hl:(wipe σ (own.map (·.2))).length=σ8.length:=by rw[<- Bk,gY]
    refine⟨m',hm,i+1,H',(I'.kB (jj:=[])).weak hl (fun j v e=>?_),T.keep _ _ _ xy fun b hb o e=>(sf b hb o e).1,fun b hb=>?_,w'⟩
    ·rw[<- Bk]at e;exact(lQ e).1
    ·obtain⟨o,e,_⟩:=T.obj _ _ xy b hb;exact(sf b hb o e).2
   refine ag ?_;have q8:(if true=true then te σ8 H8 fun y H4=>∃acc,H4 D=some (.lst acc)/\acc.length<sizeLine/\Nx (upd H4 D (.lst (acc++[y])))else Nx H8):=q8;simp only[if_true]at q8 ⊢;have pe':=pe _ s8 σ8 H8 _ I8 q8;rw[eP,eW,eA,ee]at pe';refine wpAny_mono pe' (fun z zu ⟨yv,H10,I10,r10,acc,qm,yt,nx⟩=>?_) pb;have ap:=JA (E:=notedBy (model X.prog X.w) X.A ce fun e s'=>compPost (model X.prog X.w) X.A X.xe use Qf (.ref D) s3.heap.objs.size (.error e) s') (Q:=fun _ s₅=>∃m,m<n/\∃i H',Inv B [] (wipe σ (own.map (·.2))) H' s₅/\tn i s₅.heap/\(∀b∈fp,H' b=none)/\W i m H') I10 qm yt r10 fun s11 I11=>fin I11 nx
   rw[eP,eW,eA]at ap;exact ap
 exact codeAny_compStart_list loop (T.self X.A 0 _ _ _ As loop)
theorem MG(ke:HOk P w H0 s0.heap){lj tg iter:Expr}{scope:Scope}{own:List (Str×Nat)}{pos:Pos}{wi:TI}{g:TG}{te:TE}(hc:(cxF P w K mg base N qual jk f cd A outer s0 H0 E).calm=true)(hN:N.Nodup)
  (hi:L2.PI (cxF P w K mg base N qual jk f cd A outer s0 H0 E) tg iter wi) (ok:oY N jk scope own)
  (hg:∀(s:Shared)(H:Hp)(C:Addr)(cl:List (Str×Addr))(fp:List Addr),PG (uO (cxF P w K mg base N qual jk f cd A outer s0 H0 E) s H scope (compEnvC scope cl C (cxF P w K mg base N qual jk f cd A outer s0 H0 E).env) fp fun C=>E (.ref C) none H0) tg g)
  (he:∀(s:Shared)(H:Hp)(C:Addr)(cl:List (Str×Addr))(fp:List Addr),HOk P w H s.heap->PE (uO (cxF P w K mg base N qual jk f cd A outer s0 H0 E) s H scope (compEnvC scope cl C (cxF P w K mg base N qual jk f cd A outer s0 H0 E).env) fp fun C=>E (.ref C) none H0) lj te)
  (hs:∀x,foldedSetIterable iter (cxF P w K mg base N qual jk f cd A outer s0 H0 E).env x=pure x:=by intro _;rfl):
  PE (cxF P w K mg base N qual jk f cd A outer s0 H0 E) (.ListComp lj [⟨tg,iter,[],0⟩] scope pos) (tLc wi g GC te (own.map (·.2))):=by
 intro jj s σ H Q I h;rw[eval_ListComp];refine zG rfl ke hN I hi ok hg he hs h fun D C s' m H' I' q hn f=>⟨m,hn,fun wo sb=>?_⟩
 obtain⟨f0,f1,f2,f3,f4,f5⟩:=f;exact⟨.ref D,H',I'.turned (t':=s'.toks) (fun b o hb e=>(sb.2 b hb).trans e) f0 f1 f3 f4 f5,rfl,q⟩
theorem vE(ke:HOk P w H0 s0.heap){i:Nat}{y:Str}{py:Pos}{lj tg iter:Expr}{scope:Scope}{own:List (Str×Nat)}{pos rp:Pos}{wi:TI}{g:TG}{te:TE}(hc:(cxF P w K mg base N qual jk f cd A outer s0 H0 E).calm=true)(hN:N.Nodup)(hy:N[i]? =some y)(sq:jk.names.lookup y=some .local)
  (hsw:swapsWith (.ListComp lj [⟨tg,iter,[],0⟩] scope pos) (some (.Name y py)) rp.line (cxF P w K mg base N qual jk f cd A outer s0 H0 E).env=pure true)
  (hi:L2.PI (cxF P w K mg base N qual jk f cd A outer s0 H0 E) tg iter wi) (ok:oY N jk scope own)
  (hg:∀(s:Shared)(H:Hp)(C:Addr)(cl:List (Str×Addr))(fp:List Addr),PG (uO (cxF P w K mg base N qual jk f cd A outer s0 H0 E) s H scope (compEnvC scope cl C (cxF P w K mg base N qual jk f cd A outer s0 H0 E).env) fp fun C=>E (.ref C) none H0) tg g)
  (he:∀(s:Shared)(H:Hp)(C:Addr)(cl:List (Str×Addr))(fp:List Addr),HOk P w H s.heap->PE (uO (cxF P w K mg base N qual jk f cd A outer s0 H0 E) s H scope (compEnvC scope cl C (cxF P w K mg base N qual jk f cd A outer s0 H0 E).env) fp fun C=>E (.ref C) none H0) lj te)
  (hs:∀x,foldedSetIterable iter (cxF P w K mg base N qual jk f cd A outer s0 H0 E).env x=pure x:=by intro _;rfl):
  PS (cxF P w K mg base N qual jk f cd A outer s0 H0 E) (.Assign [.Name y py] (.ListComp lj [⟨tg,iter,[],0⟩] scope pos) rp) (B0 (tLc wi g GC te (own.map (·.2))) (jZ i)):=by
 generalize hX:cxF P w K mg base N qual jk f cd A outer s0 H0 E=X at*;have Cv:X.N.Nodup:=by subst hX;exact hN
 have qt:X.N[i]? =some y:=by subst hX;exact hy
 have Bj:X.env.scope.names.lookup y=some .local:=by subst hX;exact sq
 have ok':oY X.N X.env.scope scope own:=by subst hX;exact ok
 intro jj s σ H D I h;rw[exec_Assign_Name_used _ _ _ _ hsw];refine aa (wpAny_standAt (aa ?_));show wpAny _ X.A (do let _<- comprehension (.ListComp lj [⟨tg,iter,[],0⟩] scope pos) scope X.env (firstIterPos [⟨tg,iter,[],0⟩] pos) (newList []) false (eval iter X.env) (some (assign (.Name y py) X.env))) _ _ s
 have h:tLc wi g GC te (own.map (·.2)) σ H (fun x H1=>jZ i x σ H1 D.nx):=h;refine aa (thn (zG (Qf:=fun _ s'=>SP X jj D .next s') hX.symm ke Cv I hi ok' hg (fun s H C cl fp hk=>he s H C cl fp (by subst hX;exact hk)) hs h fun L C s' m H' I' q hn f=>?_) fun _ s' hq=>ag (ag hq));show wpAny _ _ (assign (.Name y py) X.env (.ref L)) _ _ _
 refine wpAny_assign_Name (pC (v:=V.ref L) I' Cv qt (.inl Bj) rfl (fun s2 I2 ⟨a,sb,ha⟩=>?_) (.inr Bj));obtain⟨f0,f1,f2,f3,f4,f5⟩:=f;have haC:C≠a:=by
  rcases ha with z|z
  ·rw[z];exact f1
  ·exact fun e=>f4 y a z e.symm
 refine⟨m,hn.sameBut sb haC,fun h3 sb3=>?_⟩;exact⟨_,H',I2.turned (t':=s2.toks) (fun b o hb e=>(sb3.2 b hb).trans e) f0 f1 f3 f4 f5,q⟩
end
theorem T2.upd{H:Hp}{v:V}{p:Int×Int}{D:Addr}{xs:List V}{o:HO}(h:T2 H v p)(hD:H D=some (.lst xs)):T2 (L2.upd H D o) v p:=by obtain⟨a,e,q⟩:=h;exact⟨a,e,by rw[aB (fE q hD (by intro z;cases z))];exact q⟩
theorem T3.upd{H:Hp}{v:V}{p:Int×Int×Int}{D:Addr}{xs:List V}{o:HO}(h:T3 H v p)(hD:H D=some (.lst xs)):T3 (L2.upd H D o) v p:=by obtain⟨a,e,q⟩:=h;exact⟨a,e,by rw[aB (fE q hD (by intro z;cases z))];exact q⟩
theorem LT.upd{H:Hp}{b D:Addr}{zs:List PI}{xs:List V}{o:HO}(h:LT H (.ref b) zs)(hD:H D=some (.lst xs))(n:b≠D):LT (L2.upd H D o) (.ref b) zs:=by obtain⟨a,ys,e,q,pr⟩:=h;cases e;exact⟨b,ys,rfl,by rw[aB n];exact q,aK (fun _ _ z=>z.upd hD) pr⟩
theorem LLI.apart{H:Hp}{p:Addr}{xs:List V}(hp:H p=some (.lst xs)){v:V}(hv:v∈xs){row:List Int}(h:LI H v row):∃b,v=.ref b/\b≠p/\H b=some (.lst (row.map V.int)):=by obtain⟨b,rfl,q⟩:=h;refine⟨b,rfl,fun z=>?_,q⟩;rw[z,hp]at q;have q:=HO.lst.inj (Option.some.inj q);rw[q]at hv;obtain⟨n,_,e⟩:=ax.mp hv;cases e
theorem eY{α β:Type}{R:α->β->Prop}:∀{l:List α}{m:List β},Paired R l m->Paired R l.dropLast m.dropLast
 |_,_,.nil=>.nil
 |_,_,.cons _ .nil=>.nil
 |_,_,.cons r (.cons q t)=>.cons r (eY (.cons q t))
theorem lW{α β:Type}{R:α->β->Prop}:∀{l:List α}{m:List β},Paired R l m->Paired (fun a b=>a∈l/\b∈m/\R a b) l m
 |_,_,.nil=>.nil
 |_,_,.cons r t=>.cons ⟨by simp,by simp,r⟩ (aK (fun _ _ ⟨h1,h2,h3⟩=>⟨ar _ h1,ar _ h2,h3⟩) (lW t))
theorem nY{α:Type}{a:α}:∀{l:List α},a∈l.dropLast->a∈l
 |[],h=>by cases h
 |[_],h=>by cases h
 |x::y::r,h=>by
  rcases ak.mp h with rfl|h
  ·simp
  ·exact ar _ (nY h)
theorem IL{K:W.Frag}{a:Addr}{xs:List V}{g:TG}{tb:TS}{D:Ends}{σ:L2.St}{H:Hp}(Pv:Nat->L2.St->Hp->Prop)(h0:Pv 0 σ H)(hl:∀i σ H,i<=xs.length->Pv i σ H->SqL K H a xs)
  (hs:∀i x σ H T,xs[i]? =some x->Pv i σ H->H T=none->g (.ref T) σ (upd H T (.tup [.int (i:Nat),x])) fun σ2 H2=>tb {D with nx:=Pv (i+1),ct:=Pv (i+1),bk:=D.nx} σ2 H2) (hd:∀σ H,Pv xs.length σ H->D.nx σ H):
  ∃W:Nat->Nat->L2.St->Hp->Prop,(∃m,W 0 m σ H)/\∀i m σ H,W i m σ H ->
   ((Ite K a).stop i H/\D.nx σ H)\/((Ite K a).go i H/\∃N:L2.St->Hp->Prop,(∀σ' H',N σ' H'->∃m',m'<m/\W (i+1) m' σ' H')/\∀x H',(Ite K a).yld i H x H'->g x σ H' fun σ2 H2=>tb {D with nx:=N,ct:=N,bk:=D.nx} σ2 H2):=by
 refine⟨fun i m σ H=>m=xs.length - i/\i<=xs.length/\Pv i σ H,⟨xs.length,by simp,bz _,h0⟩,?_⟩;rintro i m σ H ⟨rfl,hi,p⟩;have q:=hl i σ H hi p;by_cases jr:i<xs.length
 ·refine .inr ⟨⟨xs,xs[i],q,by simp[jr]⟩,Pv (i+1),fun σ' H' p'=>⟨xs.length - (i+1),by omega,rfl,jr,p'⟩,fun x H' y=>?_⟩;obtain⟨T,z,rfl,hT,rfl,y⟩:=y;exact hs i z σ H T (y xs q) p hT
 ·have e:i=xs.length:=by omega
  subst e;exact .inl ⟨⟨xs,q,au _⟩,hd σ H p⟩
theorem kX{d:Addr}{od:Obj}{kvs:List (List Key×V)}{g:TG}{tb:TS}{D:Ends}{σ:L2.St}{H:Hp}(Pv:Nat->L2.St->Hp->Prop)(h0:Pv 0 σ H)(hl:∀i σ H,Pv i σ H->H d=some (.frz od (.dT kvs)))
  (hs:∀i k v q σ H,kvs[i]? =some (k,v)->H q=some (.tup (k.map kV))->Pv i σ H->g (.ref q) σ H fun σ2 H2=>tb {D with nx:=Pv (i+1),ct:=Pv (i+1),bk:=D.nx} σ2 H2) (hd:∀σ H,Pv kvs.length σ H->D.nx σ H):
  ∃W:Nat->Nat->L2.St->Hp->Prop,(∃m,W 0 m σ H)/\∀i m σ H,W i m σ H ->
   ((AM d od kvs).stop i H/\D.nx σ H)\/((AM d od kvs).go i H/\∃N:L2.St->Hp->Prop,(∀σ' H',N σ' H'->∃m',m'<m/\W (i+1) m' σ' H')/\∀x H',(AM d od kvs).yld i H x H'->g x σ H' fun σ2 H2=>tb {D with nx:=N,ct:=N,bk:=D.nx} σ2 H2):=by
 refine⟨fun i m σ H=>m=kvs.length - i/\i<=kvs.length/\Pv i σ H,⟨kvs.length,by simp,bz _,h0⟩,?_⟩;rintro i m σ H ⟨rfl,hi,p⟩;have q:=hl i σ H p;by_cases jr:i<kvs.length
 ·refine .inr ⟨⟨q,jr⟩,Pv (i+1),fun σ' H' p'=>⟨kvs.length - (i+1),by omega,rfl,jr,p'⟩,fun x H' y=>?_⟩;obtain⟨rfl,k,v,b,hk,rfl,hb⟩:=y;exact hs i k v b σ H' hk hb p
 ·have e:i=kvs.length:=by omega
  subst e;exact .inl ⟨⟨q,au _⟩,hd σ H p⟩
theorem KC{d:Addr}{od:Obj}{kvs:List (List Key×V)}{g:TG}{tt:TT}{te:TE}{vs:List Nat}{σ:L2.St}{H1:Hp}{D:Addr}{Qd:Hp->Prop}(Pv:Nat->Hp->Prop)(h0:Pv 0 (upd H1 D (.lst [])))(hl:∀i H,Pv i H->H d=some (.frz od (.dT kvs)))
  (hs:∀i k v q H,kvs[i]? =some (k,v)->H q=some (.tup (k.map kV))->Pv i H->g (.ref q) (wipe σ vs) H fun σ2 H2=>wipe σ2 vs=wipe σ vs/\tt σ2 H2 fun b H3=>
   if b=true then te σ2 H3 fun y H4=>∃acc,H4 D=some (.lst acc)/\acc.length<sizeLine/\Pv (i+1) (upd H4 D (.lst (acc++[y])))else Pv (i+1) H3) (hd:∀H,Pv kvs.length H->Qd H):
  ∃W:Nat->Nat->Hp->Prop,(∃m,W 0 m (upd H1 D (.lst [])))/\∀i m H,W i m H ->
   ((AM d od kvs).stop i H/\Qd H)\/((AM d od kvs).go i H/\∃Nx:Hp->Prop,(∀H',Nx H'->∃m',m'<m/\W (i+1) m' H')/\∀x H',(AM d od kvs).yld i H x H'->g x (wipe σ vs) H' fun σ2 H2=>wipe σ2 vs=wipe σ vs/\tt σ2 H2 fun b H3=>
    if b=true then te σ2 H3 fun y H4=>∃acc,H4 D=some (.lst acc)/\acc.length<sizeLine/\Nx (upd H4 D (.lst (acc++[y])))else Nx H3):=by
 refine⟨fun i m H=>m=kvs.length - i/\i<=kvs.length/\Pv i H,⟨kvs.length,by simp,bz _,h0⟩,?_⟩;rintro i m H ⟨rfl,hi,p⟩;have q:=hl i H p;by_cases jr:i<kvs.length
 ·refine .inr ⟨⟨q,jr⟩,Pv (i+1),fun H' p'=>⟨kvs.length - (i+1),by omega,rfl,jr,p'⟩,fun x H' y=>?_⟩;obtain⟨rfl,k,v,b,hk,rfl,hb⟩:=y;exact hs i k v b H' hk hb p
 ·have e:i=kvs.length:=by omega
  subst e;exact .inl ⟨⟨q,au _⟩,hd H p⟩
theorem a9.unlock{H H2:Hp}{d:Addr}{od:Obj}{u:HO}(h:H d=some u)(e:a9 (L2.upd H d (.frz od u)) H2):a9 H (L2.upd H2 d u):=fun b o q=>by
 by_cases hb:b=d
 ·subst hb;rw[a8];rw[h]at q;exact q
 ·rw[aB hb];exact e b o (by rw[aB hb];exact q)
theorem T2.pA{H:Hp}{v:V}{p:Int×Int}{D:Addr}{u o:HO}(h:T2 H v p)(hD:H D=some u)(hu:∀xs,u≠ .tup xs):T2 (L2.upd H D o) v p:=by obtain⟨a,e,q⟩:=h;exact⟨a,e,by rw[aB (fE q hD (fun z=>hu _ z.symm))];exact q⟩
theorem T3.pA{H:Hp}{v:V}{p:Int×Int×Int}{D:Addr}{u o:HO}(h:T3 H v p)(hD:H D=some u)(hu:∀xs,u≠ .tup xs):T3 (L2.upd H D o) v p:=by obtain⟨a,e,q⟩:=h;exact⟨a,e,by rw[aB (fE q hD (fun z=>hu _ z.symm))];exact q⟩
theorem J8{xs:List V}{k:Nat}{v:V}(hk:k<xs.length)(h:xs[if k=0 then xs.length - 1 else k - 1]? =some v):atI xs ((k:Int) - 1)=some v:=by
 by_cases h0:k=0
 ·subst h0;rw[ah rfl]at h;unfold atI ixN;rw[af (by omega),ah (by omega)];show xs[(((0:Nat):Int) - 1+(xs.length:Int)).toNat]? =some v
  rw[show(((0:Nat):Int) - 1+(xs.length:Int)).toNat=xs.length - 1 by omega];exact h
 ·rw[af h0]at h;exact aX (by omega) (by rw[show((k:Int) - 1).toNat=k - 1 by omega];exact h)
def CS(C:List (Nat×Nat)):List (PI×V):=C.map fun c=>(RM.iP c,.bl true)
theorem jU(C:List (Nat×Nat)):(CS C).map (·.1)=C.map RM.iP:=by simp[CS]
theorem fW{a b:Nat×Nat}(h:RM.iP a=RM.iP b):a=b:=by unfold RM.iP at h;have h1:=congrArg Prod.fst h;have h2:=congrArg Prod.snd h;simp at h1 h2;exact Prod.ext (by omega) (by omega)
theorem E5(C:List (Nat×Nat))(c:Nat×Nat)(h:c∉C):RM.d5 (CS C) (RM.iP c) (.bl true)=CS (C++[c]):=by
 rw[RM.fR]
 ·simp[CS]
 ·rw[jU];intro z;obtain⟨d,hd,e⟩:=ax.mp z;exact h (fW e▸hd)
theorem n6(C:List (Nat×Nat)):(CS C).length=C.length:=by simp[CS]
theorem NO(C:List (Nat×Nat))(q:PI):(RM.aN (CS C) q).isSome=true↔q∈C.map RM.iP:=by rw[RM.aV,jU]
end L3
namespace L3
open PySem PySem.Spec PySem.Calls PyProof.Rows L2
structure k7(h:Heap)(d:Addr)(o:Obj)(es:Array DictEntry)(ep:Nat):Prop where
 at_:h.get? d=some o
 ex:o.ExactDict
 dat:o.data=.dict es ep
theorem k7.ty{s:Shared}{d:Addr}{o:Obj}{es:Array DictEntry}{ep:Nat}(e:k7 s.heap d o es ep):s.TypeIs (.ref d) "dict" :=⟨o,e.at_,e.ex.1⟩
theorem k7.to{h h':Heap}{d:Addr}{o:Obj}{es:Array DictEntry}{ep:Nat}(e:k7 h d o es ep)(k:∀q,h.get? d=some q->h'.get? d=some q):k7 h' d o es ep:=⟨k _ e.at_,e.ex,e.dat⟩
section
variable {X:Cx}{jj:List (Addr×Obj)}{σ:L2.St}{H:Hp}{s:Shared}{a:Addr}{kvs:List (List Key×V)}
theorem oQ(I:Inv X jj σ H s)(e:Rd H a (.dT kvs)):(a==sysModules)=false/\kvs.length<=sizeLine/\∃o es ep,k7 s.heap a o es ep/\es.size=kvs.length/\
  ∀(i:Nat)(en:DictEntry),es[i]? =some en->∃k v q,kvs[i]? =some (k,v)/\en.key=.ref q/\H q=some (.tup (k.map kV))/\RelV v en.val:=by
 obtain⟨z,hs,xs,kt,o,es,ep,ho,hx,kj,hes,_,_⟩:=oR I.hok e;refine⟨hs,z,o,es,ep,⟨ho,hx,kj⟩,?_,fun i en ow=>?_⟩
 ·rw[size_of_entries hes,<- Paired.length kt]
 ·rw[entry_at hes i]at ow;cases hxs:xs[i]? with
  |none=>rw[hxs]at ow;cases ow
  |some x=>rw[hxs]at ow;obtain⟨⟨k,v⟩,hk,e1,e2,e3⟩:=iZ kt hxs;cases ow;exact⟨k,v,x.2.1,hk,rfl,e2,e3⟩
end
section
variable {prog:Program}{w:World}{A:Around}{E:Value->Shared->Prop}{s:Shared}{d:Addr}{o:Obj}{es:Array DictEntry}{ep:Nat}
theorem BO(hs:(d==sysModules)=false):MeetsIn prog w (Builtin.«dict.__len__» ⟨[.ref d],[]⟩) fun _ R s=>∃o es ep,k7 s.heap d o es ep/\R (.ok (.ret (.int es.size s.toks))) {s with toks:=s.toks+1}:=
 .of_wp fun A R s q=>by
  obtain⟨o,es,ep,e,hR⟩:=q;show wpAny _ _ (dictSize d>>=fun _=>_) _ _ s
  delta dictSize
  exact aa (aa (wpAny_dictEntries e.at_ e.dat (ag (show wpAny _ _ (Builtin.Dict.pendingCount d>>=fun _=>_) _ _ s from aa (wpAny_pendingCount_other hs (wpAny_ret_mkInt (by rw[Nat.add_zero];exact hR)))))))
theorem EW{Q:Value->Shared->Prop}(hs:(d==sysModules)=false)(e:k7 s.heap d o es ep)(hf:(es.size:Int)<2^63)(hQ:Q (.int es.size (s.toks+1)) {s with toks:=s.toks+1+1}):
  wpAny (model prog w) A (Builtin.«len» ⟨[.ref d],[]⟩) (fun fin s'=>∃r,fin=.done (.ret r)/\Q r s') E s:=by
 delta Builtin.«len»
 refine aa (m:=oneArg "len" _) (ag (aa (m:=callSpecial? (.ref d) (Str.ofString "__len__")) (wpAny_callSpecial?_slot (name:=Str.ofString "__len__") e.ty F.slot_dict_len (call_meetsIn F.slot_dict_len e.ty F.entry_dict_len (F.args_dict_len_1 _) (BO hs) ⟨o,es,ep,e,?_⟩))));show wpAny _ _ _ _ _ {s with toks:=s.toks+1}
 refine aa (wpAny_holding (ag (aa (wpAny_letGo ?_))));have n1:¬(((es.size:Nat):Int)<0):=by omega
 have n2:¬(((es.size:Nat):Int)>=2^63):=by omega
 show wpAny _ _ (if((es.size:Nat):Int)<0 then _ else if((es.size:Nat):Int)>=2^63 then _ else _) _ _ _
 rw[af n1,af n2];exact aa (wpAny_mkInt (ag ⟨_,rfl,hQ⟩))
theorem LU(hh:A.handled=none)(I:Addr)(jn:d≠I)(hx:o.ExactDict)(kj:o.data=.dict es ep):Walks prog w A I [I,d] [I] es.size (fun i v=>∃en,es[i]? =some en/\v=en.key) (fun i h=>h.IsKeyIter I d i es.size ep/\k7 h d o es ep) where
 sub:=fun b hb=>by rw[fm]at hb;rw[hb];exact bb
 frame:=fun _ _ _ st k=>⟨st.1.at fun q e=>k I bb q e,st.2.to fun q e=>k d (ar _ bb) q e⟩
 item:=fun i s Q E hi st hQ=>by
  have he:es[i]? =some es[i]:=fx hi;refine iJ st.1 st.2.at_ kj rfl he fun h' it' sb=>?_
  exact hQ _ h' s.toks ⟨_,he,rfl⟩ ⟨it',st.2.to fun q e=>(sb.2 d jn).trans e⟩ fun b q hb e=>(sb.2 b (fun z=>hb (z▸bb))).trans e
 done:=fun s Q E st hQ=>gE hh st.1 st.2.at_ kj rfl (au _) fun h' eb=>hQ h' s.toks fun b q hb e=>eb b q (fun z=>hb (z▸bb)) e
 self:=fun _ _ _ _ st hQ=>wpAny_pyIter_keyiter st.1 hQ
theorem O8(hs:(d==sysModules)=false)(hx:o.ExactDict)(kj:o.data=.dict es ep):W.KdlSrc prog w "dict" d d es.size (fun i v=>∃en,es[i]? =some en/\v=en.key) (fun h=>k7 h d o es ep) where
 type:=fun _ e=>e.ty
 there:=fun _ e=>⟨bq e.at_,bq e.at_⟩
 keep:=fun _ _ e k=>e.to fun q z=>k d (.inl rfl) q z
 notList:=by decide
 notTuple:=by decide
 hint:=fun _ _ _ _ e hq=>W.kdl_hint_dict e.ty hq
 iter:=fun A s hh e=>⟨_,_,fun _ _ hq=>m5 hs e.at_ e.ex e.dat hq,LU hh _ (cv (bq e.at_)) hx kj,⟨⟨_,az _ rfl,rfl,rfl⟩,e.to fun q z=>ao _ z⟩⟩
end
noncomputable def lO(H:Hp)(qs:List V)(kvs:List (List Key×V)):Prop:=Paired (fun v (kv:List Key×V)=>∃q,v=.ref q/\H q=some (.tup (kv.1.map kV))) qs kvs
theorem DI{H:Hp}{kvs:List (List Key×V)}:∀{us:List Value},us.length=kvs.length->(∀(j:Nat)(u:Value),us[j]? =some u->∃k v q,kvs[j]? =some (k,v)/\u=.ref q/\H q=some (.tup (k.map kV)))->∃qs,Vals qs us/\lO H qs kvs:=by
 induction kvs with
 |nil=>intro us hl _;exact⟨[],by rw[fo hl];exact .nil,.nil⟩
 |cons kv r ih=>
  intro us hl hu;match us,hl with
  |u::us,hl=>
   obtain⟨k,v,q,e1,e2,e3⟩:=hu 0 u rfl;obtain⟨qs,h1,h2⟩:=ih (us:=us) (by simpa using hl) fun j x hx=>by simpa using hu (j+1) x (by simpa using hx)
   have e1:kv=(k,v):=by simpa using e1
   exact⟨.ref q::qs,.cons e2 h1,.cons ⟨q,rfl,by rw[e1];exact e3⟩ h2⟩
section
variable {X:Cx}
theorem j8:mL X (.builtin "len") (fun xs H Q=>∃a kvs,xs=[V.ref a]/\Rd H a (.dT kvs)/\Q (.int kvs.length) H):=by intro jj s σ H xs us Q I r h;obtain⟨a,kvs,rfl,ha,q⟩:=h;obtain⟨u,rfl,ru⟩:=vals1 r;cases ru;obtain⟨hs,hz,o,es,ep,e,sz,_⟩:=oQ I ha;have hn:=tG;exact Calls.call_function_entry kind_len plain_len entry_len (args_len1 _) (EW hs e (by rw[sz];omega) ⟨.int kvs.length,H,I.tok _,⟨_,by rw[sz]⟩,q⟩)
theorem CN(hc:X.calm=true):mL X (.type "list") (fun xs H Q=>∃a kvs,xs=[V.ref a]/\Rd H a (.dT kvs)/\∀l qs,H l=none->lO H qs kvs->Q (.ref l) (upd H l (.lst qs))):=by
 intro jj s σ H xs us Q I r h;obtain⟨a,kvs,rfl,ha,q⟩:=h;obtain⟨u,rfl,ru⟩:=vals1 r;cases ru;obtain⟨hs,hz,o,es,ep,e,sz,en⟩:=oQ I ha;refine W.kdl_call (O8 hs e.ex e.dat) (I.ok.hd hc) e (by rw[sz];exact hz) fun h' tk acc c kp hl it=>?_
 obtain⟨qs,v1,v2⟩:=DI (H:=H) (kvs:=kvs) (us:=acc.toList) (by rw[di,it.1,sz]) fun j x hx=>by obtain⟨n,hn,e2⟩:=it.2 j x (by rw[<- gm];exact hx);obtain⟨k,v,p,e3,e4,e5,_⟩:=en j n hn;exact⟨k,v,p,e3,e2.trans e4,e5⟩
 have jt:qs.length<=sizeLine:=by rw[pairs_len v2];exact hz
 exact⟨.ref s.heap.objs.size,_,I.laid (a:=s.heap.objs.size) (o:=.lst qs) kp (au _) ⟨jt,acc.toList,c,v1,by rw[Array.toArray_toList];exact hl⟩,rfl,q _ qs (I.hok.fresh (au _)) v2⟩
end
end L3
namespace L3
open PySem PySem.Spec PyProof.Rows L2
theorem uB(C:List (Nat×Nat))(q:PI):(RM.aN (CS C) q).isSome=decide (q∈RM.iW C):=by rw[dh,NO,decide_eq_true_iff];rfl
theorem lR{i:Nat}{x:V}(h:([.int 0,.int 1,.int 2,.int 3]:List V)[i]? =some x):i<4/\x=.int (i:Nat):=by
 have hi:i<4:=(aq.mp h).1;refine⟨hi,?_⟩;have cs:i=0\/i=1\/i=2\/i=3:=by omega
 rcases cs with rfl|rfl|rfl|rfl<;>(cases h;rfl)
theorem not_true{b:Bool}(h:¬b=true):b=false:=by simpa using h
def uI(H:Hp)(p:Addr):Nat:=match H p with|some (.lst xs)=>xs.length|_=>0
def mC(H:Hp)(p:Addr):Nat:=match H p with|some (.dT kvs)=>kvs.length|_=>0
theorem lZ{H:Hp}{p:Addr}{xs:List V}(h:H p=some (.lst xs)):uI H p=xs.length:=by unfold uI;rw[h]
theorem DG{H:Hp}{p:Addr}{kvs:List (List Key×V)}(h:H p=some (.dT kvs)):mC H p=kvs.length:=by unfold mC;rw[h]
theorem zF{H:Hp}{p:Addr}{kvs:List (PI×V)}(h:D2 H p kvs):mC H p=kvs.length:=by rw[DG h,f6]
theorem HY{H:Hp}{p:Addr}{kvs:List (PI3×V)}(h:D3 H p kvs):mC H p=kvs.length:=by rw[DG h,f6]
theorem FQ(xs:List V):FR xs none (some 1)=xs.take 1:=by
 unfold FR;cases xs with
 |nil=>rfl
 |cons x r=>
  have e:HT.sIx (x::r).length (x::r).length (some 1)=1:=by simp[HT.sIx]
  have e0:HT.sIx (x::r).length 0 none=0:=by simp[HT.sIx]
  rw[e,e0];rfl
theorem tH{H:Hp}{qs:List V}{kvs:List (PI×V)}(h:lO H qs (kvF k2 kvs)):Paired (T2 H) qs (kvs.map (·.1)):=by
 unfold lO kvF at h;induction kvs generalizing qs with
 |nil=>cases h;exact .nil
 |cons x r ih=>
  rw[bh]at h;cases h with
  |cons h t=>exact .cons h (ih t)
theorem pT{kvs:List (PI×V)}{i:Nat}{k:List Key}{v:V}(h:(kvF k2 kvs)[i]? =some (k,v)):∃p,kvs[i]? =some (p,v)/\k=k2 p:=by
 unfold kvF at h;rw[bf]at h;cases e:kvs[i]? with
 |none=>rw[e]at h;cases h
 |some x=>rw[e]at h;cases h;exact⟨x.1,rfl,rfl⟩
theorem HZ{kvs:List (PI3×V)}{i:Nat}{k:List Key}{v:V}(h:(kvF k3 kvs)[i]? =some (k,v)):∃p,kvs[i]? =some (p,v)/\k=k3 p:=by
 unfold kvF at h;rw[bf]at h;cases e:kvs[i]? with
 |none=>rw[e]at h;cases h
 |some x=>rw[e]at h;cases h;exact⟨x.1,rfl,rfl⟩
def IV{κ:Type}(l:List (κ×Int)):List (κ×V):=l.map fun x=>(x.1,V.int x.2)
theorem y6{κ:Type}(l:List (κ×Int)):(IV l).map (·.1)=l.map (·.1):=by simp[IV]
theorem fZ{κ:Type}(l:List (κ×Int)):(IV l).length=l.length:=by simp[IV]
theorem iS{κ:Type}[DecidableEq κ](k:κ):∀l:List (κ×Int),RM.aN (IV l) k=(RM.aN l k).map V.int
 |[]=>rfl
 |x::r=>by
  show RM.aN ((x.1,V.int x.2)::IV r) k=_
  rw[RM.cI,RM.cI,iS k r];by_cases e:x.1=k
  ·rw[ah e,ah e];rfl
  ·rw[af e,af e]
theorem u7{κ:Type}[DecidableEq κ](k:κ)(v:Int)(l:List (κ×Int)):RM.d5 (IV l) k (.int v)=IV (RM.d5 l k v):=by
 unfold RM.d5;have e:((IV l).any fun x=>decide (x.1=k))=l.any fun x=>decide (x.1=k):=by unfold IV;rw[any_map];rfl
 rw[e];split
 ·unfold IV;rw[fh,fh];apply dt;intro x _;simp only[Function.comp];split<;>rfl
 ·simp[IV]
theorem JE{κ:Type}[DecidableEq κ](k:κ)(l:List (κ×Int)):(RM.aN (IV l) k).isSome=(RM.aN l k).isSome:=by rw[iS];cases RM.aN l k<;>rfl
theorem a9.both{H H1:Hp}{c:Addr}{x:HO}(e:a9 H H1):a9 (L2.upd H c x) (L2.upd H1 c x):=fun b o h=>by
 by_cases hb:b=c
 ·subst hb;rw[a8]at h ⊢;exact h
 ·rw[aB hb]at h ⊢;exact e b o h
theorem fH{H:Hp}{c h:Addr}{o:HO}{u:HO}(hc:H c=some u)(hh:H h=none):(L2.upd H c o) h=none:=by rw[aB (aJ hc hh).symm];exact hh
def But(a:Addr)(H H':Hp):Prop:=∀b u,b≠a->H b=some u->H' b=some u
theorem But.refl(a:Addr)(H:Hp):But a H H:=fun _ _ _ h=>h
theorem But.trans{a:Addr}{H H1 H2:Hp}(x:But a H H1)(y:But a H1 H2):But a H H2:=fun b u n h=>y b u n (x b u n h)
theorem a9.but{a:Addr}{H H':Hp}(e:a9 H H'):But a H H':=fun b u _ h=>e b u h
theorem But.here{a:Addr}{H H1:Hp}{o:HO}(x:But a H H1):But a H (L2.upd H1 a o):=fun b u n h=>by rw[aB n];exact x b u n h
theorem But.put{a x:Addr}{H H1:Hp}{o:HO}(e:But a H H1)(h:H x=none):But a H (L2.upd H1 x o):=fun b u n q=>by rw[aB (aJ q h)];exact e b u n q
theorem T2.but{a:Addr}{H H':Hp}{v:V}{p:PI}{u:HO}(h:T2 H v p)(e:But a H H')(ha:H a=some u)(hu:∀xs,u≠ .tup xs):T2 H' v p:=by obtain⟨b,rfl,q⟩:=h;exact⟨b,rfl,e b _ (fE q ha (fun z=>hu _ z.symm)) q⟩
theorem But.same{a:Addr}{H0 H H':Hp}(e:But a H H')(s:a9 H0 H)(ha:H0 a=none):a9 H0 H':=fun b u q=>e b u (aJ q ha) (s b u q)
theorem lX{p:Prop}{i:Decidable p}(h:(!@decide p i)=true):¬p:=fun z=>by rw[decide_eq_true z]at h;cases h
theorem j3{p:Prop}{i:Decidable p}(h:¬(!@decide p i)=true):p:=by
 by_cases z:p
 ·exact z
 ·rw[decide_eq_false z]at h;exact absurd rfl h
def KS{κ:Type}(l:List κ):List (κ×V):=l.map fun p=>(p,V.bl true)
theorem xZ{κ:Type}(l:List κ):(KS l).map (·.1)=l:=by simp[KS,Function.comp_def]
theorem CU{κ:Type}(l:List κ):(KS l).length=l.length:=by simp[KS]
theorem JC{κ:Type}[DecidableEq κ](l:List κ)(k:κ):(RM.aN (KS l) k).isSome=decide (k∈l):=by rw[dh,RM.aV,xZ,decide_eq_true_iff]
theorem LJ{κ:Type}[DecidableEq κ]{l:List κ}{k:κ}(h:k∉l):RM.d5 (KS l) k (.bl true)=KS (l++[k]):=by rw[RM.fR _ (by rw[xZ];exact h)];simp[KS]
def ixs(l:List Int):List (Int ⊕ List Nat):=l.map Sum.inl
def leI(a b:List Int):Prop:=lexLt itemOrd (ixs b) (ixs a)=false
abbrev dY:Nat->Bool:=fun _=>false
theorem mE:∀{ks:List Int}{us:List Value}(i:Nat),Vals (ks.map V.int) us->tupItems dY i us=some (ixs ks)
 |[],us,i,r=>by rw[iy]at r;cases r;rfl
 |k::ks,us,i,r=>by
  rw[bh]at r;cases r with
  |cons h t=>
   obtain⟨tk,rfl⟩:=h;show(if dY i=true then none else(tupItems dY (i+1) _).map (Sum.inl k::·))=_
   rw[af (show¬dY i=true from bp),mE (i+1) t];rfl
section
variable {X:Cx}{jj:List (Addr×Obj)}{σ:L2.St}{H:Hp}{s:Shared}
theorem MW(I:Inv X jj σ H s){b:Addr}{ks:List Int}(h:H b=some (.tup (ks.map V.int))):G.tupKeyC s.heap dY (.ref b)=some (ixs ks):=by
 obtain⟨its,rv,⟨o,ho,hc,n,hd⟩,_⟩:=I.tuple (SqT.of (K:=X.K) h);have e1:G.isTupObj s.heap (.ref b)=true:=by
  show(match s.heap.get? b with|some o=>(match o.cls with| .type n=>n== "tuple" |_=>false)|none=>false)=true
  rw[ho];show(match o.cls with| .type n=>n== "tuple" |_=>false)=true
  rw[hc];rfl
 have e2:tupKey s.heap dY (.ref b)=some (ixs ks):=by
  show(match s.heap.get? b with|some o=>(match o.data with| .seq xs _=>tupItems dY 0 xs.toList|_=>none)|none=>none)=_
  rw[ho];show(match o.data with| .seq xs _=>tupItems dY 0 xs.toList|_=>none)=_
  rw[hd];exact mE 0 rv
 unfold G.tupKeyC;rw[ah e1,e2]
theorem LV(I:Inv X jj σ H s){b:Addr}{ks:List Int}(h:H b=some (.tup (ks.map V.int)))(jn:ks≠[]):∃f,TupOf s.heap dY (.ref b) f:=by
 obtain⟨its,rv,⟨o,ho,hc,n,hd⟩,_⟩:=I.tuple (SqT.of (K:=X.K) h);cases ks with
 |nil=>exact absurd rfl jn
 |cons k ks=>
  rw[bh]at rv;cases rv with
  |cons r t=>obtain⟨tk,rfl⟩:=r;exact⟨.int k tk,b,o,_,n,rfl,ho,hc,hd,rfl,fun _=>⟨k,tk,rfl⟩,fun z=>nomatch z⟩
theorem CW(I:Inv X jj σ H s){kf:Addr->List Int}:∀{bs as:List Addr},Paired (fun b a=>H b=some (.tup ((kf a).map V.int))) bs as->(∀a∈as,kf a≠[])->∃fs,TupsOf s.heap dY (bs.map Value.ref) fs/\fs.length=bs.length
 |_,_,.nil,_=>⟨[],.nil,rfl⟩
 |_,_,.cons h t,jn=>by
  obtain⟨fs,h1,h2⟩:=CW I t fun a ha=>jn a (ar _ ha)
  obtain⟨f,hf⟩:=LV I h (jn _ bb);exact⟨f::fs,.cons hf h1,by rw[bo,bo,h2]⟩
end
def rr(p:Addr×Addr):Keyed:=(.ref p.1,.ref p.2)
def adr:Value->Addr
 | .ref a=>a
 |_=>0
def un(p:Keyed):Addr×Addr:=(adr p.1,adr p.2)
theorem rQ:∀(bs as:List Addr),(bs.map Value.ref).zip (as.map Value.ref)=(bs.zip as).map rr
 |[],as=>rfl
 |b::bs,[]=>rfl
 |b::bs,a::as=>by
  show(Value.ref b,Value.ref a)::(bs.map Value.ref).zip (as.map Value.ref)=rr (b,a)::(bs.zip as).map rr
  rw[rQ bs as];rfl
theorem vK{α β:Type}{R:α->β->Prop}:∀{l:List α}{m:List β},Paired R l m->∀p∈l.zip m,R p.1 p.2
 |_,_,.nil,p,h=>by cases h
 |_,_,.cons r t,p,h=>by
  rcases ak.mp h with rfl|h
  ·exact r
  ·exact vK t p h
theorem CV{α β:Type}:∀{l:List α}{m:List β},l.length=m.length->(l.zip m).map (·.2)=m
 |[],[],_=>rfl
 |a::l,b::m,h=>by
  show b::(l.zip m).map (·.2)=b::m
  rw[CV (by simpa using h)]
theorem GN{h:Heap}{kf:Addr->List Int}{bs as:List Addr}{xs:Array Keyed}(hl:bs.length=as.length)(hk:∀p∈bs.zip as,G.tupKeyC h dY (.ref p.1)=some (ixs (kf p.2)))
  (hp:xs.Perm ((bs.map Value.ref).toArray.zip (as.map Value.ref).toArray)) (hs:SortedToK (G.tupKindC h dY) xs xs.size):
  ∃out:List Addr,(xs.map (·.2)).toList=out.map Value.ref/\out.Perm as/\out.Pairwise fun a b=>leI (kf a) (kf b):=by
 have hp2:xs.toList.Perm ((bs.zip as).map rr):=by have:=Array.perm_iff_toList_perm.mp hp;rw[ksk_zip,List.toList_toArray,rQ]at this;exact this
 have e0:xs.toList=(xs.toList.map un).map rr:=by
  rw[fh]
  conv=>lhs;rw[<- map_id xs.toList]
  apply dt;intro p hpm;obtain⟨q,_,rfl⟩:=ax.mp (hp2.mem_iff.mp hpm);rfl
 have hp3:(xs.toList.map un).Perm (bs.zip as):=by
  have:=hp2.map un;rw[fh]at this;have e:(bs.zip as).map (un∘rr)=bs.zip as:=by
   conv=>rhs;rw[<- map_id (bs.zip as)]
   rfl
  rw[e]at this;exact this
 refine⟨(xs.toList.map un).map (·.2),?_,?_,?_⟩
 ·rw[Array.toList_map]
  conv=>lhs;rw[e0]
  rw[fh,fh,fh,fh];rfl
 ·have:=hp3.map (·.2);rw[CV hl]at this;exact this
 ·rw[ib,List.pairwise_iff_getElem];intro i j hi hj hij;have qz:i<xs.size:=by simpa using hi
  have zh:j<xs.size:=by simpa using hj
  have q:=hs i j (le_of_lt hij) zh;have kk:∀(n:Nat)(hn:n<xs.size)(Ab:n<(xs.toList.map un).length),KK (G.tupKindC h dY) xs n=ixs (kf ((xs.toList.map un)[n].2)):=by
   intro n hn Ab;have hm:(xs.toList.map un)[n]∈bs.zip as:=hp3.mem_iff.mp (List.getElem_mem Ab);have qy:=hk _ hm;have ex:xs[n]=rr ((xs.toList.map un)[n]):=by
    have h1:xs.toList[n]'(by simpa using hn)=rr ((xs.toList.map un)[n]):=by
     have:xs.toList[n]? =((xs.toList.map un).map rr)[n]? :=by rw[<- e0]
     rw[bx (by simpa using hn),bf,bx Ab]at this;exact Option.some.inj this
    rw[<- h1];simp
   show(match xs[n]? with|some p=>((G.tupKindC h dY).keyOf p.1).getD (G.tupKindC h dY).dflt|none=>(G.tupKindC h dY).dflt)=_
   rw[fx hn,ex];show(G.tupKeyC h dY (.ref _)).getD []=_
   rw[qy];rfl
  rw[kk i qz hi,kk j zh hj]at q;exact q
section
variable {X:Cx}{jj:List (Addr×Obj)}{σ:L2.St}{H:Hp}{s:Shared}{k:Nat}{f:Addr}{fd:FuncData}{par:Str}{sp:Sp}
theorem MA{Q:VK}{us:List Value}{vs:List V}(F:bI X.prog X.w X.K X.mg X.base CX0 k f fd [par] sp)(hr:cT k X.A.in1.in1)(hb:Binds X.K fd [par] [])(I:Inv X jj σ H s)(r:Vals vs us)(h:sp vs H Q E0):
  wpAny (model X.prog X.w) X.A.in1.in1 (call (.ref f) us) (EP X jj σ Q) (fun _ _=>False) s:=by
 have hl:(us++[]).length=[par].length:=by rw[da,<- r.length];exact F.len _ _ _ _ h
 refine wpAny_call (codeAny_mono (F.run X.A.in1.in1 X.stack s H ⟨us,[]⟩ (us++[]) vs Q E0 hr I.IT.in1.in1 (hb s us I.kIn hl) (by rw[da];exact r) h) fun o s' hq=>?_);cases o with
 |error e=>exact hq.elim
 |ok fl=>
  cases fl with
  |ret u=>exact I.after hq
  |next=>exact hq.elim
  |brk=>exact hq.elim
  |cont=>exact hq.elim
theorem GB{L kS:Addr}{od:Obj}{e1:Nat}{ks:List V}{out:List Addr}{st:SortSt}{P:PySem.Fin->Shared->Prop}(I:Inv X jj σ H s)(hL:H L=some (.frz od (.lst [])))(hn:∀o' u',X.H_0 L≠some (.frz o' u'))(ho:od=seqObj "list" #[] e1)
  (hK:H kS=some (.lst ks)) (jn:kS≠L) (eo:((arrOf st).map (·.2)).toList=out.map Value.ref) (hz:out.length<=sizeLine) (hf:failedOf st=none)
  (h:∀s',Inv X jj σ (upd (upd (upd H kS (.lst [])) L (.lst [])) L (.lst (out.map V.ref))) s'->P (.done (.ret .none)) s'):wpAny (model X.prog X.w) X.A.in1.in1 (ksk_tail L false e1 (.ref kS) st) P X.xe s:=by
 obtain⟨zk,itk,nk,rk,lk,ek⟩:=I.BR hK;have I1:=I.BS (t':=s.toks) (its':=[]) (f:=fun _=>#[]) hK ek rfl .nil (bz _);have hL1:(upd H kS (.lst [])) L=some (.frz od (.lst [])):=by rw[aB jn.symm];exact hL
 have eL:(s.heap.update kS (Obj.mapSeq fun _=>#[])).get? L=some (seqObj "list" #[] e1):=by rw[<- ho];exact(I1.hok L _ hL1).1
 have I2:=I1.unlock hL1 hn;have eo2:(arrOf st).map (·.2)=(out.map Value.ref).toArray:=by rw[<- eo,Array.toArray_toList]
 have rv:∀l:List Addr,Vals (l.map V.ref) (l.map Value.ref):=fun l=>by
  induction l with
  |nil=>exact .nil
  |cons a l ih=>exact .cons rfl ih
 have I3:=I2.BS (t':=s.toks) (its:=[]) (its':=out.map Value.ref) (f:=fun _=>if false=true then((arrOf st).map (·.2)).reverse else(arrOf st).map (·.2)) a8 eL (by rw[af bp];exact eo2) (rv out) (by rw[ai];exact hz);unfold ksk_tail;dsimp only;refine aa (listUpdate_at ek rfl ?_ (by rw[bj,<- lk];exact zk) (bz _));refine aa (wpAny_letGo (aa (seqEpoch_at eL rfl ?_)));refine aa (listUpdate_at eL rfl ?_ (bz _) (by rw[af bp,eo2,bj,ai];omega));rw[hf];simp only[bne_self_eq_false,dm,if_false];exact ag (h _ I3)
end
section
variable {X:Cx}{jj:List (Addr×Obj)}{σ:L2.St}{H:Hp}{s:Shared}{k:Nat}{f:Addr}{fd:FuncData}{par:Str}{sp:Sp}{kf:Addr->List Int}
theorem uV:∀l:List Addr,Vals (l.map V.ref) (l.map Value.ref)
 |[]=>.nil
 |_::l=>.cons rfl (uV l)
theorem L1{L kS:Addr}{od:Obj}{e1:Nat}{bs as:List Addr}{P:PySem.Fin->Shared->Prop}(I:Inv X jj σ H s)(hL:H L=some (.frz od (.lst [])))(hn:∀o' u',X.H_0 L≠some (.frz o' u'))(ho:od=seqObj "list" #[] e1)
  (hK:H kS=some (.lst (bs.map V.ref))) (jn:kS≠L) (hp:Paired (fun b a=>H b=some (.tup ((kf a).map V.int))) bs as) (hk:∀a∈as,kf a≠[]) (hz:as.length<=sizeLine)
  (h:∀(out:List Addr)(s':Shared),out.Perm as->(out.Pairwise fun a b=>leI (kf a) (kf b))->Inv X jj σ (upd (upd (upd H kS (.lst [])) L (.lst [])) L (.lst (out.map V.ref))) s'->P (.done (.ret .none)) s'):
  wpAny (model X.prog X.w) X.A.in1.in1 (ksk_end L false (as.map Value.ref).toArray e1 (.ref kS) (bs.map Value.ref).toArray) P X.xe s:=by
 have hl:=pairs_len hp;have me:∀p∈bs.zip as,G.tupKeyC s.heap dY (.ref p.1)=some (ixs (kf p.2)):=fun p hm=>MW I (vK hp p hm)
 have zs:((bs.map Value.ref).toArray.zip (as.map Value.ref).toArray).size=as.length:=by rw[Array.size_zip,bj,bj,ai,ai,hl,Nat.min_self]
 have fin:∀st:SortSt,(arrOf st).Perm ((bs.map Value.ref).toArray.zip (as.map Value.ref).toArray)->SortedToK (G.tupKindC s.heap dY) (arrOf st) (arrOf st).size->failedOf st=none->wpAny (model X.prog X.w) X.A.in1.in1 (ksk_tail L false e1 (.ref kS) st) P X.xe s:=by intro st h1 h2 h3;obtain⟨out,e,pm,pw⟩:=GN hl me h1 h2;exact GB I hL hn ho hK jn e (by rw[pm.length_eq];exact hz) h3 fun s' I'=>h out s' pm pw I'
 unfold ksk_end;dsimp only;simp only[dm,if_false];by_cases h2:(as.map Value.ref).toArray.size<2
 ·rw[ah h2,ah h2];refine aa (ag ?_);rw[StateT.run_pure];refine aa (ag (fin (SortSt.mk' general' ((bs.map Value.ref).toArray.zip (as.map Value.ref).toArray) #[] 7 none) (Array.Perm.refl _) ?_ rfl));intro i j hij hj;have hj2:j<((bs.map Value.ref).toArray.zip (as.map Value.ref).toArray).size:=hj;rw[zs]at hj2;rw[bj,ai]at h2;have e:i=j:=by omega
  rw[e];exact KeyOrd.kle_refl _
 ·rw[af h2,af h2];rw[bj,ai]at h2;obtain⟨fs,ht,Cm⟩:=CW I hp hk;refine aa (tup_kind (by omega) ht ?_);refine aa (wpAny_mono (G.wpS_sortRunsSt (κ:=G.tupKindC s.heap dY) (kd:=tuples' true) (a₀:=(bs.map Value.ref).toArray.zip (as.map Value.ref).toArray) (st:=SortSt.mk' (tuples' true) ((bs.map Value.ref).toArray.zip (as.map Value.ref).toArray) #[] 7 none)
   (Q:=fun _ st=>(arrOf st).Perm ((bs.map Value.ref).toArray.zip (as.map Value.ref).toArray)/\SortedToK (G.tupKindC s.heap dY) (arrOf st) (arrOf st).size/\failedOf st=none)
   (G.tupC_ltAt true (G.KeepsTups.refl _)) (fun p hm=>?_) ⟨Array.Perm.refl _,rfl,rfl⟩ rfl (Stable.refl _) (by rw[zs];omega) fun st a1 a2 a3 _=>⟨a1,by rw[a1.size_eq];exact a3,a2⟩) ?_ fun _ _ e=>e)
  ·rw[ksk_zip,List.toList_toArray,rQ]at hm;obtain⟨q,hq,rfl⟩:=ax.mp hm;exact⟨_,me q hq⟩
  ·rintro⟨⟨⟩,st⟩ s' ⟨rfl,h1,h3,h4⟩;exact fin st h1 h3 h4
theorem GO{L kS:Addr}{od:Obj}{e1:Nat}{as:List Addr}{P:PySem.Fin->Shared->Prop}{H0:Hp}(F:bI X.prog X.w X.K X.mg X.base CX0 k f fd [par] sp)(hr:cT k X.A.in1.in1)(hb:Binds X.K fd [par] [])(I:Inv X jj σ H s)
  (hL:H0 L=some (.frz od (.lst []))) (hn:∀o' u',X.H_0 L≠some (.frz o' u')) (ho:od=seqObj "list" #[] e1) (hs0:a9 H0 H) (hK0:H0 kS=none) (hK:H kS=some (.lst [])) (hk:∀a∈as,kf a≠[]) (hz:as.length<=sizeLine)
  (ki:∀a∈as,∀H2,a9 H0 H2->sp [.ref a] H2 (fun r H3=>a9 H2 H3/\∃b,r=.ref b/\H3 b=some (.tup ((kf a).map V.int))) E0)
  (h:∀(out:List Addr)(H':Hp)(s':Shared),out.Perm as->(out.Pairwise fun a b=>leI (kf a) (kf b))->(∀b u,b≠L->H0 b=some u->H' b=some u)->H' L=some (.lst (out.map V.ref))->Inv X jj σ H' s'->P (.done (.ret .none)) s'):
  wpAny (model X.prog X.w) X.A.in1.in1 (ksk_rest L (.ref f) false (as.map Value.ref).toArray e1 (.ref kS)) P X.xe s:=by
 have jn:kS≠L:=(aJ hL hK0).symm;unfold ksk_rest;refine aa (wpAny_rule ?_);rw[List.forIn_toArray];refine aa (ksk_fold (fun i s'=>∃(H':Hp)(bs:List Addr),Inv X jj σ H' s'/\a9 H0 H'/\H' kS=some (.lst (bs.map V.ref))/\Paired (fun b a=>H' b=some (.tup ((kf a).map V.int))) bs (as.take i)) (as.map Value.ref) 0 s ⟨H,[],I,hs0,hK,.nil⟩ ?_ ?_)
 ·rintro j x s' hx ⟨H',bs,I',s2,h2,pr⟩;rw[Nat.zero_add]at pr ⊢;rw[bf]at hx;obtain⟨a,ha,rfl⟩:∃a,as[j]? =some a/\x=.ref a:=by
   cases e:as[j]? with
   |none=>rw[e]at hx;cases hx
   |some a=>rw[e]at hx;exact⟨a,rfl,(Option.some.inj hx).symm⟩
  have hj:j<as.length:=(aq.mp ha).1;refine aa (wpAny_attempt (wpAny_mono (MA F hr hb I' (vs:=[.ref a]) (.cons rfl .nil) (ki a (ay ha) H' s2)) (fun v s3 q=>?_) fun _ _ z=>z.elim));obtain⟨v',H3,I3,rel,s3',b,rfl,hb3⟩:=q;cases rel;have h3:=s3' _ _ h2;obtain⟨zk,itk,nk,rk,lk,ek⟩:=I3.BR h3;have lb:=pairs_len pr;rw[bu]at lb;rw[ai]at lk;have eik:=jE rk;dsimp only;refine aa (listUpdate_at ek rfl ?_ (by rw[bj];omega) (by rw[Array.size_push,bj];omega));have I4:=I3.BS (t':=s3.toks) (its:=itk) (its':=itk++[.ref b]) (f:=(·.push (.ref b))) (ys:=(bs++[b]).map V.ref) h3 ek (by simp) (by rw[cf];exact rk.append (.cons rfl .nil)) (by rw[ai,aj];simp;omega);refine ag ⟨rfl,_,bs++[b],I4,a9.put (a9.trans s2 s3') hK0,a8,?_⟩;have xc:∀(b':Addr)(xs:List V),H3 b'=some (.tup xs)->(upd H3 kS (.lst ((bs++[b]).map V.ref))) b'=some (.tup xs):=fun b' xs e=>by rw[aB (fE e h3 (by intro z;cases z))];exact e
  rw[RM.take_snoc ha];exact b8 (R:=fun b' a'=>(upd H3 kS (.lst ((bs++[b]).map V.ref))) b'=some (.tup ((kf a').map V.int))) (xc _ _ hb3) (aK (fun b' a' e=>xc _ _ (s3' _ _ e)) pr)
 ·rintro s' ⟨H',bs,I',s2,h2,pr⟩;rw[Nat.zero_add,ai,bg (au _)]at pr;obtain⟨zk,itk,nk,rk,lk,ek⟩:=I'.BR h2;have eik:=jE rk;subst eik;refine aa (listItems_at ek rfl ?_);refine L1 I' (s2 _ _ hL) hn ho h2 jn pr hk hz fun out s3 pm pw I3=>h out _ s3 pm pw (fun b u nb e=>?_) a8 I3
  rw[aB nb,aB nb,aB (aJ e hK0)];exact s2 _ _ e
theorem GJ{L:Addr}{as:List Addr}{P:PySem.Fin->Shared->Prop}(F:bI X.prog X.w X.K X.mg X.base CX0 k f fd [par] sp)(hr:cT k X.A.in1.in1)(hb:Binds X.K fd [par] [])(I:Inv X jj σ H s)
  (hL:H L=some (.lst (as.map V.ref))) (hk:∀a∈as,kf a≠[])
  (ki:∀a∈as,∀H2,But L H H2->sp [.ref a] H2 (fun r H3=>a9 H2 H3/\∃b,r=.ref b/\H3 b=some (.tup ((kf a).map V.int))) E0)
  (h:∀(out:List Addr)(H':Hp)(s':Shared),out.Perm as->(out.Pairwise fun a b=>leI (kf a) (kf b))->But L H H'->H' L=some (.lst (out.map V.ref))->Inv X jj σ H' s'->P (.done (.ret .none)) s'):
  wpAny (model X.prog X.w) X.A.in1.in1 (ksk_tree L (.ref f) false) P X.xe s:=by
 obtain⟨z,its,n,r,hl,e⟩:=I.BR hL;have ei:=jE r;subst ei;rw[ai]at z;have I1:=I.BS (t':=s.toks) (its':=[]) (f:=fun _=>#[]) hL e rfl .nil (bz _);obtain⟨e1,he1⟩:∃e1,(s.heap.update L (Obj.mapSeq fun _=>#[])).get? L=some (seqObj "list" #[] e1):=⟨_,get?_update_seq e fun _=>#[]⟩
 have hn:=I1.vP a8 trivial;obtain⟨od,I2⟩:=I1.lock a8 trivial;have eod:od=seqObj "list" #[] e1:=by have q:=(I2.hok L _ a8).1;rw[he1]at q;exact(Option.some.inj q).symm
 have b2:But L H (upd (upd H L (.lst [])) L (.frz od (.lst []))):=((But.refl L H).here).here;have hL2:(upd (upd H L (.lst [])) L (.frz od (.lst []))) L=some (.frz od (.lst [])):=a8;generalize (upd (upd H L (.lst [])) L (.frz od (.lst [])))=H2 at I2 b2 hL2;unfold ksk_tree;refine aa (listItems_at e rfl ?_);refine aa (listUpdate_at e rfl ?_ (by rw[bj,ai];exact z) (bz _));refine aa (seqEpoch_at he1 rfl ?_);refine aa (wpAny_newTuple ?_ (by rw[List.toList_toArray,ai];exact z));have I3:Inv X jj σ H2 {s with heap:=(s.heap.update L (Obj.mapSeq fun _=>#[])).push {cls:=.type "tuple",data:=.seq (as.map Value.ref).toArray.toList.toArray}}:=I2.kept (t':=s.toks) fun b u q=>ao _ q
 refine aa (wpAny_newList ?_ (bz _));refine wpAny_holding ?_;have fr:=I3.fresh;have I4:=I3.SI (t':=s.toks) (ys:=[]) (its:=[]) .nil (bz _);refine GO F hr hb I4 hL2 hn eod (a9.upd fr) fr a8 hk z (fun a ha H3 s3=>ki a ha H3 (b2.trans (a9.but s3))) fun out H' s' pm pw bt hL' I'=>h out H' s' pm pw (b2.trans bt) hL' I'
end
section
variable {prog:Program}{w:World}{A:Around}{E:Value->Shared->Prop}{s:Shared}{d:Addr}{o:Obj}{es:Array DictEntry}{ep:Nat}
theorem J0{Q:List Value->Shared->Prop}(hs:(d==sysModules)=false)(hh:A.handled=none)(e:k7 s.heap d o es ep)(hz:es.size<=sizeLine)
  (h:∀(vs:List Value) h' tk,vs.length=es.size->(∀(j:Nat)(v:Value),vs[j]? =some v->∃en,es[j]? =some en/\v=en.key)->(∀b q,s.heap.get? b=some q->h'.get? b=some q)->Q vs {s with heap:=h',toks:=tk}):wpAny (model prog w) A (collect (.ref d)) Q E s:=by
 have hd:d<s.heap.objs.size:=bq e.at_
 delta collect
 refine aa (wpAny_runValue (codeAny_builtin entry_proto_collect' ?_));show wpAny _ _ (newList []>>=fun l=>again (.builtin "list.__iadd__" ⟨[l,.ref d],[]⟩)) _ _ s
 refine aa (wpAny_newList (ag ⟨Code.quiet_builtin _ (by decide+kernel),codeAny_builtin entry_list_iadd' ?_⟩) (bz _));have e2:k7 (s.heap.push {cls:=.type "list",data:=.seq #[]}) d o es ep:=e.to fun q z=>ao _ z
 have hS:(s.heap.push {cls:=.type "list",data:=.seq #[]}).get? s.heap.objs.size=some {cls:=.type "list",data:=.seq #[] 0}:=az _ rfl;rw[Around.under_plainId (show plainId "list.__iadd__" =true by decide+kernel) _];show wpAny _ _ (Builtin.List.listExtendWith (.ref s.heap.objs.size) (.ref d) (.ref s.heap.objs.size)) _ _ {s with heap:=s.heap.push {cls:=.type "list",data:=.seq #[]}}
 refine W.kdl_extend (R:=fun r s'=>match r with| .ok (.ret v)=>wpAny (model prog w) A (match v with| .ref a=>(do let o<- load a;match o.data with| .seq xs _=>pure xs.toList|_=>unsupported "internal:collect")|_=>unsupported "internal:collect") Q E s'| .ok _=>False| .error e=>E e s') (s:={s with heap:=s.heap.push {cls:=.type "list",data:=.seq #[]}}) (O8 hs e.ex e.dat) hh e2 s.heap.objs.size (jd hd) (jd hd) (.ref s.heap.objs.size) 0 hS (fun h' tk acc c kp hl it=>?_) hz;show wpAny (model prog w) A (load s.heap.objs.size>>= _) Q E _
 refine aa (wpAny_load hl ?_);refine ag (h acc.toList h' tk (by rw[di];exact it.1) (fun j v z=>it.2 j v (by rw[<- gm];exact z)) fun b q z=>?_);exact kp b q (cv (bq z)) (ao _ z)
end
section
variable {X:Cx}{jj:List (Addr×Obj)}{σ:L2.St}{H:Hp}{s:Shared}{k:Nat}{f:Addr}{fd:FuncData}{par:Str}{sp:Sp}{kf:Addr->List Int}
theorem sF{l:Addr}{as:List Addr}{Q:VK}(F:bI X.prog X.w X.K X.mg X.base CX0 k f fd [par] sp)(hr:cT k X.A.in1.in1)(hb:Binds X.K fd [par] [])(I:Inv X jj σ H s)(hz:as.length<=sizeLine)
  (col:∀Q':List Value->Shared->Prop,(∀h' tk,(∀b q,s.heap.get? b=some q->h'.get? b=some q)->Q' (as.map Value.ref) {s with heap:=h',toks:=tk})->wpAny (model X.prog X.w) X.A.in1 (collect (.ref l)) Q' X.xe s)
  (hk:∀a∈as,kf a≠[]) (ki:∀a∈as,∀H2,a9 H H2->sp [.ref a] H2 (fun r H3=>a9 H2 H3/\∃b,r=.ref b/\H3 b=some (.tup ((kf a).map V.int))) E0)
  (h:∀(L:Addr)(out:List Addr)(H':Hp),H L=none->out.Perm as->(out.Pairwise fun a b=>leI (kf a) (kf b))->a9 H H'->H' L=some (.lst (out.map V.ref))->Q (.ref L) H'):
  wpAny (model X.prog X.w) X.A (call (.builtin "sorted") [.ref l] [(Str.ofString "key",.ref f)]) (EP X jj σ Q) X.xe s:=by
 refine call_function_entry_kw kind_sorted plain_sorted entry_sorted (ksk_s1 _ _) ?_
 delta Builtin.«sorted»
 refine aa (m:=checkCount "sorted" 1 1 _) (ag (aa (col _ fun h1 Aq k1=>?_)));refine aa (wpAny_newList ?_ (by rw[ai];exact hz));have I1:Inv X jj σ H {s with heap:=h1,toks:=Aq}:=I.kept k1;have fr:=I1.fresh;have I2:=I1.SI (t':=Aq) (uV as) (by rw[ai];exact hz);have Bm:({s with heap:=h1.push {cls:=.type "list",data:=.seq (as.map Value.ref).toArray},toks:=Aq}:Shared).TypeIs (.ref h1.objs.size) "list" :=⟨_,az _ rfl,rfl⟩;refine aa (wpAny_holding (wpAny_call_entry_kw slot_list_sort Bm entry_list_sort ?_ (ksk_l1 _ _)));show wpAny (model X.prog X.w) X.A.in1.in1 (Builtin.«list.sort» ⟨[.ref h1.objs.size],[(Str.ofString "key",.ref f)]⟩) _ _ _
 rw[ksk_t1];refine GJ F hr hb I2 a8 hk (fun a ha H2 b2=>ki a ha H2 (But.same b2 (a9.upd fr) fr)) fun out H' s' pm pw bt hL I'=>?_
 exact⟨_,rfl,ag ⟨_,rfl,.ref h1.objs.size,H',I',rfl,h _ out H' fr pm pw (But.same bt (a9.upd fr) fr) hL⟩⟩
end
noncomputable def NW(K:W.Frag)(sp:Sp)(t:TA):TE:=fun σ H Q=>t σ H fun vs H1=>∃(l:Addr)(as:List Addr)(kf:Addr->List Int),vs=[.ref l]/\SqL K H1 l (as.map V.ref)/\(∀a∈as,kf a≠[])/\
 (∀a∈as,∀H2,a9 H1 H2->sp [.ref a] H2 (fun r H3=>a9 H2 H3/\∃b,r=.ref b/\H3 b=some (.tup ((kf a).map V.int))) E0)/\
 ∀(L:Addr)(out:List Addr)(H':Hp),H1 L=none->out.Perm as->(out.Pairwise fun a b=>leI (kf a) (kf b))->a9 H1 H'->H' L=some (.lst (out.map V.ref))->Q (.ref L) H'
noncomputable def LY(sp:Sp)(t:TA):TE:=fun σ H Q=>t σ H fun vs H1=>∃(d:Addr)(kvs:List (List Key×V)),vs=[.ref d]/\Rd H1 d (.dT kvs)/\∀as:List Addr,lO H1 (as.map V.ref) kvs->∃kf:Addr->List Int,(∀a∈as,kf a≠[])/\
 (∀a∈as,∀H2,a9 H1 H2->sp [.ref a] H2 (fun r H3=>a9 H2 H3/\∃b,r=.ref b/\H3 b=some (.tup ((kf a).map V.int))) E0)/\
 ∀(L:Addr)(out:List Addr)(H':Hp),H1 L=none->out.Perm as->(out.Pairwise fun a b=>leI (kf a) (kf b))->a9 H1 H'->H' L=some (.lst (out.map V.ref))->Q (.ref L) H'
theorem vT{H:Hp}:∀{qs:List V}{kvs:List (List Key×V)},lO H qs kvs->∃as:List Addr,qs=as.map V.ref
 |_,_,.nil=>⟨[],rfl⟩
 |_,_,.cons ⟨q,e,_⟩ t=>by obtain⟨as,rfl⟩:=vT t;exact⟨q::as,by rw[e];rfl⟩
section
variable {X:Cx}{k:Nat}{y par:Str}{sp:Sp}{e:Expr}{ta:TA}{p p2 p3 pos:Pos}
theorem vH{Qs:VK->List V->Hp->Prop}(hg:Gl X "sorted")(hm:X.mg "sorted" =none)(hy:Gl X y){f:Addr}(Cd:X.mg y=some (.ref f))(ha:PA X [e] ta)(Cp:(y==("__debug__" : Str))=false)
  (run:∀(jj:List (Addr×Obj))(s:Shared)(σ:L2.St)(H:Hp)(vs:List V)(us:List Value)(Q:VK),Inv X jj σ H s->Vals vs us->Qs Q vs H->wpAny (model X.prog X.w) X.A (call (.builtin "sorted") us [(Str.ofString "key",.ref f)]) (EP X jj σ Q) X.xe s)
  (h1:backTo pos (starEach [e] X.env)=(false,eval e X.env)::backTo pos (starEach [] X.env)) (h2:(backTo pos (starEach [e] X.env)).any (·.1)=false):
  PE X (.Call (.Name "sorted" p) [e] [⟨some "key",.Name y p2,p3⟩] pos) (fun σ H Q=>ta σ H (Qs Q)):=by
 intro jj s σ H Q I h;refine wpAny_Call_Name_kw (pS I hg hm (show bootBuiltins "sorted" =some (.builtin "sorted") by rfl) ?_);refine callWith_kw (thn (ha pos jj s σ H (Qs Q) I h) fun us s1 ⟨vs,H1,I1,r,q⟩=>?_) h1 h2;refine kws_cons (jJ I1 hy Cd (kws_nil ?_) Cp);exact run jj _ σ H1 vs us Q I1 r q
theorem HC(D:aP X.prog X.w X.K X.mg X.base CX0 k y [par] sp)(hr:cT (k+2) X.A)(hg:Gl X "sorted")(hm:X.mg "sorted" =none)(hy:Gl X y)(ha:PA X [e] ta)(Cp:(y==("__debug__" : Str))=false:=by decide)
  (h1:backTo pos (starEach [e] X.env)=(false,eval e X.env)::backTo pos (starEach [] X.env):=by rfl) (h2:(backTo pos (starEach [e] X.env)).any (·.1)=false:=by rfl):
  PE X (.Call (.Name "sorted" p) [e] [⟨some "key",.Name y p2,p3⟩] pos) (NW X.K sp ta):=by
 obtain⟨f,fd,F,Cd,hkf,hb⟩:=D.ex;refine vH (Qs:=fun Q vs H1=>∃(l:Addr)(as:List Addr)(kf:Addr->List Int),vs=[.ref l]/\SqL X.K H1 l (as.map V.ref)/\(∀a∈as,kf a≠[])/\(∀a∈as,∀H2,a9 H1 H2->sp [.ref a] H2 (fun r H3=>a9 H2 H3/\∃b,r=.ref b/\H3 b=some (.tup ((kf a).map V.int))) E0)/\
  ∀(L:Addr)(out:List Addr)(H':Hp),H1 L=none->out.Perm as->(out.Pairwise fun a b=>leI (kf a) (kf b))->a9 H1 H'->H' L=some (.lst (out.map V.ref))->Q (.ref L) H') hg hm hy Cd ha Cp (fun jj s σ H vs us Q I r q=>?_) h1 h2
 obtain⟨l,as,kf,rfl,hs,hk,ki,fin⟩:=q;obtain⟨u,rfl,ru⟩:=vals1 r;cases ru;obtain⟨its,rv,pl,hz⟩:=I.list hs;have ei:=jE rv;subst ei;rw[ai]at hz;refine sF F (hr.in1.in1) hb I hz (fun Q' q=>collect_list pl.isList (q _ s.toks fun b o z=>?_) (by rw[ai];exact hz)) hk ki fin;rw[Heap.get?_update_ne _ _ _ _ (cv (bq z))];exact ao _ z
theorem yP(hc:X.calm=true)(D:aP X.prog X.w X.K X.mg X.base CX0 k y [par] sp)(hr:cT (k+2) X.A)(hg:Gl X "sorted")(hm:X.mg "sorted" =none)(hy:Gl X y)(ha:PA X [e] ta)(Cp:(y==("__debug__" : Str))=false:=by decide)
  (h1:backTo pos (starEach [e] X.env)=(false,eval e X.env)::backTo pos (starEach [] X.env):=by rfl) (h2:(backTo pos (starEach [e] X.env)).any (·.1)=false:=by rfl):
  PE X (.Call (.Name "sorted" p) [e] [⟨some "key",.Name y p2,p3⟩] pos) (LY sp ta):=by
 obtain⟨f,fd,F,Cd,hkf,hb⟩:=D.ex;refine vH (Qs:=fun Q vs H1=>∃(d:Addr)(kvs:List (List Key×V)),vs=[.ref d]/\Rd H1 d (.dT kvs)/\∀as:List Addr,lO H1 (as.map V.ref) kvs->∃kf:Addr->List Int,(∀a∈as,kf a≠[])/\(∀a∈as,∀H2,a9 H1 H2->sp [.ref a] H2 (fun r H3=>a9 H2 H3/\∃b,r=.ref b/\H3 b=some (.tup ((kf a).map V.int))) E0)/\
  ∀(L:Addr)(out:List Addr)(H':Hp),H1 L=none->out.Perm as->(out.Pairwise fun a b=>leI (kf a) (kf b))->a9 H1 H'->H' L=some (.lst (out.map V.ref))->Q (.ref L) H') hg hm hy Cd ha Cp (fun jj s σ H vs us Q I r q=>?_) h1 h2
 obtain⟨d,kvs,rfl,hd,q⟩:=q;obtain⟨u,rfl,ru⟩:=vals1 r;cases ru;obtain⟨hs,hz,o,es,ep,en,sz,ow⟩:=oQ I hd;obtain⟨qs,rj⟩:∃qs:List V,Vals qs (es.toList.map (·.key))/\lO H qs kvs:=DI (by rw[ai,di,sz]) fun j u hu=>by
  rw[bf,gm]at hu;cases e:es[j]? with
  |none=>rw[e]at hu;cases hu
  |some n=>rw[e]at hu;obtain⟨k,v,q,a1,a2,a3,_⟩:=ow j n e;exact⟨k,v,q,a1,by rw[<- a2];exact(Option.some.inj hu).symm,a3⟩
 obtain⟨as,rfl⟩:=vT rj.2;obtain⟨kf,hk,ki,fin⟩:=q as rj.2;have ei:=jE rj.1;have tu:as.length=es.size:=by have:=congrArg List.length ei;rw[ai,ai,di]at this;exact this.symm
 refine sF F (hr.in1.in1) hb I (by rw[tu,sz];exact hz) (fun Q' q=>J0 hs (I.ok.hd hc) en (by rw[sz];exact hz) fun vs h' tk hl hv kp=>?_) hk ki fin;have ev:vs=as.map Value.ref:=by
  rw[<- ei];apply List.ext_getElem?;intro j;cases e:vs[j]? with
  |none=>have:=jf.mp e;rw[jf.mpr (by rw[ai,di,<- hl];exact this)]
  |some v=>obtain⟨n,hn,rfl⟩:=hv j v e;rw[bf,gm,hn];rfl
 rw[ev];exact q h' tk kp
end
noncomputable def pairOf(H:Hp)(a:Addr):PI:=match H a with|some (.tup [.int x,.int y])=>(x,y)|_=>(0,0)
def fT(H:Hp)(a:Addr):List Int:=[(pairOf H a).2,(pairOf H a).1]
theorem vM{H:Hp}{a:Addr}{p:PI}(h:H a=some (.tup [.int p.1,.int p.2])):pairOf H a=p:=by unfold pairOf;rw[h]
theorem KA{H:Hp}{a b:Addr}(h:leI (fT H a) (fT H b)):RM.dN (pairOf H a) (pairOf H b):=by unfold leI fT ixs at h;generalize pairOf H a=p at h ⊢;generalize pairOf H b=q at h ⊢;unfold RM.dN;simp[PyProof.Rows.lexLt,itemLt]at h;omega
theorem sU{H:Hp}:∀{as:List Addr}{ps:List PI},Paired (T2 H) (as.map V.ref) ps->ps=as.map (pairOf H)
 |[],ps,h=>by cases h;rfl
 |a::as,ps,h=>by
  rw[bh]at h;cases h with
  |cons t r=>obtain⟨b,e,hb⟩:=t;cases e;rw[bh,vM hb,<- sU r]
theorem sM{H:Hp}:∀{as:List Addr},(∀a∈as,T2 H (.ref a) (pairOf H a))->Paired (T2 H) (as.map V.ref) (as.map (pairOf H))
 |[],_=>.nil
 |a::as,h=>.cons (h a bb) (sM fun b hb=>h b (ar _ hb))
theorem yT{H:Hp}{as:List Addr}{ps:List PI}(h:Paired (T2 H) (as.map V.ref) ps):∀a∈as,T2 H (.ref a) (pairOf H a):=by
 induction as generalizing ps with
 |nil=>intro a ha;cases ha
 |cons b as ih=>
  rw[bh]at h;cases h with
  |cons t r=>
   intro a ha;rcases ak.mp ha with rfl|ha
   ·obtain⟨c,e,hc⟩:=t;cases e;exact⟨a,rfl,by rw[vM hc];exact hc⟩
   ·exact ih r a ha
theorem kH{H:Hp}{as out:List Addr}{ps:List PI}(h:Paired (T2 H) (as.map V.ref) ps)(hp:out.Perm as)(hs:out.Pairwise fun a b=>leI (fT H a) (fT H b)):
  ∃ys,Paired (T2 H) (out.map V.ref) ys/\ys.Perm ps/\ys.Pairwise RM.dN:=by
 have ht:=yT h;refine⟨out.map (pairOf H),sM fun a ha=>ht a (hp.mem_iff.mp ha),?_,?_⟩
 ·rw[sU h];exact hp.map _
 ·rw[ib];exact hs.imp fun z=>KA z
def dP(p:PI):PyData:=.tuple [.int p.1,.int p.2]
def dW(w:List PI):PyData:=.list (w.map dP)
def dWs(ws:List (List PI)):PyData:=.list (ws.map dW)
theorem XR{K:W.Frag}{H:Hp}{v:V}{p:PI}(h:T2 H v p):Dp K H v (dP p):=by obtain⟨a,rfl,ha⟩:=h;exact .tup (SqT.of ha) (.cons (.int _) (.cons (.int _) .nil))
theorem CH{K:W.Frag}{H:Hp}{α:Type}{R:V->α->Prop}{f:α->PyData}(hf:∀v a,R v a->Dp K H v (f a)):∀{xs:List V}{ys:List α},Paired R xs ys->uA K H xs (ys.map f)
 |_,_,.nil=>.nil
 |_,_,.cons r t=>.cons (hf _ _ r) (CH hf t)
theorem XQ{K:W.Frag}{H:Hp}{v:V}{w:List PI}(h:LT H v w):Dp K H v (dW w):=by obtain⟨a,xs,rfl,ha,pr⟩:=h;exact .lst (SqL.of ha) (CH (fun _ _ t=>XR t) pr)
theorem LR{K:W.Frag}{H:Hp}{v:V}{ws:List (List PI)}(h:LLT H v ws):Dp K H v (dWs ws):=by obtain⟨a,xs,rfl,ha,pr⟩:=h;exact .lst (SqL.of ha) (CH (fun _ _ t=>XQ t) pr)
theorem mW{α:Type}[DecidableEq α]{f:α->PyData}(hf:∀a b,PyData.eqv (f a) (f b)=decide (a=b)):∀xs ys:List α,PyData.eqvAll (xs.map f) (ys.map f)=decide (xs=ys)
 |[],[]=>by simp[PyData.eqvAll]
 |[],_::_=>by simp[PyData.eqvAll]
 |_::_,[]=>by simp[PyData.eqvAll]
 |x::xs,y::ys=>by rw[bh,bh,PyData.eqvAll,hf,mW hf xs ys];rw[dh];simp
theorem SV(a b:PI):PyData.eqv (dP a) (dP b)=decide (a=b):=by unfold dP;simp only[PyData.eqv,PyData.eqvAll,Bool.and_true];rw[dh];simp[Prod.ext_iff]
theorem SU(a b:List PI):PyData.eqv (dW a) (dW b)=decide (a=b):=by unfold dW;rw[PyData.eqv];exact mW SV a b
theorem NA(a b:List (List PI)):PyData.eqv (dWs a) (dWs b)=decide (a=b):=by unfold dWs;rw[PyData.eqv];exact mW SU a b
theorem xF{α:Type}{f:α->PyData}(hf:∀a,PyData.canLay0 (f a)=true):∀xs:List α,PyData.canLayAll0 (xs.map f)=true
 |[]=>by simp[PyData.canLayAll0]
 |x::xs=>by rw[bh,PyData.canLayAll0,hf,xF hf xs];rfl
theorem qA{α:Type}{f:α->PyData}{n:Nat}(hf:∀a,PyData.depth (f a)<=n):∀xs:List α,PyData.depthAll (xs.map f)<=n
 |[]=>by simp[PyData.depthAll]
 |x::xs=>by rw[bh,PyData.depthAll];have h1:=hf x;have h2:=qA hf xs;omega
theorem uY(ws:List (List PI)):SeqAt.shaped (dWs ws)=true:=by
 have l1:∀p,PyData.canLay0 (dP p)=true:=fun p=>by simp[dP,PyData.canLay0,PyData.canLayAll0]
 have l2:∀w,PyData.canLay0 (dW w)=true:=fun w=>by unfold dW;rw[PyData.canLay0];exact xF l1 w
 have d1:∀p,PyData.depth (dP p)<=1:=fun p=>by simp[dP,PyData.depth,PyData.depthAll]
 have d2:∀w,PyData.depth (dW w)<=2:=fun w=>by unfold dW;rw[PyData.depth];have:=qA d1 w;omega
 unfold SeqAt.shaped dWs;rw[PyData.canLay0,xF l2 ws,PyData.depth];have:=qA d2 ws;simp;omega
end L3
namespace L3
open PySem PySem.Spec PySem.Calls PyProof.Rows L2
section
variable {prog:Program}{w:World}{A:Around}{E:Value->Shared->Prop}{s:Shared}{d:Addr}{o:Obj}{es:Array DictEntry}{ep:Nat}
theorem xD(hs:(d==sysModules)=false):MeetsIn prog w (Builtin.«dict.items» ⟨[.ref d],[]⟩) (fun _ R s=>(∃o es ep,k7 s.heap d o es ep)/\R (.ok (.ret (.ref s.heap.objs.size))) {s with heap:=s.heap.push {cls:=.type "dict_items",data:=.fields #[.ref d]}}):=
 .of_wp fun A R s q=>by
  obtain⟨⟨o,es,ep,e⟩,hR⟩:=q
  delta Builtin.«dict.items»
  refine aa (show wpAny _ _ (Builtin.Dict.noArgs _ _) _ _ s from ?_)
  delta Builtin.Dict.noArgs
  refine aa (wpAny_notOrdered_dict e.ty (show wpAny _ _ (pure d) _ _ s from ag (show wpAny _ _ (Builtin.Dict.showsAll d>>=fun _=>_) _ _ s from ?_)))
  delta Builtin.Dict.showsAll
  rw[af (show¬(d==sysModules)=true by rw[hs];exact bp)];exact aa (ag (aa (wpAny_newObj_type (ag ⟨_,rfl,hR⟩))))
theorem zJ{v:Addr}{Q:Value->Shared->Prop}(hv:s.heap.IsItemsView v d)(e:k7 s.heap d o es ep)
  (hQ:Q (.ref s.heap.objs.size) {s with heap:=s.heap.push {cls:=.type "dict_itemiterator",data:=.fields #[.none,.bool false,.ref d,.int 0 0,.int es.size 0,.int ep 0,.none,.none]}}):wpAny (model prog w) A (pyIter (.ref v)) Q E s:=by
 obtain⟨vo,v1,v2,v3⟩:=id hv;refine wpAny_pyIter_slot hv.typeIs F.slot_dict_items_iter (wpAny_call_entry F.slot_dict_items_iter hv.typeIs F.entry_dict_items_iter (show wpAny _ _ (Builtin.«dict_items.__iter__» _) _ _ _ from ?_) (F.args_dict_items_iter_1 _))
 delta Builtin.«dict_items.__iter__»
 refine aa (ag (aa (show wpAny _ _ (Builtin.Dict_items.dictOf _) _ _ _ from ?_)))
 delta Builtin.Dict_items.dictOf
 refine aa (wpAny_field v1 v3 (x:=.ref d) rfl (ag (aa (show wpAny _ _ (Builtin.Dict_items.newIterator _ _) _ _ _ from ?_))))
 delta Builtin.Dict_items.newIterator
 refine aa (wpAny_dictEntries e.at_ e.dat (aa (wpAny_dictEpoch e.at_ e.dat ?_)));have own:Builtin.Dict_items.ownsTuple "dict_itemiterator" =true:=by rfl
 simp only[own,if_true];refine wpAny_newObj_type (ag ⟨_,rfl,"dict_itemiterator",_,⟨_,az _ rfl,rfl⟩,F.slot_dict_itemiterator_next.lookup,(by simpa[rawInt,Builtin.Dict_items.ownedTupleFields]using hQ)⟩) ?_;simp only[sizeOk,Builtin.Dict_items.ownedTupleFields,bj,aj,bo,dv,sizeLine_eq]<;>omega
theorem BI{it:Addr}{i:Nat}{en:DictEntry}{k0 v0:Value}{Q:Option Value->Shared->Prop}(jz:IsItemIter s.heap it d i es.size ep k0 v0)(e:k7 s.heap d o es ep)(hx:es[i]? =some en)
  (hQ:∀h',IsItemIterOut h' it d (i+1) es.size ep en.key en.val s.heap.objs.size->h'.get? s.heap.objs.size=some {cls:=.type "tuple",data:=.seq #[en.key,en.val]}->h'.objs.size=s.heap.objs.size+1->(∀b q,b≠it->s.heap.get? b=some q->h'.get? b=some q)->Q (some (.ref s.heap.objs.size)) {s with heap:=h'}):
  wpAny (model prog w) A (pyNext (.ref it)) Q E s:=by
 obtain⟨g0,gn,dr,tk,os⟩:=s;have ty:Shared.TypeIs ⟨g0,gn,dr,tk,os⟩ (.ref it) "dict_itemiterator" :=⟨_,jz,rfl⟩
 delta pyNext
 refine aa (wpAny_attempt (wpAny_callSpecial?_slot (name:=Str.ofString "__next__") ty F.slot_dict_itemiterator_next (wpAny_call_entry F.slot_dict_itemiterator_next ty F.entry_dict_itemiterator_next ?_ (F.args_dict_itemiterator_next_1 _))));refine aa (ag (aa (aa ?_)));first|refine aa (wpAny_typeNameOfWhole_itemiter ty (ag (aa (wpAny_fieldsOf jz rfl ?_))))|refine aa (wpAny_typeNameOf_itemiter ty (ag (aa (wpAny_fieldsOf jz rfl ?_))))
 have own:Builtin.Dict_items.ownsTuple "dict_itemiterator" =true:=by rfl
 simp only[own,if_true];show wpAny _ _ (if(Value.ref d==Value.none)=true then _ else _) _ _ ⟨g0,gn,dr,tk,os⟩
 have nn:¬((Value.ref d==Value.none)=true):=bp;rw[af nn];refine aa (ag (aa (wpAny_dictEntries e.at_ e.dat ?_)));rw[af (show¬ _ by simp)];refine aa (ag (aa (wpAny_dictEpoch e.at_ e.dat ?_)));rw[af (show¬ _ by simp)];obtain⟨lt,ow⟩:=gf.mp hx;have i0:¬((i:Int)<0):=by omega
 refine ag ?_;simp only[i0,if_false,ji,fx lt,ow];refine aa ?_;first|refine aa (wpAny_typeNameOfWhole_itemiter ty (ag (aa (wpAny_isOneOf_itemiter ty ?_))))|refine aa (wpAny_typeNameOf_itemiter ty (ag (aa (wpAny_isOneOf_itemiter ty ?_))))
 show wpAny _ _ (setField (.ref it) 3 (rawInt ((i:Int)+1))>>=fun _=>_) _ _ ⟨g0,gn,dr,tk,os⟩
 refine aa (wpAny_setField_rec jz (by simp) fun g1 a1 b1=>?_);replace b1:Heap.SameBut it g0 g1:=b1;replace a1:IsItemIter g1 it d (i+1) es.size ep k0 v0:=by
  have ei:((i+1:Nat):Int)=(i:Int)+1:=by omega
  show _=_
  rw[ei];simpa[rawInt]using a1
 have ty1:Shared.TypeIs ⟨g1,gn,dr,tk,os⟩ (.ref it) "dict_itemiterator" :=⟨_,a1,rfl⟩;refine aa (wpAny_holding (aa (wpAny_isOneOf_itemiter ty1 (aa (wpAny_isOneOf_itemiter ty1 ?_)))));show wpAny _ _ (Builtin.Dict_items.pairFromOwner (.ref it) 6 en.key en.val) _ _ ⟨g1,gn,dr,tk,os⟩
 delta Builtin.Dict_items.pairFromOwner
 refine aa (wpAny_newTuple ?_);have a2:IsItemIter (g1.push {cls:=.type "tuple",data:=.seq #[en.key,en.val]}) it d (i+1) es.size ep k0 v0:=ao _ a1;have z1:g1.objs.size=g0.objs.size:=b1.1;have il:it<g0.objs.size:=bq jz;have t2:(g1.push {cls:=.type "tuple",data:=.seq #[en.key,en.val]}).get? g0.objs.size=some {cls:=.type "tuple",data:=.seq #[en.key,en.val]}:=by rw[<- z1];exact az _ rfl
 have z2:(g1.push {cls:=.type "tuple",data:=.seq #[en.key,en.val]}).objs.size=g0.objs.size+1:=by rw[ft,z1]
 have k2:∀b q,b≠it->g0.get? b=some q->(g1.push {cls:=.type "tuple",data:=.seq #[en.key,en.val]}).get? b=some q:=fun b q hb z=>ao _ (b1.extBut b q hb z)
 show wpAny _ _ (Builtin.Dict_items.ownedTupleIsFree (.ref it)>>=fun _=>_) _ _ ⟨g1.push {cls:=.type "tuple",data:=.seq #[en.key,en.val]},gn,dr,tk,os⟩
 rw[z1];generalize (g1.push {cls:=.type "tuple",data:=.seq #[en.key,en.val]})=g2 at a2 t2 z2 k2 ⊢;refine aa (show wpAny _ _ (Builtin.Dict_items.ownedTupleIsFree _) _ _ _ from ?_)
 delta Builtin.Dict_items.ownedTupleIsFree
 refine aa (wpAny_field a2 rfl (x:=.none) rfl (ag ?_));simp only[if_true];refine aa (wpAny_field a2 rfl (x:=k0) rfl (aa (wpAny_field a2 rfl (x:=v0) rfl ?_)));refine aa (wpAny_setField_rec a2 (by simp) fun g3 a3 b3=>?_);replace b3:Heap.SameBut it g2 g3:=b3;replace a3:IsItemIter g3 it d (i+1) es.size ep en.key v0:=a3;refine aa (wpAny_setField_rec a3 (by simp) fun g4 a4 b4=>?_);replace b4:Heap.SameBut it g3 g4:=b4;replace a4:IsItemIter g4 it d (i+1) es.size ep en.key en.val:=a4;refine aa (wpAny_setField_rec a4 (by simp) fun g5 a5 b5=>?_);replace b5:Heap.SameBut it g4 g5:=b5;replace a5:IsItemIterOut g5 it d (i+1) es.size ep en.key en.val g0.objs.size:=a5;refine aa (wpAny_setField_rec a5 (by simp) fun g6 a6 b6=>?_);replace b6:Heap.SameBut it g5 g6:=b6;replace a6:IsItemIterOut g6 it d (i+1) es.size ep en.key en.val g0.objs.size:=a6;have kp:∀b q,b≠it->g2.get? b=some q->g6.get? b=some q:=fun b q hb z=>b6.extBut b q hb (b5.extBut b q hb (b4.extBut b q hb (b3.extBut b q hb z)))
 refine aa (wpAny_letGo (ag (ag ⟨_,rfl,ag (hQ g6 a6 (kp _ _ (jd il) t2) ?_ fun b q hb z=>kp b q hb (k2 b q hb z))⟩)));show g6.objs.size=g0.objs.size+1
 rw[b6.1,b5.1,b4.1,b3.1,z2]
end
section
variable {prog:Program}{w:World}{A:Around}{E:Value->Shared->Prop}{s:Shared}{d:Addr}{o:Obj}{es:Array DictEntry}{ep:Nat}
theorem BX{it:Addr}{i:Nat}{k0 v0:Value}{Q:Option Value->Shared->Prop}(hh:A.handled=none)(jz:IsItemIter s.heap it d i es.size ep k0 v0)(e:k7 s.heap d o es ep)(zj:es.size<=i)
  (hQ:∀h',Heap.ExtBut it s.heap h'->Q none {s with heap:=h'}):wpAny (model prog w) A (pyNext (.ref it)) Q E s:=by
 have ty:s.TypeIs (.ref it) "dict_itemiterator" :=⟨_,jz,rfl⟩
 delta pyNext
 refine aa (wpAny_attempt (wpAny_callSpecial?_slot (name:=Str.ofString "__next__") ty F.slot_dict_itemiterator_next (wpAny_call_entry F.slot_dict_itemiterator_next ty F.entry_dict_itemiterator_next ?_ (F.args_dict_itemiterator_next_1 _))));refine aa (ag (aa (aa ?_)));first|refine aa (wpAny_typeNameOfWhole_itemiter ty (ag (aa (wpAny_fieldsOf jz rfl ?_))))|refine aa (wpAny_typeNameOf_itemiter ty (ag (aa (wpAny_fieldsOf jz rfl ?_))))
 have own:Builtin.Dict_items.ownsTuple "dict_itemiterator" =true:=by rfl
 simp only[own,if_true];show wpAny _ _ (if(Value.ref d==Value.none)=true then _ else _) _ _ s
 have nn:¬((Value.ref d==Value.none)=true):=bp;rw[af nn];refine aa (ag (aa (wpAny_dictEntries e.at_ e.dat ?_)));rw[af (show¬ _ by simp)];refine aa (ag (aa (wpAny_dictEpoch e.at_ e.dat ?_)));rw[af (show¬ _ by simp)];have i0:¬((i:Int)<0):=by omega
 refine ag ?_;simp only[i0,if_false,ji,getElem?_eq_none zj];refine aa ?_;first|refine aa (wpAny_typeNameOfWhole_itemiter ty (ag (show wpAny _ _ (setField (.ref it) 2 .none>>=fun _=>_) _ _ s from aa (wpAny_setField jz rfl (by simp) ?_))))|refine aa (wpAny_typeNameOf_itemiter ty (ag (show wpAny _ _ (setField (.ref it) 2 .none>>=fun _=>_) _ _ s from aa (wpAny_setField jz rfl (by simp) ?_))))
 show wpAny _ _ (newExc (.type "StopIteration") []>>= _) _ _ _
 refine aa ?_;simp only[newExc,newTuple];refine aa (wpAny_newObj_type ?_ (by size_fits));refine aa (m:=firstArgMember _ _) (wpAny_of_eq (a:=Value.none) (by first|rfl|(simp only[firstArgMember];rfl)) ?_);refine wpAny_newObj_type ?_ (by size_fits);simp only[raiseNew];refine aa (wpAny_handled ?_);rw[show A.in1.handled=none from hh];refine aa (ag (wpAny_throw ?_));refine aa (wpAny_isInstance (T:= "StopIteration") (b:=true) ⟨_,az _ rfl,rfl⟩ isSubtype_stop ?_);exact ag (hQ _ (((Heap.SameBut.update ..).extBut.push _).push _))
end
noncomputable def JD(d:Addr)(o:Obj)(kvs:List (List Key×V)):It:=
 ⟨fun i H=>H d=some (.frz o (.dT kvs))/\i<kvs.length,fun i H x H'=>∃T k v q,kvs[i]? =some (k,v)/\H q=some (.tup (k.map kV))/\x=.ref T/\H T=none/\H'=upd H T (.tup [.ref q,v]),fun i H=>H d=some (.frz o (.dT kvs))/\kvs.length<=i⟩
section
variable {P:Program}{w:World}{K:W.Frag}{d:Addr}{o:Obj}{es:Array DictEntry}{ep:Nat}
theorem A9{X:Cx}{jj:List (Addr×Obj)}{σ:L2.St}{H:Hp}{s:Shared}{kvs:List (List Key×V)}(I:Inv X jj σ H s)(h:H d=some (.frz o (.dT kvs)))(ot:o.data=.dict es ep):k7 s.heap d o es ep/\es.size=kvs.length/\∀(i:Nat)(en:DictEntry),es[i]? =some en->∃k v q,kvs[i]? =some (k,v)/\en.key=.ref q/\H q=some (.tup (k.map kV))/\RelV v en.val:=by
 obtain⟨_,_,o',rf,rg,e,sz,en⟩:=oQ I (.inr ⟨o,h⟩);have e0:=(I.hok d _ h).1;have eo:o'=o:=by have:=e.at_;rw[e0]at this;exact(Option.some.inj this).symm
 subst eo;obtain⟨rfl,rfl⟩:=jR ot e.dat;exact⟨e,sz,en⟩
theorem yC{kvs:List (List Key×V)}{qb:List Expr}{kk:Nat}{mq:Pos}(it:Addr)(ot:o.data=.dict es ep):Turn P w K (.Tuple qb kk mq) (JD d o kvs) [it] it (fun i h=>∃k0 v0,IsItemIter h it d i kvs.length ep k0 v0) where
 mem:=by simp
 obj:=fun i h st b hb=>by
  have e:b=it:=by simpa using hb
  subst e;obtain⟨_,_,e⟩:=st;exact⟨_,e,fun v z=>nomatch z⟩
 keep:=fun i h h' st k=>let⟨k0,v0,e⟩:=st;⟨k0,v0,k it (by simp) _ e⟩
 item:=by
  intro X hP hw hK hc i jj s σ H E I hf st hg;subst hP hw hK;obtain⟨hd,hi⟩:=hg;obtain⟨e,sz,uo⟩:=A9 I hd ot;obtain⟨k0,v0,he⟩:=st;rw[<- sz]at he hi;obtain⟨k,v,q,uf,me,hq,rv⟩:=uo i es[i] (fx hi);have jr:it<s.heap.objs.size:=bq he;refine BI he e (fx hi) fun h' ho hT hz hk=>?_
  refine⟨_,rfl,wpAny_letOwnedTupleGo_items (s:={s with heap:=h'}) ho fun wo he' sb=>?_⟩;have xp:wo.get? s.heap.objs.size=some {cls:=.type "tuple",data:=.seq #[es[i].key,es[i].val]}:=(sb.2 _ (jd jr)).trans hT;have new:cO X.prog X.w (upd H s.heap.objs.size (.tup [.ref q,v])) wo s.heap.objs.size (.tup [.ref q,v]):=⟨by show 2<=sizeLine;decide,[es[i].key,es[i].val],.cons me (.cons rv .nil),⟨_,xp,rfl,_,rfl⟩⟩;have I1:Inv X jj σ (upd H s.heap.objs.size (.tup [.ref q,v])) {s with heap:=wo}:=I.uW (t':=s.toks) (ch:=[it]) (fun b ob hb z=>(sb.2 b (by simpa using hb)).trans (hk b ob (by simpa using hb) z)) hf (au _) new;refine⟨.ref s.heap.objs.size,_,I1,rfl,⟨_,k,v,q,uf,hq,rfl,I.hok.fresh (au _),rfl⟩,⟨_,_,by rw[<- sz];exact he'⟩,fun b hb=>?_⟩;have eb:b=it:=by simpa using hb
  rw[eb,aB (cv jr)];exact(hf it (by simp)).1
 done:=by intro X hP hw hK hc i jj s σ H E I hf st hg;subst hP hw hK;obtain⟨hd,hi⟩:=hg;obtain⟨f0,f1,f2,f3,f4,f5⟩:=hf it (by simp);obtain⟨e,sz,uo⟩:=A9 I hd ot;obtain⟨k0,v0,he⟩:=st;rw[<- sz]at he hi;exact BX (I.ok.hd hc) he e hi fun h' eb=>⟨rfl,I.turned (t':=s.toks) (fun b ob hb z=>eb b ob hb z) f0 f1 f3 f4 f5⟩
 self:=fun A i s Q E st h=>let⟨_,_,e⟩:=st;W.kcp_self e h
end
noncomputable def KL(td:TE):TI:=fun σ H R=>td σ H fun x H1=>∃d o kvs,x=.ref d/\H1 d=some (.frz o (.dT kvs))/\R (JD d o kvs) H1
section
variable {X:Cx}{e:Expr}{td:TE}{kl jq:Pos}
theorem vG{qb:List Expr}{kk:Nat}{mq:Pos}(he:PE X e td)(my:attributeBase e "items" X.env (eval e X.env)=eval e X.env:=by rfl)(pf:(kl.endLine==jq.line)=true:=by rfl):L2.PI X (.Tuple qb kk mq) (.Call (.Attribute e "items" kl) [] [] jq) (KL td):=by
 intro jj s σ H R I h;refine wpAny_Call_method (T:= "dict") (id:= "dict.items") my rfl pf F.plainAttrs_dict F.slot_dict_items F.type_dict_items (thn (he jj s σ H _ I h) fun u s1 ⟨x,H1,I1,rx,d,o,kvs,ex,hd,q⟩=>?_);subst ex;obtain rfl:u=Value.ref d:=rx;obtain⟨hs,_,o',es,ep,en,sz,_⟩:=oQ I1 (.inr ⟨o,hd⟩);have eo:o'=o:=by have:=en.at_;rw[(I1.hok d _ hd).1]at this;exact(Option.some.inj this).symm
 subst eo;refine⟨en.ty,fun b z=>by cases z;exact⟨o',en.at_,en.ex.2.1⟩,?_⟩;have I2:Inv X jj σ H1 {s1 with heap:=s1.heap.push {cls:=.type "dict_items",data:=.fields #[.ref d]}}:=I1.kept (t':=s1.toks) fun b ob q=>ao _ q
 have en2:k7 (s1.heap.push {cls:=.type "dict_items",data:=.fields #[.ref d]}) d o' es ep:=en.to fun q z=>ao _ z
 have fin:wpAny (model X.prog X.w) X.A (pyIter (.ref s1.heap.objs.size)) (PIE X jj σ (.Tuple qb kk mq) R) X.xe {s1 with heap:=s1.heap.push {cls:=.type "dict_items",data:=.fields #[.ref d]}}:=by refine zJ ⟨_,az _ rfl,rfl,rfl⟩ en2 (wX (tk:=s1.toks) I2 _ (yC _ en.dat) ⟨.none,.none,?_⟩ q);rw[<- sz];exact az _ rfl
 show wpAny _ _ (callWith jq (.builtin "dict.items") [.ref d] [] []) _ X.xe s1
 exact method_meetsIn F.slot_dict_items F.entry_dict_items rfl (PySem.evalArgs_none ⟨rfl,en.ty,F.args_dict_items_1 _,_,xD hs,⟨o',es,ep,en⟩,fin⟩)
end
theorem vX{d:Addr}{od:Obj}{kvs:List (List Key×V)}{g:TG}{tb:TS}{D:Ends}{σ:L2.St}{H:Hp}(Pv:Nat->L2.St->Hp->Prop)(h0:Pv 0 σ H)(hl:∀i σ H,Pv i σ H->H d=some (.frz od (.dT kvs)))
  (hs:∀i k v q T σ H,kvs[i]? =some (k,v)->H q=some (.tup (k.map kV))->H T=none->Pv i σ H->g (.ref T) σ (upd H T (.tup [.ref q,v])) fun σ2 H2=>tb {D with nx:=Pv (i+1),ct:=Pv (i+1),bk:=D.nx} σ2 H2) (hd:∀σ H,Pv kvs.length σ H->D.nx σ H):
  ∃W:Nat->Nat->L2.St->Hp->Prop,(∃m,W 0 m σ H)/\∀i m σ H,W i m σ H ->
   ((JD d od kvs).stop i H/\D.nx σ H)\/((JD d od kvs).go i H/\∃N:L2.St->Hp->Prop,(∀σ' H',N σ' H'->∃m',m'<m/\W (i+1) m' σ' H')/\∀x H',(JD d od kvs).yld i H x H'->g x σ H' fun σ2 H2=>tb {D with nx:=N,ct:=N,bk:=D.nx} σ2 H2):=by
 refine⟨fun i m σ H=>m=kvs.length - i/\i<=kvs.length/\Pv i σ H,⟨kvs.length,by simp,bz _,h0⟩,?_⟩;rintro i m σ H ⟨rfl,hi,p⟩;have q:=hl i σ H p;by_cases jr:i<kvs.length
 ·refine .inr ⟨⟨q,jr⟩,Pv (i+1),fun σ' H' p'=>⟨kvs.length - (i+1),by omega,rfl,jr,p'⟩,fun x H' y=>?_⟩;obtain⟨T,k,v,b,hk,hb,rfl,hT,rfl⟩:=y;exact hs i k v b T σ H hk hb hT p
 ·have e:i=kvs.length:=by omega
  subst e;exact .inl ⟨⟨q,au _⟩,hd σ H p⟩
section
variable {prog:Program}{w:World}{A:Around}{E:Value->Shared->Prop}
abbrev TK(prog:Program)(w:World):HeapKind prog w (List Key):=tupleKind (c6 prog w)
theorem xH{h0 h:Heap}{ks:List Key}{a:Addr}(k:∀b q,h0.get? b=some q->h.get? b=some q)(x:(TK prog w).is h0 ks a):(TK prog w).is h ks a:=by obtain⟨o,its,n,ho,r⟩:=x;exact⟨o,its,n,k _ _ ho,r⟩
theorem tU{h h':Heap}{S:Addr}{acc:List (List Key×Addr×Value)}(m:h.DictOfH (TK prog w) S acc)(hS:∀q,h.get? S=some q->h'.get? S=some q)(hk:∀x∈acc,(TK prog w).is h' x.1 x.2.1):h'.DictOfH (TK prog w) S acc:=by obtain⟨o,es,ep,a1,a2,a3,a4,_,a6⟩:=m;exact⟨o,es,ep,hS _ a1,a2,a3,a4,hk,a6⟩
noncomputable def D5(acc rest:List (List Key×Addr×Value)):List (List Key×Addr×Value):=rest.foldl (fun a q=>storedH a q.1 q.2.1 q.2.2) acc
theorem B1(acc:List (List Key×Addr×Value))(k:List Key)(a:Addr)(v:Value):(storedH acc k a v).length<=acc.length+1:=by unfold storedH;split<;>simp
theorem LP{R:Result->Shared->Prop}{S I l:Addr}{items:Array Value}{res:Value}{h0:Heap}(hh:A.handled=none)(hu:A.in1.units<cLine)(hIS:S≠I)(qk:h0.IsList l items)(hS0:∀b q,h0.get? b=some q->b≠S)(hI0:∀b q,h0.get? b=some q->b≠I):
  ∀(rest:List (List Key×Addr×Value))(i:Nat)(acc:List (List Key×Addr×Value))(ix:Int)(t:Tok)(s:Shared),items.size=i+rest.length->acc.length+rest.length<=sizeLine->(∀x∈acc,(TK prog w).is h0 x.1 x.2.1) ->
   (∀(j:Nat)(q:List Key×Addr×Value),rest[j]? =some q->∃b:Addr,items[i+j]? =some (.ref b)/\IsTup h0 b #[.ref q.2.1,q.2.2]/\(TK prog w).is h0 q.1 q.2.1) ->
   (∀b q,h0.get? b=some q->s.heap.get? b=some q)->s.heap.IsListIter I l i->s.heap.DictOfH (TK prog w) S acc ->
   (∀h' tk,h'.DictOfH (TK prog w) S (D5 acc rest)->(∀b q,h0.get? b=some q->h'.get? b=some q)->R (.ok (.ret res)) {s with heap:=h',toks:=tk}) ->
   codeAny (model prog w) A (.builtin "dict.update.loop" ⟨[.ref S,.ref I,.int ix t,res],[]⟩) R s
 |[],i,acc,ix,t,s,hsz,qe,hacc,ht,k0,jz,hm,hR=>by
  have hl:s.heap.IsList l items:=qk.at fun q z=>k0 _ _ z
  refine codeAny_builtin yB ?_;rw[Around.under_plainId kC _];show wpAny _ A.in1 (pyNext (.ref I)>>= _) _ _ s
  refine aa (wpAny_pyNext_list_end (A:=A.in1) hh jz hl (by first|exact getElem?_eq_none (ie hsz)|(simp at hsz;simp;omega)) fun h' he=>?_);show wpAny _ A.in1 (Builtin.Dict.addKeywords S []>>= _) _ _ _
  have k1:∀b q,h0.get? b=some q->h'.get? b=some q:=fun b q z=>he b q (hI0 b q z) (k0 b q z)
  exact aa (ag (ag (hR h' s.toks (tU hm (fun q z=>he S q hIS z) fun x hx=>xH k1 (hacc x hx)) k1)))
 |q::rest,i,acc,ix,t,s,hsz,qe,hacc,ht,k0,jz,hm,hR=>by
  obtain⟨b,hb,htup,hk⟩:=ht 0 q rfl;have hl:s.heap.IsList l items:=qk.at fun q z=>k0 _ _ z
  rw[bo]at hsz qe;refine codeAny_builtin yB ?_;rw[Around.under_plainId kC _];show wpAny _ A.in1 (pyNext (.ref I)>>= _) _ _ s
  refine aa (wpAny_pyNext_list_item (x:=.ref b) jz hl (by simpa using hb) fun h1 hit1 zy=>?_);have k1:∀b q,h0.get? b=some q->h1.get? b=some q:=fun b q z=>(zy.2 b (hI0 b q z)).trans (k0 b q z)
  have hm1:h1.DictOfH (TK prog w) S acc:=tU hm (fun q z=>(zy.2 S hIS).trans z) fun x hx=>xH k1 (hacc x hx)
  obtain⟨o,ho,hc,n,hd⟩:=id htup;have ho1:=k1 _ _ ho;show wpAny _ A.in1 (holding [Value.ref b] _>>= _) _ _ _
  refine aa (wpAny_holding (aa (wpAny_tryCatch ?_)));unfold Builtin.Dict.pairItems;refine aa (wpAny_typeOf (T:= "tuple") ⟨o,ho1,hc⟩ ?_);rw[ah (by first|decide|rfl|simp)];refine aa (wpAny_seqItems ho1 hd (ag ?_));show wpAny _ A.in1 (holding [Value.ref q.2.1,q.2.2] (dictSet S (.ref q.2.1) q.2.2)) _ _ _
  refine wpAny_holding (wpAny_dictSet_heap (knd:=TK prog w) (k:=q.1) hu (xH k1 hk) hm1 (fun h2 hm2 qi=>?_) (by omega));have k2:∀b q,h0.get? b=some q->h2.get? b=some q:=fun b q z=>(qi.2 b (hS0 b q z)).trans (k1 b q z)
  refine ag ⟨plainId_quiet kC _,LP (items:=items) hh hu hIS qk hS0 hI0 rest (i+1) (storedH acc q.1 q.2.1 q.2.2) (ix+1) 0 _ (show items.size=i+1+rest.length by omega) ?_ (fun x hx=>?_) (fun j q' e=>?_) k2 ?_ hm2 fun h' tk we k=>hR h' tk we k⟩
  ·have z:=B1 acc q.1 q.2.1 q.2.2;omega
  ·unfold storedH at hx;split at hx
   ·obtain⟨y,hy,rfl⟩:=ax.mp hx;unfold putAt;split
    ·exact hacc y hy
    ·exact hacc y hy
   ·rcases aw.mp hx with hx|hx
    ·exact hacc x hx
    ·rw[fm.mp hx];exact hk
  ·obtain⟨b',a1,a2,a3⟩:=ht (j+1) q' (by simpa using e);exact⟨b',by rw[show i+1+j=i+(j+1) by omega];exact a1,a2,a3⟩
  ·exact hit1.at fun o' e=>(qi.2 I (Ne.symm hIS)).trans e
theorem AB{s:Shared}{l:Addr}{ol:Obj}{items:Array Value}{n:Nat}{prs:List (List Key×Addr×Value)}{Q:Value->Shared->Prop}(hh:A.handled=none)(hu:A.in1.in1.units<cLine)(hl:s.heap.get? l=some ol)(hc:ol.cls=.type "list")(hd:ol.dict=none)
  (kj:ol.data=.seq items n) (hsz:items.size=prs.length) (qe:prs.length<=sizeLine)
  (ht:∀(j:Nat)(q:List Key×Addr×Value),prs[j]? =some q->∃b:Addr,items[j]? =some (.ref b)/\IsTup s.heap b #[.ref q.2.1,q.2.2]/\(TK prog w).is s.heap q.1 q.2.1)
  (h:∀h' tk,h'.DictOfH (TK prog w) s.heap.objs.size (D5 [] prs)->(∀b o,s.heap.get? b=some o->h'.get? b=some o)->Q (.ref s.heap.objs.size) {s with heap:=h',toks:=tk}):
  wpAny (model prog w) A (call (.type "dict") [.ref l]) Q E s:=by
 refine callType_codes (Q₁:=fun obj s₁=>obj=.ref s.heap.objs.size/\s₁={s with heap:=s.heap.push {cls:=.type "dict",data:=.dict #[]}}) PySem.F.kt_called_dict (PySem.F.kt_typeCall_dict_1 _) PySem.F.entry_dict_init (kt_code_dict_new _ ⟨rfl,rfl⟩) ?_;rintro obj s₁ ⟨rfl,rfl⟩;have tj:(s.heap.push {cls:=.type "dict",data:=.dict #[]}).DictOfH (TK prog w) s.heap.objs.size []:=Heap.DictOfH.new s.heap;have k0:∀b o,s.heap.get? b=some o->(s.heap.push {cls:=.type "dict",data:=.dict #[]}).get? b=some o:=fun b o e=>ao _ e
 refine⟨tj.typeIs,PySem.F.args_dict_init_2 _ _,?_⟩;unfold Builtin.«dict.__init__»;refine aa ?_;unfold Builtin.Dict.selfAndRest;refine aa (wpAny_notOrdered_dict tj.typeIs ?_);show wpAny _ _ (pure (s.heap.objs.size,[Value.ref l])) _ _ _
 refine ag ?_;show wpAny _ _ (Builtin.Dict.updateFrom "dict.__init__" s.heap.objs.size (.ref l) [] .none) _ _ _
 unfold Builtin.Dict.updateFrom;refine aa (wpAny_typeOf (T:= "list") ⟨ol,k0 _ _ hl,hc⟩ ?_);rw[ah (by first|decide|rfl|simp)];refine aa (ES (k0 _ _ hl) hc kj hd hh fun h1 Aq hk1=>?_);rw[ah (show(none:Option Value).isNone=true from rfl)];refine aa (wpAny_rule ?_);have hl1:h1.IsList l items:=⟨ol,hk1 _ _ (k0 _ _ hl),hc,n,kj⟩;have hS1:s.heap.objs.size<h1.objs.size:=by have e:(s.heap.push {cls:=.type "dict",data:=.dict #[]}).get? s.heap.objs.size=some {cls:=.type "dict",data:=.dict #[]}:=az _ rfl;exact bq (hk1 _ _ e)
 refine aa (wpAny_pyIter_list hl1 ?_);have k2:∀b o,h1.get? b=some o->(h1.push {cls:=.type "list_iterator",data:=.fields #[.ref l,.int 0 0]}).get? b=some o:=fun b o e=>ao _ e
 have kk:∀b o,s.heap.get? b=some o->(h1.push {cls:=.type "list_iterator",data:=.fields #[.ref l,.int 0 0]}).get? b=some o:=fun b o e=>k2 _ _ (hk1 _ _ (k0 _ _ e))
 have key:=LP (prog:=prog) (w:=w) (A:=A.in1) (R:=wants (fun r s₂=>r=.none/\Q (.ref s.heap.objs.size) s₂) E) (S:=s.heap.objs.size) (I:=h1.objs.size) (l:=l) (items:=items) (res:=Value.none) (h0:=s.heap) hh hu (cv hS1)
  ⟨ol,hl,hc,n,kj⟩ (fun b q z=>cv (bq z)) (fun b q z=>cv (Nat.lt_trans (bq z) hS1)) prs 0 [] 0 0
  {s with heap:=h1.push {cls:=.type "list_iterator",data:=.fields #[.ref l,.int 0 0]},toks:=Aq} (by rw[hsz,Nat.zero_add]) (by rw[dv,Nat.zero_add];exact qe) (fun x hx=>nomatch hx)
  (fun j q e=>by rw[Nat.zero_add];exact ht j q e) kk ⟨_,az _ rfl,rfl,rfl⟩ (tU tj (fun q z=>k2 _ _ (hk1 _ _ z)) fun x hx=>nomatch hx)
  (fun h' tk we k=>⟨rfl,h h' tk we k⟩)
 first
  |exact ag ⟨plainId_quiet kC _,key⟩
  |exact aa (ag (ag ⟨plainId_quiet kC _,key⟩))
end
noncomputable def kK(kvs more:List (List Key×V)):List (List Key×V):=more.foldl (fun acc kv=>putK acc kv.1 kv.2) kvs
theorem E4{H:Hp}:∀{more:List (List Key×V)}{prs:List (List Key×Addr×Value)}{kvs:List (List Key×V)}{acc:List (List Key×Addr×Value)},KT H more prs->KT H kvs acc->KT H (kK kvs more) (D5 acc prs)
 |_,_,_,_,.nil,r=>r
 |kv::_,q::_,kvs,acc,.cons ⟨e1,e2,e3⟩ t,r=>by
  show KT H (kK (putK kvs kv.1 kv.2) _) (D5 (storedH acc q.1 q.2.1 q.2.2) _)
  refine E4 t ?_;have:=r.put kv.1 e2 e3;rw[e1]at this ⊢;exact this
theorem vD:∀(more kvs:List (List Key×V)),(kK kvs more).length<=kvs.length+more.length
 |[],kvs=>by simp[kK]
 |kv::r,kvs=>by
  have h1:=vD r (putK kvs kv.1 kv.2);have h2:=kQ kvs kv.1 kv.2;show(kK (putK kvs kv.1 kv.2) r).length<=_
  rw[bo];omega
section
variable {X:Cx}
theorem CO(Cr:X.calm=true)(hu:X.A.units+2<cLine):mL X (.type "dict") (fun xs H Q=>∃(a:Addr)(ps:List Addr)(kvs:List (List Key×V)),xs=[.ref a]/\SqL X.K H a (ps.map V.ref)/\Paired (fun p (kv:List Key×V)=>∃q,H p=some (.tup [.ref q,kv.2])/\H q=some (.tup (kv.1.map kV))) ps kvs/\
  ∀p,H p=none->Q (.ref p) (upd H p (.dT (kK [] kvs)))):=by
 intro jj s σ H xs us Q I r h;obtain⟨a,ps,kvs,ex,hq,hp,h⟩:=h;subst ex;obtain⟨u,eu,rx⟩:=vals1 r;subst eu;cases rx;obtain⟨its,rv,pl,hz⟩:=I.list hq;have ei:=jE rv;subst ei;rw[ai]at hz;have hpr:∀{ps:List Addr}{kvs:List (List Key×V)},Paired (fun p (kv:List Key×V)=>∃q,H p=some (.tup [.ref q,kv.2])/\H q=some (.tup (kv.1.map kV))) ps kvs ->
   ∃prs:List (List Key×Addr×Value),KT H kvs prs/\prs.length=ps.length/\∀(j:Nat)(q:List Key×Addr×Value),prs[j]? =some q->∃b,ps[j]? =some b/\IsTup s.heap b #[.ref q.2.1,q.2.2]/\(TK X.prog X.w).is s.heap q.1 q.2.1:=by
  intro ps kvs hp;induction hp with
  |nil=>exact⟨[],.nil,rfl,fun j q e=>by simp at e⟩
  | @cons p kv ps kvs hq t ih=>
   obtain⟨prs,r1,r2,r3⟩:=ih;obtain⟨b,hb1,Af⟩:=hq;obtain⟨its,rv,ht,_⟩:=I.tuple (SqT.of (K:=X.K) hb1);obtain⟨u,y,ei,ru,ry⟩:=vals2 rv;subst ei;cases (show u=Value.ref b from ru);refine⟨(kv.1,b,y)::prs,.cons ⟨rfl,Af,ry⟩ r1,by rw[bo,bo,r2],fun j q e=>?_⟩;cases j with
   |zero=>have e':(kv.1,b,y)=q:=Option.some.inj e;subst e';exact⟨p,rfl,ht,kU I.hok Af⟩
   |succ j=>obtain⟨c,e1,e2,e3⟩:=r3 j q (by simpa using e);exact⟨c,by simpa using e1,e2,e3⟩
 obtain⟨prs,rel,hl,hpr⟩:=hpr hp;obtain⟨o,n,ho,hc,hd,kj⟩:=pl;refine AB (prs:=prs) (I.ok.hd Cr) hu ho hc hd kj (by simp[hl]) (by rw[hl];exact hz) (fun j q' e=>?_) fun h' tk we k=>?_
 ·obtain⟨b,e1,e2,e3⟩:=hpr j q' e;exact⟨b,by simp[e1],e2,e3⟩
 ·have hm:(s.heap.objs.size==sysModules)=false:=beq_eq_false_iff_ne.mpr (jd I.big);have jt:(kK [] kvs).length<=sizeLine:=by have h1:=vD kvs [];have h2:=pairs_len hp;rw[dv]at h1;omega
  have kt:=E4 rel (.nil:KT H [] []);obtain⟨q,es,ep,qd,h2,h3,h4,_,h5⟩:=we;refine⟨.ref s.heap.objs.size,_,I.laid (a:=s.heap.objs.size) (o:=.dT (kK [] kvs)) k (au _) ⟨jt,hm,_,kt.keeps fun c ys ec=>?_,q,es,ep,qd,h2,h3,h4,h5⟩,rfl,h _ (I.hok.fresh (au _))⟩;rw[aB (aJ ec (I.hok.fresh (au _)))];exact ec
end
end L3
namespace L3
open PySem PySem.Spec PyProof.Rows L2
theorem C1{A:Around}{k:Nat}(hr:cT k A):A.units+2<cLine:=ig (Nat.add_le_add_left (by decide:2<=64) _) hr.units
theorem D0{H:Hp}:∀{xs:List V}{ps:List PI},Paired (T2 H) xs ps->∃as:List Addr,xs=as.map V.ref
 |_,_,.nil=>⟨[],rfl⟩
 |_,_,.cons ⟨a,e,_⟩ t=>by obtain⟨as,rfl⟩:=D0 t;exact⟨a::as,by rw[e];rfl⟩
theorem tO{α:Type}{l:List α}{i:Nat}{x:α}(h:l[i]? =some x):i<l.length:=(aq.mp h).1
theorem yN{κ:Type}[DecidableEq κ]{kf:κ->List Key}(hk:∀p q,kf p=kf q->p=q):∀(more kvs:List (κ×V)),kK (kvF kf kvs) (kvF kf more)=kvF kf (RM.cN kvs more)
 |[],kvs=>rfl
 |x::r,kvs=>by
  show kK (putK (kvF kf kvs) (kf x.1) x.2) (kvF kf r)=kvF kf (RM.cN (RM.d5 kvs x.1 x.2) r)
  rw[B5 hk,yN hk r]
theorem EM{L:List PI}(h:L.Nodup):kK [] (kvF k2 (KS L))=kvF k2 (KS L):=by have e:=yN (kf:=k2) (fun _ _=>BW) (KS L) [];rw[RM.qE (KS L) [] (by rw[xZ];exact h) (by intro k _ z;cases z),nil_append]at e;exact e
def cnt(σ:L2.St)(i:Nat):Nat:=match σ[i]? with|some (some (.int k))=>k.toNat|_=>0
theorem T2.SY{a:Addr}{H H':Hp}{v:V}{p:PI}{kvs:List (PI×V)}(h:T2 H v p)(e:But a H H')(ha:D2 H a kvs):T2 H' v p:=h.but e ha (by intro _ z;cases z)
theorem KD{α:Type}{ws:List α}{q:α}{n:Nat}(hn:ws.length=n)(hq:ws[n - 1]? =some q):ws=ws.dropLast++[q]:=by
 subst hn;have jn:ws≠[]:=by intro z;rw[z]at hq;cases hq
 have e:=(iu jn).symm;rw[List.getLast_eq_getElem]at e;have e2:=(aq.mp hq).2;rw[e2]at e;exact e
noncomputable def LS(H:Hp)(a:Addr)(ts:List PI3):Prop:=∃xs,H a=some (.lst xs)/\Paired (T3 H) xs ts
noncomputable def LLS(H:Hp)(a:Addr)(Fs:List (List PI3)):Prop:=∃bs:List Addr,H a=some (.lst (bs.map V.ref))/\Paired (LS H) bs Fs
theorem LS.mono{H H':Hp}{a:Addr}{ts:List PI3}(e:a9 H H')(h:LS H a ts):LS H' a ts:=let⟨xs,h1,h2⟩:=h;⟨xs,e _ _ h1,aK (fun _ _ q=>q.mono e) h2⟩
theorem LS.upd{H:Hp}{b D:Addr}{ts:List PI3}{xs:List V}{o:HO}(h:LS H b ts)(hD:H D=some (.lst xs))(n:b≠D):LS (L2.upd H D o) b ts:=by obtain⟨ys,q,pr⟩:=h;exact⟨ys,by rw[aB n];exact q,aK (fun _ _ z=>z.upd hD) pr⟩
theorem qP{α β:Type}{R:α->β->Prop}:∀{l:List α}{m:List β}{b:β},Paired R l (m++[b])->∃l' a,l=l'++[a]/\Paired R l' m/\R a b
 |_,[],_,.cons r .nil=>⟨[],_,rfl,.nil,r⟩
 |_,_::m,_,.cons r t=>by obtain⟨l',a,e,h1,h2⟩:=qP (m:=m) t;exact⟨_::l',a,by rw[e];rfl,.cons r h1,h2⟩
end L3
namespace L3
open PySem PySem.Spec PySem.Calls PyProof.Rows L2
section
variable {M:Model}{A:Around}{E:Value->Shared->Prop}
variable {nm q nm' q':Str}{C N C' N':Addr}{bs bm bs' bm':List Value}{hdct xl:Bool}{sn sn':List Str}{sub Ar:List Value}{ab ab':Bool}{col Dj:Option Bool}{dd ur:Option Addr}{k0 k1 k2 k3 k5 l0 l1 l2 l3 l5:Option Value}{kz si:String}
theorem uH{h:Heap}{g:Array GenState}{d:Drawn}{t:Nat}{os:OsState}{e:Addr}{oe:Obj}{Q:Bool->Shared->Prop}
  (hC:h.get? C=some (excClassObj nm q C N bs bm hdct sn sub ab col dd k0 k1 k2 k3 k5 kz)) (hD:h.get? C'=some (excClassObj nm' q' C' N' bs' bm' xl sn' Ar ab' Dj ur l0 l1 l2 l3 l5 si))
  (he:h.get? e=some oe) (px:oe.cls=.ref C) (my:bm'.contains (.type "BaseException")=true) (hno:(Value.ref C::bm).contains (.ref C')=false) (hq:Q false ⟨h,g,d,t,os⟩):wpAny M A (excMatches (.ref e) (.ref C')) Q E ⟨h,g,d,t,os⟩:=by
 have hcB:(Value.ref C'::bm').contains (.type "BaseException")=true:=by rw[List.contains_cons,my,Bool.or_true]
 have f:=tc_notTuple;unfold excMatches
 repeat (first|(with_reducible refine wpAny_loadPart_at he ?_;rw[px])|with_reducible refine wpAny_loadPart_at hD ?_|(with_reducible refine wpAny_isSubtype_exc hD ?_;rw[hcB])|(with_reducible refine wpAny_isSubtype_exc hC ?_;rw[hno])|wp_step)
 exact hq
end
noncomputable def cxL(P:Program)(w:World)(K:W.Frag)(mg:Str->Option Value)(base:Heap)(N:List Str)(qual:Str)(scope:Scope)(f:Addr)(cd:Value)(cl:List (Str×Addr))(A:Around)(outer:List Env)(s:Shared)(H:Hp)(E:XK):Cx where
 prog:=P
 w:=w
 K:=K
 mg:=mg
 base:=base
 A:=A.deeper (W.envX qual scope s.heap.objs.size f cd cl)
 N:=N
 s_0:=s
 H_0:=H
 env:=W.envX qual scope s.heap.objs.size f cd cl
 outer:=outer
 stack:=W.envX qual scope s.heap.objs.size f cd cl::outer
 ex:=[]
 calm:=true
 fn:=fun _=>false
 pn:=[]
 xe:=fun e s'=>wpAny (model P w) (A.deeper (W.envX qual scope s.heap.objs.size f cd cl)) (leaving (W.envX qual scope s.heap.objs.size f cd cl) e) (fun _ yg=>CXf outer H s E e yg) (fun e' yg=>CXf outer H s E e' yg) s'
section
variable {P:Program}{w:World}{K:W.Frag}{mg:Str->Option Value}{base:Heap}{N:List Str}{qual:Str}{scope:Scope}{f:Addr}{cd:Value}{cl:List (Str×Addr)}{A:Around}{outer:List Env}{s:Shared}{H:Hp}{E:XK}
theorem OE(ke:HOk P w H s.heap):Passes CXf (cxL P w K mg base N qual scope f cd cl A outer s H E) (fun c _ _=>E c none H):=by
 intro jj σ H1 s1 e s' I h;obtain⟨ae,C,rfl,⟨⟨a0,fl⟩,sl,os,bare⟩,hE⟩:=h;have zo:Heap.FlyingW (g9 s.heap H (frs outer++[])) (cxL P w K mg base N qual scope f cd cl A outer s H E).stack ae (.ref C) a0 s'.heap:=
  W.flyingW_base (fun b o q=>by
   obtain⟨z1,z2,z3,_⟩:=stays I ke (ex:=[]) (fun _ z=>z) q;exact gM z1 z2 (by rw[nV];exact z3)) fl
 refine wpAny_leaves_onW (L:=s.heap.objs.size) (outer:=outer) I.ok.frames rfl zo fun h2 fl3 up=>?_
 refine⟨ae,C,rfl,⟨⟨_,fl3⟩,fun b hb o q=>?_,os.trans I.os,bare⟩,hE⟩;have wg:b∈frs (cxL P w K mg base N qual scope f cd cl A outer s H E).stack:=by
  show b∈frs (_::outer)
  unfold frs;rw[fg];exact ar _ hb
 obtain⟨sl1,q1⟩:=kI I hb (by intro z;exact nomatch z) q;obtain⟨rq,q2⟩:=sl b wg _ q1;obtain⟨o3,q3,nf⟩:=(fl.2.2.1.mem (b:=b) wg).2;rw[q2]at q3;cases q3;obtain⟨zt,q4⟩:=up b _ q2 nf;exact⟨zt,q4⟩
theorem KG{k:Nat}{name:Str}{params:Arguments}{body:Expr}{pm Al:Value}{c':Addr}{Q:VK}{te:TE}{vs:List V}(hr:cT (k+1) A)(e0:oX P w K mg base A outer s H)
  (ho:s.heap.get? f=some (W.kla_obj name qual params body scope cl pm c' Al)) (nu:s.heap.CodeRec (.ref c') qual) (pz:bindArgs (W.kla_fn name qual params body scope cl pm (.ref c') Al) ⟨[],[]⟩=pure [])
  (hk:scope.kind=.function) (hco:scope.isCoroutine=false) (hgen:scope.isGenerator=false) (hnc:∀x∈scope.names,x.2≠ .cell) (hnl:∀x,scope.names.lookup x≠some .local) (hN:vs.length=N.length)
  (inj:∀x y c,cl.lookup x=some c->cl.lookup y=some c->x=y) (has:∀x,scope.names.lookup x=some .free->∃c,cl.lookup x=some c)
  (ni:∀x c,cl.lookup x=some c->H c=none/\∃v,s.heap.IsCell c v) (hv:∀(i:Nat)(x:Str)(v:V),N[i]? =some x->vs[i]? =some v->scope.names.lookup x=some .free->∃c u,cl.lookup x=some c/\RelV v u/\s.heap.IsCell c (some u))
  (Bt:cT k (A.deeper (W.envX qual scope s.heap.objs.size f (.ref c') cl))->HOk P w H s.heap->PE (cxL P w K mg base N qual scope f (.ref c') cl A outer s H E) body te) (hq:te (vs.map some) H Q):
  codeAny (model P w) A (.call (.ref f) ⟨[],[]⟩) (CR CXf outer P w H s Q E) s:=by
 have yl:s.heap.NoLimit:=e0.mod.nolimit.keeps fun b o e=>(e0.bs b o e).1
 refine W.kla_callFunE hr.depth ho rfl hco hgen rfl nu ?_;rw[pz];refine ag (wpAny_newFunctionEnv hnc (fun x hx=>nomatch hx) (fun h1 hns hsb=>?_) hk);have kp:∀b o,s.heap.get? b=some o->h1.get? b=some o:=fun b o e=>(hsb.2 b (cv (bq e))).trans (ao _ e)
 refine⟨yl.keeps kp,?_⟩;show codeAny _ _ (.expr body (W.envX qual scope s.heap.objs.size f (.ref c') cl)) _ _
 have cat:∀{c:Addr}{v:Option Value},s.heap.IsCell c v->h1.IsCell c v:=fun⟨o,e,d⟩=>⟨o,kp _ _ e,d⟩
 have I:Inv (cxL P w K mg base N qual scope f (.ref c') cl A outer s H E) [] (vs.map some) H {s with heap:=h1,toks:=s.toks+([]:List (Str×Value)).length}:=by
  refine⟨⟨e0.mod,hk,rfl,rfl,au _,inj,fun x hx=>?_,fun x c hx=>(nomatch hx),fun _=>hr.hd,Around.frames_deeper e0.frames,.inr ⟨rfl,rfl⟩,fun b z=>(nomatch z),e0.bs,e0.bsz,fun b _ _ z=>(nomatch z),fun b z=>(nomatch z),e0.kW,e0.frf⟩,
   rfl,e0.bare,Un.kept kp,⟨_,hns,fun i x v h1 h2 h3=>?_⟩,fun x c e=>?_,e0.hok.fresh (au _),fun x c e=>(ni x c e).1,fun p hp=>(nomatch hp),e0.hok.kept kp,by rw[ai];exact hN⟩
  ·rcases hx with hx|hx
   ·exact absurd rfl (hnc _ (PySem.mem_of_lookup (show scope.names.lookup x=some .cell from hx)))
   ·exact has x hx
  ·have e2:vs[i]? =some v:=by
    rw[bf]at h2;cases e:vs[i]? with
    |none=>rw[e]at h2;cases h2
    |some z=>rw[e]at h2;cases h2;rfl
   rcases h3 with h3|h3|h3
   ·exact absurd h3 (hnl x)
   ·exact absurd rfl (hnc _ (PySem.mem_of_lookup (show scope.names.lookup x=some .cell from h3)))
   ·obtain⟨c,u,a1,a2,a3⟩:=hv i x v h1 e2 h3;exact⟨u,a2,.inr ⟨.inr h3,c,a1,cat a3⟩⟩
  ·obtain⟨v,hcv⟩:=(ni x c e).2;exact⟨v,cat hcv⟩
 refine W.kla_codeExpr (wpAny_mono (Bt (hr.deeper _) e0.hok [] _ (vs.map some) H Q I hq) (fun u s' h=>?_) fun e s' h=>h);obtain⟨v,H',J,rv,q⟩:=h;exact⟨v,H',J.os,J.bare,J.base,J.hok,rv,q⟩
end
def Flat(H:Hp):Prop:=∀b,H b=none\/∃o u,H b=some (.frz o u)
def cxE(X:Cx)(xe:Value->Shared->Prop):Cx:={X with xe:=xe}
noncomputable def cxM(X:Cx)(e:Value)(xe:Value->Shared->Prop):Cx:={X with A:=X.A.mark (some e),calm:=false,xe:=xe}
section
variable {X:Cx}{jj:List (Addr×Obj)}{σ:L2.St}{H:Hp}{s:Shared}{e:Value}{xe:Value->Shared->Prop}
theorem KI(I:Inv X jj σ H s):Inv (cxE X xe) jj σ H s:=by obtain⟨⟨o1,o2,o3,o4,o5,o6,o7,o8,o9,Ay,o11,o12,o13,o14,o15,o16,o17,o18⟩,i1,i2,i3,i4,i5,i6,i7,i8,i9,yq⟩:=I;exact⟨⟨o1,o2,o3,o4,o5,o6,o7,o8,o9,Ay,o11,o12,o13,o14,o15,o16,o17,o18⟩,i1,i2,i3,i4,i5,i6,i7,i8,i9,yq⟩
theorem C0(I:Inv (cxE X xe) jj σ H s):Inv X jj σ H s:=by obtain⟨⟨o1,o2,o3,o4,o5,o6,o7,o8,o9,Ay,o11,o12,o13,o14,o15,o16,o17,o18⟩,i1,i2,i3,i4,i5,i6,i7,i8,i9,yq⟩:=I;exact⟨⟨o1,o2,o3,o4,o5,o6,o7,o8,o9,Ay,o11,o12,o13,o14,o15,o16,o17,o18⟩,i1,i2,i3,i4,i5,i6,i7,i8,i9,yq⟩
theorem DL(I:Inv X jj σ H s):Inv (cxM X e xe) jj σ H s:=by obtain⟨⟨o1,o2,o3,o4,o5,o6,o7,o8,o9,Ay,o11,o12,o13,o14,o15,o16,o17,o18⟩,i1,i2,i3,i4,i5,i6,i7,i8,i9,yq⟩:=I;exact⟨⟨o1,o2,o3,o4,o5,o6,o7,o8,fun z=>(nomatch z),Ay,o11,o12,o13,o14,o15,o16,o17,o18⟩,i1,i2,i3,i4,i5,i6,i7,i8,i9,yq⟩
theorem BZ(ok:X.Ok)(I:Inv (cxM X e xe) jj σ H s):Inv X jj σ H s:=by obtain⟨_,i1,i2,i3,i4,i5,i6,i7,i8,i9,yq⟩:=I;exact⟨ok,i1,i2,i3,i4,i5,i6,i7,i8,i9,yq⟩
theorem zM(I:Inv X jj σ H s)(fl:Flat H){C ae:Addr}{a0:Value}{s2:Shared}(hf:Heap.FlyingW (g9 s.heap H (frs X.stack++[])) X.stack ae (.ref C) a0 s2.heap)
  (sl:∀b∈frs X.stack,∀o,s.heap.get? b=some o->∃sl,s2.heap.get? b=some {o with slots:=sl}) (os:s2.os=s.os) (bare:AllBare s2.gens):Inv X jj σ H s2:=by
 have st:∀b o,s.heap.get? b=some o->b∉frs X.stack->s2.heap.get? b=some o:=fun b o e hb=>hf.1 b o (gM e (by rcases fl b with q|⟨o,u,q⟩<;>rw[q]<;>rfl) (by rw[nV];exact hb))
 have un:Un (frs X.stack) [] H H s.heap s2.heap:=
  ⟨fun b o e _ hb _=>st b o e hb,fun b o e _ hb _=>sl b hb o e,fun _ _ _ n _=>n,fun b o e _=>by
   by_cases hb:b∈frs X.stack
   ·obtain⟨sl,q⟩:=sl b hb o e;exact⟨_,q⟩
   ·exact⟨_,st b o e hb⟩,fun _ _ q=>q,fun _ _ _ q=>q,fun _ ps q=>⟨#[],by rw[q];simp⟩⟩
 refine I.DZ os un (fun a o e=>?_) bare (fun b z=>(nomatch z));have na:a∉frs X.stack:=fun z=>by have:=I.wO a z;rw[this]at e;cases e
 refine(I.hok a o e).nH (fun b u hb q=>?_) (fun b z=>z) (fun b xs z=>z);rcases hb with rfl|hb
 ·exact st b u q na
 ·rcases fl b with z|⟨_,_,z⟩<;>rw[z]at hb<;>cases hb
theorem sG{h:Heap}{l:List Env}{base h1 h2:Heap}(fr:h1.FunFrames base l)(sl:∀b∈frs l,∀o,h.get? b=some o->∃sl,h1.get? b=some {o with slots:=sl})(up:h1.UpToSlots h2):
  ∀b∈frs l,∀o,h.get? b=some o->∃sl,h2.get? b=some {o with slots:=sl}:=fun b hb o q=>by
 obtain⟨rq,q2⟩:=sl b hb o q;obtain⟨o3,q3,nf⟩:=(fr.mem (b:=b) hb).2;rw[q2]at q3;cases q3;obtain⟨zt,q4⟩:=up b _ q2 nf;exact⟨zt,q4⟩
end
structure HD where
 x:Str
 C:Addr
 k:Int
 np:Pos
 p1:Pos
 p2:Pos
 p3:Pos
 p4:Pos
 pos:Pos
noncomputable def HD.st(d:HD):Stmt:=.Return (some (.List [.UnaryOp .USub (.Constant (.int d.k) 0 d.p1) d.p2] d.p3)) d.p4
def HD.h(d:HD):ExceptHandler:=.ExceptHandler (some (.Name d.x d.np)) none [d.st] d.pos
noncomputable def gX(base:Heap)(C:Addr):Prop:=∃(nm q:Str)(N:Addr)(bs bm:List Value)(hdct:Bool)(sn:List Str)(sub:List Value)(ab:Bool)(col:Option Bool)(dd:Option Addr)(k0 k1 k2 k3 k5:Option Value)(kz:String),
 base.get? C=some (excClassObj nm q C N bs bm hdct sn sub ab col dd k0 k1 k2 k3 k5 kz)/\bm.contains (.type "BaseException")=true/\∀D,bm.contains (.ref D)=false
structure XW(X:Cx)(d:HD):Prop where
 bound:X.mg d.x=some (.ref d.C)
 gl:Gl X d.x
 cl:gX X.base d.C
 nd:(d.x==("__debug__" : Str))=false
section
variable {X:Cx}{jj:List (Addr×Obj)}{σ:L2.St}{H:Hp}{s:Shared}{e C:Addr}{Q:Flow->Shared->Prop}{E:Value->Shared->Prop}
theorem qX(I:Inv X jj σ H s)(hx:gX X.base C)(he:∃oe,s.heap.get? e=some oe/\oe.cls=.ref C):
  ∀(l:List HD),(∀d∈l,XW X d)->(∃d∈l,d.C=C) ->
   (∀d∈l,d.C=C->∀E',wpAny (model X.prog X.w) (X.A.mark (some (.ref e))) (setFlight (.ref e) none) (fun _ s1=>wpAny (model X.prog X.w) (X.A.mark (some (.ref e))) (execs [d.st] X.env) Q E' s1) E' s) ->
   wpAny (model X.prog X.w) X.A (handleBy (.ref e) X.env (l.map HD.h)) Q E s
 |[],_,ui,_=>by obtain⟨d,hd,_⟩:=ui;exact(nomatch hd)
 |d::r,hok,ui,jz=>by
  have ih:=qX I hx he r (fun d hd=>hok d (ar _ hd));obtain⟨oe,wa,px⟩:=he;have D:=hok d bb;obtain⟨nm,q,N,bs,bm,hdct,sn,sub,ab,col,dd,k0,k1,k2,k3,k5,kz,hC,hb,hn⟩:=hx;obtain⟨nm',q',N',bs',bm',xl,sn',Ar,ab',Dj,ur,l0,l1,l2,l3,l5,si,hC',tw,tm⟩:=D.cl;refine wpAny_handleBy_cons (codeAny_handlers_test (jJ (DL (e:=.ref e) (xe:=fun _ _=>False) I) D.gl D.bound ?_ D.nd)) (by intro q;cases q);by_cases hdc:d.C=C
  ·have Ai:=I.bk _ _ hC';have xn:oe.cls=.ref d.C:=by rw[px,hdc]
   exact wpAny_excMatches_sub_self (h:=s.heap) (g:=s.gens) Ai wa xn tw (codeAny_handlers_suite (jz d bb hdc _))
  ·refine uH (h:=s.heap) (g:=s.gens) (I.bk _ _ hC) (I.bk _ _ hC') wa px tw ?_ ?_
   ·rw[List.contains_cons,hn];simp[hdc]
   ·refine ih ?_ fun d hd=>jz d (ar _ hd)
    obtain⟨d2,h2,h3⟩:=ui;rcases ak.mp h2 with rfl|h2
    ·exact absurd h3 hdc
    ·exact⟨d2,h2,h3⟩
end
section
variable {P:Program}{w:World}{K:W.Frag}{mg:Str->Option Value}{base:Heap}
theorem LG{k:Nat}{f fl:Addr}{name qual:Str}{params:Arguments}{body:List Stmt}{scope:Scope}{dV kV kx pm jo ct oc:Value}{an od:Option Addr}{mf:Array (Option Value)}{A:Around}{outer:List Env}{s:Shared}{H:Hp}{Q:VK}{E:XK}{l:List HD}{d0:HD}{r0:List HD}{p1 p2 p3 p4:Pos}
  (lk:K.lookup f=some ⟨oc,od,.func (W.fnOf name qual params body scope dV kV kx pm an jo ct),mf⟩) (nu:W.codeIn K jo qual=true) (S:aL ["tell"] ["tell"] scope) (zf:scope.names.lookup ("tell" : Str)=some NameKind.local)
  (ko:body=[.Try [.Return (some (.Call (.Name "tell" p1) [] [] p2)) p3] (l.map HD.h) [] [] p4]) (hl:l=d0::r0)
  (hr:cT (k+1) A) (e0:oX P w K mg base A outer s H) (hb:BindsTo s (W.fnOf name qual params body scope dV kV kx pm an jo ct) ⟨[.ref fl],[]⟩ ([("tell" : Str)].zip [.ref fl])) (flat:Flat H)
  (hd:∀d∈l,mg d.x=some (.ref d.C)/\scope.names.lookup d.x=some .globalImplicit/\gX base d.C/\(d.x==("__debug__" : Str))=false)
  (Cm:W.FnAt fl s.heap) (hH:H fl=none) (hno:fl∉frs outer)
  (Cs:∀(A1:Around)(qh:List Env)(s1:Shared),cT k A1->oX P w K mg base A1 qh s1 H->(∀b o,s.heap.get? b=some o->H b=none->b∉frs outer->s1.heap.get? b=some o) ->
   codeAny (model P w) A1 (.call (.ref fl) ⟨[],[]⟩) (CR CXf qh P w H s1 Q (fun c _ _=>∃C,c=.ref C/\(∃d∈l,d.C=C)/\∀d∈l,d.C=C->∀p,H p=none->Q (.ref p) (upd H p (.lst [.int (-d.k)])))) s1):
  codeAny (model P w) A (.call (.ref f) ⟨[.ref fl],[]⟩) (CR CXf outer P w H s Q E) s:=by
 have KX:K.In s.heap:=e0.mod.kin.keeps fun b o e=>(e0.bs b o e).1
 have yl:s.heap.NoLimit:=e0.mod.nolimit.keeps fun b o e=>(e0.bs b o e).1
 have pj:∀y∈[("tell" : Str)].zip [Value.ref fl],scope.names.lookup y.1=some .local\/(scope.names.lookup y.1=some .cell/\((cellsFrom (s.heap.objs.size+1) scope.names []).lookup y.1).isSome=true):=fun⟨n,v⟩ hy=>by
  rcases S.par n (of_mem_zip hy).1 with q|q
  ·exact .inl q
  ·exact .inr ⟨q,W.cellsFrom_some _ _ _ (.inl q)⟩
 refine codeAny_call_function hr.depth (KX _ _ lk) rfl S.co S.gen rfl (W.codeRec_of KX nu) (hb _ _ _ _ ?_);refine wpAny_newFunctionEnv_cells S.kind pj fun env he s1 x=>?_
 subst he;refine⟨yl.keeps x.toInCall.keep,codeAny_func ?_⟩;have I:Inv (cxF P w K mg base ["tell"] qual scope f jo A outer s H E) [] (start ["tell"] [.ref fl]) H s1:=pV S hr.hd e0 rfl (.cons rfl .nil) x;have yy:=hr.deeper (envOfC qual scope s.heap.objs.size f jo);let X:=cxF P w K mg base ["tell"] qual scope f jo A outer s H E
 have main:wpAny (model P w) X.A (execs body X.env) (SP X [] {nx:=fun _ _=>False,rt:=Q}) X.xe s1:=by
  rw[ko,hl];have after:∀(f:Flow)(s1:Shared),SP X [] {nx:=fun _ _=>False,rt:=Q} f s1->(match f with| .next=>wpAny (model P w) X.A (execs [] X.env) (SP X [] {nx:=fun _ _=>False,rt:=Q}) X.xe s1|f=>SP X [] {nx:=fun _ _=>False,rt:=Q} f s1):=fun f s1 q=>by
   cases f with
   |next=>exact wpAny_execs_nil q
   |ret v=>exact q
   |brk=>exact q
   |cont=>exact q
  refine wpAny_execs_cons (wpAny_mono (wpAny_Try_except (Q:=SP X [] {nx:=fun _ _=>False,rt:=Q}) ?_) after fun _ _ q=>q);have hv:∀E',wpAny (model P w) X.A (eval (.Name "tell" p1) X.env) (EP (cxE X E') [] (start ["tell"] [.ref fl]) (fun v H'=>v=V.ref fl/\H'=H)) E' s1:=fun E'=>
   HB (X:=cxE X E') (i:=0) rfl (.inl zf) (by decide) (by decide) [] s1 _ H (fun v H'=>v=V.ref fl/\H'=H) (KI I) ⟨.ref fl,rfl,rfl,rfl⟩
  refine wpAny_execs_cons (wpAny_Return_some (wpAny_Call_Name_kw (thn (hv _) fun u s2 hu=>?_)));obtain⟨v,H',J,rv,rfl,rfl⟩:=hu;obtain rfl:u=.ref fl:=rv;have J:=C0 J;have kp:∀b o,s.heap.get? b=some o->H' b=none->b∉frs outer->s2.heap.get? b=some o:=fun b o e1 e2 e3=>J.base.keep b o e1 e2 e3 (by intro z;exact(nomatch z))
  have fn2:W.FnAt fl s2.heap:=by obtain⟨a1,a2,a3,a4,a5⟩:=Cm;exact⟨a1,a2,a3,a4,kp _ _ a5 hH hno⟩
  refine W.callWith_F0 fn2 (wpAny_call (codeAny_mono (Cs _ _ s2 yy J.IT kp) fun r s' hq=>?_));cases r with
  |ok f1=>
   cases f1 with
   |ret u=>obtain⟨v,H3,J3,rv3,q3⟩:=J.after hq;exact⟨v,_,H3,J3,rv3,q3⟩
   |next=>exact False.elim hq
   |brk=>exact False.elim hq
   |cont=>exact False.elim hq
  |error e=>
   obtain⟨ae,C,rfl,⟨⟨a0,fly⟩,sl,os,bare⟩,C2,xn,ui,hE⟩:=hq;cases xn;refine wpAny_looks_onW J.ok.frames rfl fly fun h4 wb up4=>?_
   refine wpAny_landsW wb fun h5 wq up5=>?_
   have sl4:=sG fly.2.2.1 sl up4;have sl5:=sG wb.2.2.1 sl4 up5;have J5:Inv (cxF P w K mg base ["tell"] qual scope f jo A outer s H' E) [] _ H' {s' with heap:=h5}:=zM J flat wq sl5 os bare;have hx:gX base C:=by obtain⟨d,h1,rfl⟩:=ui;exact(hd d h1).2.2.1
   have Co:∃oe,h5.get? ae=some oe/\oe.cls=.ref C:=by obtain⟨oe,ws,a1,a2,_⟩:=wq.first;exact⟨oe,a1,a2⟩
   rw[<- bh (f:=HD.h),<- hl];refine qX (X:=cxF P w K mg base ["tell"] qual scope f jo A outer s H' E) J5 hx Co l (fun d h1=>⟨(hd d h1).1,(hd d h1).2.1,(hd d h1).2.2.1,(hd d h1).2.2.2⟩) ui fun d h1 h2 E'=>?_
   refine lands_againW wq fun h6 fly6 up6=>?_
   have sl6:=sG wq.2.2.1 sl5 up6;have J6:Inv (cxF P w K mg base ["tell"] qual scope f jo A outer s H' E) [] _ H' {s' with heap:=h6}:=zM J flat fly6 sl6 os bare;have hrun:=aD (X:=cxM (cxF P w K mg base ["tell"] qual scope f jo A outer s H' E) (.ref ae) fun _ _=>False) (aQ (pos:=d.p4) (fF (pos:=d.p3) (a7 (LL (pos:=d.p2) G9 (aM (i:=d.k) (j:=0) (pos:=d.p1))) aC)))
    [] _ _ H' {nx:=fun _ _=>False,rt:=Q} (DL J6) ⟨d.k,rfl,(by show 1<=sizeLine;decide),fun p hp=>hE d h1 h2 p hp⟩
   refine wpAny_mono hrun (fun f s3 q=>?_) fun _ _ q=>q.elim
   cases f with
   |next=>obtain⟨_,_,_,q⟩:=q;exact q.elim
   |brk=>obtain⟨_,_,_,q⟩:=q;exact q.elim
   |cont=>obtain⟨_,_,_,q⟩:=q;exact q.elim
   |ret u=>obtain⟨v,σ',H3,J3,rv3,q3⟩:=q;exact⟨v,σ',H3,BZ J6.ok J3,rv3,q3⟩
 refine wpAny_mono main (fun fl s' hs=>?_) fun e s' hs=>hs
 cases fl with
 |ret u=>obtain⟨v,σ',H',J,rv,q⟩:=hs;exact⟨v,H',J.os,J.bare,J.base,J.hok,rv,q⟩
 |next=>obtain⟨_,_,_,q⟩:=hs;exact False.elim q
 |brk=>obtain⟨_,_,_,q⟩:=hs;exact False.elim q
 |cont=>obtain⟨_,_,_,q⟩:=hs;exact False.elim q
end
noncomputable def NQ(mg:Str->Option Value)(h:Heap):Prop:=∃bm ob,mg "__builtins__" =some (.ref bm)/\bm≠builtinsNs/\bm≠mainGlobals/\h.get? bm=some ob/\ob.cls=.type "module" /\ob.dict=some builtinsNs/\ob.data=.plain
noncomputable def XA(l:List HD)(H:Hp)(Q:VK):XK:=fun c _ _=>∃C,c=.ref C/\(∃d∈l,d.C=C)/\∀d∈l,d.C=C->∀p,H p=none->Q (.ref p) (upd H p (.lst [.int (-d.k)]))
def hT(H:Hp)(T:Addr)(ps:Array Value):Hp:=upd H T (.frz (W.tabObj ps) (.tbl ps))
noncomputable def TY(T:Addr)(l:List HD)(pos:Pos)(teL:XK->Hp->TE):TE:=fun σ H Q=>∃(vs:List V)(ps:Array Value),σ=vs.map some/\H T=some (.tbl ps)/\TriplesOk ps.toList/\codeAmong pos ps.toList=none/\
 (∀b,b≠T->H b=none\/∃o u,H b=some (.frz o u))/\∀more,teL (XA l (hT H T (ps++more)) (fun v H3=>H3 T=some (.frz (W.tabObj (ps++more)) (.tbl (ps++more)))->Q v (upd H3 T (.tbl (ps++more))))) (hT H T (ps++more)) (vs.map some) (hT H T (ps++more))
  (fun v H3=>H3 T=some (.frz (W.tabObj (ps++more)) (.tbl (ps++more)))->Q v (upd H3 T (.tbl (ps++more))))
section
variable {X:Cx}
theorem NJ{cells:List (Str×Addr)}{names:List (Str×NameKind)}(hf:∀y∈names,y.2=.free->∃c,cells.lookup y.1=some c){x:Str}{c:Addr}(h:(bF cells names []).lookup x=some c):(x,NameKind.free)∈names/\cells.lookup x=some c:=by
 rcases fO (PySem.mem_of_lookup h)with h|⟨h1,h2⟩
 ·exact(nomatch h)
 ·obtain⟨c2,h3⟩:=hf _ h1 rfl;have h3:cells.lookup x=some c2:=h3;rw[h3]at h2;exact⟨h1,by rw[h3,h2];rfl⟩
theorem DY{cells:List (Str×Addr)}{names:List (Str×NameKind)}{x:Str}(h:names.lookup x=some .free):∃c,(bF cells names []).lookup x=some c:=mem_lookup (iA (PySem.mem_of_lookup h))
theorem MH{k:Nat}{x:Str}{f:Addr}{name qual:Str}{params:Arguments}{body:List Stmt}{scope:Scope}{dV kV kx pm jo ct oc:Value}{an od:Option Addr}{mf:Array (Option Value)}{l:List HD}{d0:HD}{r0:List HD}{p1 p2 p3 p4 p Av pos:Pos}
  {jw:Arguments}{lr:Expr}{jm:Scope}{c T:Addr}{teL:XK->Hp->TE}
  (hm:X.mg x=some (.ref f)) (lk:X.K.lookup f=some ⟨oc,od,.func (W.fnOf name qual params body scope dV kV kx pm an jo ct),mf⟩) (nu:W.codeIn X.K jo qual=true) (hkp:W.keepIn X.K (.ref f)=true)
  (hb:Binds X.K (W.fnOf name qual params body scope dV kV kx pm an jo ct) ["tell"] []) (S:aL ["tell"] ["tell"] scope) (zf:scope.names.lookup ("tell" : Str)=some NameKind.local)
  (ko:body=[.Try [.Return (some (.Call (.Name "tell" p1) [] [] p2)) p3] (l.map HD.h) [] [] p4]) (hl:l=d0::r0)
  (hd:∀d∈l,X.mg d.x=some (.ref d.C)/\scope.names.lookup d.x=some .globalImplicit/\gX X.base d.C/\(d.x==("__debug__" : Str))=false)
  (hg:Gl X x) (rb:(x==("__debug__" : Str))=false) (hr:cT (k+2) X.A) (Cj:∀y,X.fn y=true)
  (Cq:X.env.code=.ref c) (hC:W.CodeHd X.base c T) (hbm:NQ X.mg X.base)
  (hdef:defaultsOf jw X.env=([],[])) (pz:∀(cl:List (Str×Addr))(pm cd ct:Value),bindArgs (W.kla_fn "<lambda>" (X.env.qual++ "<lambda>") jw lr jm cl pm cd ct) ⟨[],[]⟩=pure [])
  (hkL:jm.kind=.function) (hcoL:jm.isCoroutine=false) (Ci:jm.isGenerator=false) (hncL:∀y∈jm.names,y.2≠ .cell) (hnlL:∀y,jm.names.lookup y≠some .local)
  (vy:∀y∈jm.names,y.2=.free->X.env.kindOf y.1=some .cell)
  (Bt:∀(fl c':Addr)(cl:List (Str×Addr))(A:Around)(outer:List Env)(s:Shared)(H:Hp)(E:XK),cT k (A.deeper (W.envX (X.env.qual++ "<lambda>") jm s.heap.objs.size fl (.ref c') cl))->HOk X.prog X.w H s.heap ->
   PE (cxL X.prog X.w X.K X.mg X.base X.N (X.env.qual++ "<lambda>") jm fl (.ref c') cl A outer s H E) lr (teL E H))
  (vk:starEach [.Lambda jw lr jm pos] X.env=(false,eval (.Lambda jw lr jm pos) X.env)::starEach [] X.env:=by rfl):
  PE X (.Call (.Name x p) [.Lambda jw lr jm pos] [] Av) (TY T l pos teL):=by
 intro jj s σ H Q I h;obtain⟨vs,ps,rfl,wj,htri,Aa,Ck,hL⟩:=h;have kn:∀y∈jm.names,y.2=.free->∃c,X.env.cells.lookup y.1=some c:=fun y hy e=>I.ok.has _ (.inl (vy y hy e))
 have xw:X.base.get? T=none:=by
  cases q:X.base.get? T with
  |none=>rfl
  |some o=>have:=(I.bs T o q).2;rw[wj]at this;cases this
 have hPt:s.heap.get? T=some (W.tabObj ps):=I.hok T _ wj;have hgs:=I.ok.mod.glob;have hgP:mainGlobals≠T:=fun q=>by obtain⟨o,es,ep,e,_⟩:=hgs;rw[q,xw]at e;cases e
 have hbmT:s.heap.BuiltinsAt X.mg T:=by obtain⟨bm,ob,b1,b2,b3,b4,b5,b6,b7⟩:=hbm;exact⟨bm,ob,b1,b2,b3,(fun q=>by rw[q,xw]at b4;cases b4),I.bk _ _ b4,b5,b6,b7⟩
 refine wpAny_Call_Name_kw (jJ I hg hm ?_ rb);refine W.callWith_K (h₀:=X.base) I.ok.mod.kin hkp ?_ vk rfl;rw[vk];show wpAny _ _ (spliced ((false,eval (.Lambda jw lr jm pos) X.env)::backTo Av (starEach [] X.env))) _ _ s
 refine Calls.spliced_cons (W.kla_eval hdef (W.kla_makeFunction (mX kn) I.ok.glob (hgs.keeps I.bk) Cq (hC.keeps I.bk) hPt htri Aa hgP hbmT fun c' Al h' tk hx zj jr yx mx=>Calls.spliced_nil ?_));generalize ni:bF X.env.cells jm.names []=cl;generalize hps:ps++#[rawInt pos.line,rawInt pos.col,Value.ref c']=ps' at mx;generalize qi:({s with heap:=h'.push (W.kla_obj "<lambda>" (X.env.qual++ "<lambda>") jw lr jm cl ((X.mg "__name__").getD .none) c' Al),toks:=tk}:Shared)=s2;have e2:s2.heap=h'.push (W.kla_obj "<lambda>" (X.env.qual++ "<lambda>") jw lr jm cl ((X.mg "__name__").getD .none) c' Al):=by rw[<- qi]
 have kp:∀b o,b≠T->s.heap.get? b=some o->s2.heap.get? b=some o:=fun b o n e=>by rw[e2];exact ao _ (hx b o n e)
 have uv:s2.heap.get? T=some (W.tabObj ps'):=by rw[e2];exact ao _ mx
 have szT:T<s.heap.objs.size:=bq hPt;have nT:∀b u,H b=some u->(∀q,u≠ .tbl q)->b≠T:=fun b u e n z=>by rw[z,wj]at e;cases e;exact n _ rfl
 have un1:Un X.fs [] H (upd H T (.tbl ps')) s.heap s2.heap:=
  ⟨fun b o e n _ _=>kp b o (fun z=>by rw[z,wj]at n;cases n) e,fun b o e n _ _=>⟨o.slots,kp b o (fun z=>by rw[z,wj]at n;cases n) e⟩,
   fun b o e n _=>by rw[aB (fun z=>by rw[z,wj]at n;cases n)];exact n,
   fun b o e _=>by
    by_cases z:b=T
    ·exact⟨_,z▸uv⟩
    ·exact⟨_,kp b o z e⟩,
   fun b xs e=>by rw[aB (nT b _ e fun q z=>nomatch z)];exact e,fun b o u e=>by rw[aB (nT b _ e fun q z=>nomatch z)];exact e,
   fun b q e=>by
    by_cases z:b=T
    ·rw[z,wj]at e;cases e;exact⟨_,by rw[z,a8,<- hps]⟩
    ·exact⟨#[],by rw[aB z,e];simp⟩⟩
 have xg:∀(H':Hp),(∀b,b≠T->H' b=H b)->∀a o,a≠T->H' a=some o->cO X.prog X.w H' s2.heap a o:=fun H' he a o na e=>by
  rw[he a na]at e;refine(I.hok a o e).nH (fun b u hb q=>?_) (fun b z=>?_) (fun b xs z=>?_)
  ·refine kp b u ?_ q;rcases hb with rfl|hb
   ·exact na
   ·exact nT b _ hb fun q z=>nomatch z
  ·rw[he b (nT b _ z fun q z=>nomatch z)];exact z
  ·rw[he b (nT b _ z fun q z=>nomatch z)];exact z
 have hok1:HOk X.prog X.w (upd H T (.tbl ps')) s2.heap:=fun a o e=>by
  by_cases z:a=T
  ·rw[z,a8]at e;cases e;subst z;exact uv
  ·exact xg _ (fun b n=>aB n) a o z e
 have I2:Inv X jj (vs.map some) (upd H T (.tbl ps')) s2:=by have:=I.un (t':=tk) (h':=s2.heap) un1 hok1;rw[<- qi]at this ⊢;exact this
 have hok2:HOk X.prog X.w (hT H T ps') s2.heap:=fun a o e=>by
  by_cases z:a=T
  ·unfold hT at e;rw[z,a8]at e;cases e;subst z;exact⟨uv,uv⟩
  ·exact xg _ (fun b n=>aB n) a o z e
 have hT_ne:∀b,b≠T->hT H T ps' b=upd H T (.tbl ps') b:=fun b n=>by unfold hT;rw[aB n,aB n]
 have none_ne:∀b,upd H T (.tbl ps') b=none->b≠T:=fun b e z=>by rw[z,a8]at e;cases e
 have E0:oX X.prog X.w X.K X.mg X.base X.A X.stack s2 (hT H T ps'):=by have e:=I2.IT;exact⟨e.frames,e.mod,fun b o q=>⟨(e.bs b o q).1,by rw[hT_ne b (none_ne b (e.bs b o q).2)];exact(e.bs b o q).2⟩,e.bsz,e.kW,fun b hb=>by rw[hT_ne b (none_ne b (e.frf b hb))];exact e.frf b hb,hok2,e.bare⟩
 refine⟨I2.kIn,?_⟩;have Df:Flat (hT H T ps'):=fun b=>by
  by_cases z:b=T
  ·exact .inr ⟨_,_,by unfold hT;rw[z,a8]⟩
  ·rw[hT_ne b z,aB z];exact Ck b z
 have oo:∀b,s.heap.objs.size<=b->hT H T ps' b=none:=fun b hb=>by
  have n:b≠T:=fun z=>absurd szT (by rw[<- z];exact not_lt.mpr hb)
  rw[hT_ne b n,aB n];exact I.hok.fresh hb
 have sg:∀b,s.heap.objs.size<=b->b∉frs X.stack:=fun b hb z=>by obtain⟨_,o,ho,_⟩:=I.stack.mem z;exact absurd (bq ho) (not_lt.mpr hb)
 have vz:s.heap.objs.size<=h'.objs.size:=le_of_lt (ig zj jr);have flo:s2.heap.get? h'.objs.size=some (W.kla_obj "<lambda>" (X.env.qual++ "<lambda>") jw lr jm cl ((X.mg "__name__").getD .none) c' Al):=by rw[e2];exact az _ rfl
 have zp:∀y c,X.env.cells.lookup y=some c->c∉frs X.stack:=fun y c hy z=>by
  rcases ak.mp (I2.sC c z)with q|q
  ·exact I2.cne y c hy q
  ·obtain⟨_,o,ho,_⟩:=I2.ok.kW.mem q;exact absurd (bq ho) (not_lt.mpr (I2.ok.cab y c (Cj y) hy))
 have qc:∀y c,X.env.cells.lookup y=some c->hT H T ps' c=none:=fun y c hy=>by have q:=I2.hY y c hy;rw[hT_ne c (none_ne c q)];exact q
 have run:=LG (fl:=h'.objs.size) (E:=fun _ _ _=>False) (k:=k+1) lk nu S zf ko hl hr E0 (hb s2 [.ref h'.objs.size] I2.kIn rfl) Df hd ⟨_,_,_,_,flo⟩ (oo _ vz) (sg _ vz)
  (Q:=fun v H3=>H3 T=some (.frz (W.tabObj ps') (.tbl ps'))->Q v (upd H3 T (.tbl ps'))) fun A1 qh s1 hr1 e1 kp1=>?_
 ·refine wpAny_call (codeAny_mono run fun r s3 hq=>?_);cases r with
  |error e=>obtain⟨_,_,_,_,z⟩:=hq;exact z.elim
  |ok fl=>
   cases fl with
   |next=>exact False.elim hq
   |brk=>exact False.elim hq
   |cont=>exact False.elim hq
   |ret u=>
    obtain⟨v,H3,os,bare,un,Bv,rv,q⟩:=hq;have h3T:H3 T=some (.frz (W.tabObj ps') (.tbl ps')):=un.oJ T _ _ (by unfold hT;rw[a8]);have n3:∀b u,H3 b=some u->(∀o q,u≠ .frz o q)->b≠T:=fun b u e n z=>by rw[z,h3T]at e;cases e;exact n _ _ rfl
    have fr2:∀b,upd H T (.tbl ps') b=none->hT H T ps' b=none:=fun b e=>by rw[hT_ne b (none_ne b e)];exact e
    have un4:Un (frs X.stack) [] (upd H T (.tbl ps')) (upd H3 T (.tbl ps')) s2.heap s3.heap:=
     ⟨fun b o e n hb hx=>un.keep b o e (fr2 b n) hb hx,fun b o e n hb hx=>un.slot b o e (fr2 b n) hb hx,fun b o e n hx=>by rw[aB (none_ne b n)];exact un.free b o e (fr2 b n) hx,un.there,
      fun b xs e=>by
       have n:b≠T:=fun z=>by rw[z,a8]at e;cases e
       rw[aB n];exact un.kD b xs (by rw[hT_ne b n];exact e),
      fun b o u e=>by
       have n:b≠T:=fun z=>by rw[z,a8]at e;cases e
       rw[aB n];exact un.oJ b o u (by rw[hT_ne b n];exact e),
      fun b q e=>by
       by_cases z:b=T
       ·rw[z,a8]at e;cases e;exact⟨#[],by rw[z,a8];simp⟩
       ·rw[aB z];exact un.rY b q (by rw[hT_ne b z];exact e)⟩
    have hok4:HOk X.prog X.w (upd H3 T (.tbl ps')) s3.heap:=fun a o e=>by
     by_cases z:a=T
     ·rw[z,a8]at e;cases e;subst z;exact(Bv a _ h3T).1
     ·rw[aB z]at e;refine(Bv a o e).nH (fun b u _ q=>q) (fun b z=>?_) (fun b xs z=>?_)
      ·rw[aB (n3 b _ z fun _ _ z=>nomatch z)];exact z
      ·rw[aB (n3 b _ z fun _ _ z=>nomatch z)];exact z
    exact⟨v,upd H3 T (.tbl ps'),I2.DZ os un4 hok4 bare (fun b z=>(nomatch z)),rv,q h3T⟩
 ·have c1:∀y c,cl.lookup y=some c->X.env.cells.lookup y=some c:=fun y c e=>by rw[<- ni]at e;exact(NJ kn e).2
  have cat:∀y c v,X.env.cells.lookup y=some c->s2.heap.IsCell c v->s1.heap.IsCell c v:=fun y c v hy ⟨o,e,q⟩=>⟨o,kp1 _ _ e (qc y c hy) (zp y c hy),q⟩
  have jt:vs.length=X.N.length:=by have:=I.len;rw[ai]at this;exact this
  refine KG (k:=k) (te:=teL (XA l (hT H T ps') fun v H3=>H3 T=some (.frz (W.tabObj ps') (.tbl ps'))->Q v (upd H3 T (.tbl ps'))) (hT H T ps')) (vs:=vs) (N:=X.N) hr1 e1 (kp1 _ _ flo (oo _ vz) (sg _ vz)) ?_ (pz _ _ _ _) hkL hcoL Ci hncL hnlL jt ?_ ?_ ?_ ?_ (fun a b=>Bt _ _ _ _ _ _ _ _ a b) (by rw[<- hps];exact hL _)
  ·obtain⟨c3,oc3,vs3,t3,h1,h2,h3,h4⟩:=yx;cases h1;exact⟨c',oc3,vs3,t3,rfl,kp1 _ _ (by rw[e2];exact ao _ h2) (oo _ zj) (sg _ zj),h3,h4⟩
  ·intro y z c h1 h2;exact I.ok.inj y z c (c1 y c h1) (c1 z c h2)
  ·intro y hy;rw[<- ni];exact DY hy
  ·intro y c h1;have h2:=c1 y c h1;obtain⟨v,h3⟩:=I2.cell y c h2;exact⟨qc y c h2,v,cat y c v h2 h3⟩
  ·intro i y v h1 h2 h3;have hk:=vy _ (PySem.mem_of_lookup h3) rfl;obtain⟨m,_,hlk⟩:=I2.loc;obtain⟨u,ru,lku⟩:=hlk i y v h1 (by rw[bf,h2];rfl) (.inr (.inl hk));obtain⟨c,hc⟩:=DY (cells:=X.env.cells) h3;rw[ni]at hc;refine⟨c,u,hc,ru,?_⟩;rcases lku with⟨qy,_⟩|⟨_,c2,xn,nz⟩
   ·rw[show X.env.kindOf y=some .cell from hk]at qy;cases qy
   ·have:=c1 y c hc;rw[this]at xn;cases xn;exact cat y c _ this nz
end
theorem uR{P:Params}{h:Heap}:∀{vs:List Value}{ns:List Int},W.WellAll P h vs (ns.map W.WData.int)->IntsAre vs ns
 |vs,[],h=>by cases h;exact .nil
 |vs,n::ns,h=>by
  cases h with
  |cons h r=>cases h with
   |int i t=>exact .cons n t (uR r)
theorem vV:∀{vs:List Value}{ns ms:List Int},IntsAre vs ns->IntsAre vs ms->ns=ms
 |_,_,_,.nil,h=>by cases h;rfl
 |_,_,_,.cons n t h,g=>by
  cases g with
  |cons m u g=>rw[vV h g]
theorem sN{R:W.WRecords}{cl:Str->Option Addr}{h:Heap}:∀{ns:List Int}{its:List Value},Vals (ns.map V.int) its->W.ReadsAllW R cl h its (ns.map W.WData.int) []
 |[],_,.nil=>.nil
 |n::ns,_,.cons ⟨t,e⟩ r=>by subst e;exact .cons (as:=[]) (.int n t) (sN r)
noncomputable def oZ(tb:Addr)(H:Hp):Prop:=H tb=some (.tbl #[])/\∀b,b≠tb->H b=none\/∃o xs,H b=some (.frz o (.lst xs))
theorem oZ.flat{tb:Addr}{H:Hp}(h:∀b,b≠tb->H b=none\/∃o xs,H b=some (.frz o (.lst xs)))(b:Addr)(n:b≠tb):H b=none\/∃o u,H b=some (.frz o u):=(h b n).imp (fun q=>q) fun⟨o,xs,q⟩=>⟨o,_,q⟩
abbrev HV(vs:List Value):Obj:={cls:=.type "list",data:=.seq vs.toArray}
noncomputable def xT(K:W.Frag)(tb:Addr)(LA:List (Addr×List Value×List Int)):Hp:=fun b=>if b=tb then some (.tbl #[])else
 match K.lookup b with
 |some _=>none
 |none=>(LA.lookup b).map fun p=>.frz (HV p.1) (.lst (p.2.map V.int))
theorem F0{P:Program}{w:World}{K:W.Frag}{mg mb:Str->Option Value}{k:Nat}{fa tb:Addr}{fd:FuncData}{ps:List Str}{sp:Sp}{s1:Shared}{mj:List Value}{vs:List V}{LA:List (Addr×List Value×List Int)}{R:List Int->Prop}
  (KX:K.In s1.heap) (hns:s1.heap.Ns mainGlobals mg) (hb:s1.heap.Ns builtinsNs mb) (hbb:∀x:Str,x≠ "__name__" ->mb x=bootBuiltins x) (hlim:s1.heap.NoLimit) (hg:s1.gens=#[])
  (Cw:∀p∈LA,s1.heap.get? p.1=some (HV p.2.1)/\IntsAre p.2.1 p.2.2/\p.2.2.length<=sizeLine)
  (mx:s1.heap.get? tb=some (W.tabObj #[])) (hct:isCodeTable s1.heap tb) (Cy:K.lookup tb=none) (hr:cT k callerA) (rv:Vals vs mj)
  (F:∀base:Heap,Mod K mg base->(∀b o,s1.heap.get? b=some o->o.cls≠ .type "list" ->b≠tb->base.get? b=some o)->bI P w K mg base CXf k fa fd ps sp)
  (pz:BindsTo s1 fd ⟨mj,[]⟩ (ps.zip mj))
  (sv:∀H:Hp,oZ tb H->(∀p∈LA,SqL K H p.1 (p.2.2.map V.int))->sp vs H (fun v H'=>∃p ns,v=.ref p/\H' p=some (.lst (ns.map V.int))/\R ns) fun _ _ _=>False):
  codeAny (model P w) callerA (.call (.ref fa) ⟨mj,[]⟩) (fun r s'=>(∃p its n ns,r=.ok (.ret (.ref p))/\s'.heap.get? p=some {cls:=.type "list",data:=.seq (List.toArray its) n}/\Vals (ns.map V.int) its/\R ns)/\OldK s1.heap s'.heap/\s'.os=s1.os/\AllBare s'.gens) s1:=by
 have find:∀{b:Addr}{x:List Value×List Int},LA.lookup b=some x->(b,x)∈LA:=fun{b x} e=>by
  have:∀l:List (Addr×List Value×List Int),l.lookup b=some x->(b,x)∈l:=by
   intro l;induction l with
   |nil=>intro e;cases e
   |cons y r ih=>
    intro e;rw[gd]at e;cases q:b==y.1 with
    |true=>rw[q]at e;cases e;rw[eq_of_beq q];exact bb
    |false=>rw[q]at e;exact ar _ (ih e)
  exact this LA e
 generalize hH:xT K tb LA=H;have Htb:H tb=some (.tbl #[]):=by rw[<- hH];unfold xT;rw[ah rfl]
 have cases_H:∀b,b≠tb->H b=none\/∃x,K.lookup b=none/\(b,x)∈LA/\H b=some (.frz (HV x.1) (.lst (x.2.map V.int))):=fun b n=>by
  rw[<- hH];unfold xT;rw[af n];cases e:K.lookup b with
  |some o=>exact .inl rfl
  |none=>
   cases q:LA.lookup b with
   |none=>exact .inl rfl
   |some x=>exact .inr ⟨x,rfl,find q,rfl⟩
 have hAt:oZ tb H:=⟨Htb,fun b n=>by
  rcases cases_H b n with q|⟨x,_,_,q⟩
  ·exact .inl q
  ·exact .inr ⟨_,_,q⟩⟩
 have hS:∀p∈LA,SqL K H p.1 (p.2.2.map V.int):=fun p hp=>by
  obtain⟨h1,h2,h3⟩:=Cw p hp;have n:p.1≠tb:=fun z=>by rw[z,mx]at h1;cases h1
  cases e:K.lookup p.1 with
  |some o=>have q:=KX _ _ e;rw[h1]at q;cases q;exact .inr ⟨_,p.2.1.toArray,_,e,rfl,rfl,rfl,by rw[bj,h2.length];exact h3,by simpa using p9 h2⟩
  |none=>
   have q:∃x,LA.lookup p.1=some x:=by
    have:∀l:List (Addr×List Value×List Int),p∈l->∃x,l.lookup p.1=some x:=by
     intro l;induction l with
     |nil=>intro e;cases e
     |cons y r ih=>
      intro e;rw[gd];cases q:p.1==y.1 with
      |true=>exact⟨_,rfl⟩
      |false=>
       rcases ak.mp e with e|e
       ·rw[e]at q;simp at q
       ·exact ih e
    exact this LA hp
   obtain⟨x,q⟩:=q;obtain⟨g1,g2,g3⟩:=Cw _ (find q);have e1:p.2.1=x.1:=by
    rw[h1]at g1;have:=Option.some.inj g1;injection this with _ _ z _
    injection z with z _
    simpa using congrArg Array.toList z
   have e2:p.2.2=x.2:=vV h2 (e1▸g2);refine .inl (.inr ⟨HV x.1,?_⟩);rw[<- hH];unfold xT;rw[af n,e,q,e2];rfl
 have hok:HOk P w H s1.heap:=fun b o e=>by
  by_cases z:b=tb
  ·rw[z,Htb]at e;cases e;rw[z];exact mx
  ·rcases cases_H b z with q|⟨x,_,hm,q⟩
   ·rw[q]at e;cases e
   ·rw[q]at e;cases e;obtain⟨g1,g2,g3⟩:=Cw _ hm;exact⟨g1,by rw[ai];exact g3,x.1,_,p9 g2,g1⟩
 have base_of:∀{b:Addr}{o:Obj},s1.heap.get? b=some o->H b=none->(xI s1.heap H).get? b=some o:=fun e n=>IH e n
 have notl:∀b o,s1.heap.get? b=some o->o.cls≠ .type "list" ->b≠tb->H b=none:=fun b o e hc n=>by
  rcases cases_H b n with q|⟨x,_,hm,q⟩
  ·exact q
  ·have:=(Cw _ hm).1;rw[e]at this;cases this;exact absurd rfl hc
 have nsK:∀{b:Addr}{m:Str->Option Value},s1.heap.Ns b m->(xI s1.heap H).Ns b m:=fun{b m} ⟨o,es,ep,e,d,r⟩=>⟨o,es,ep,base_of e (by
  by_cases z:b=tb
  ·rw[z,mx]at e;cases e;cases d
  ·rcases cases_H b z with q|⟨x,_,hm,q⟩
   ·exact q
   ·have:=(Cw _ hm).1;rw[e]at this;cases this;cases d),d,r⟩
 have hKb:K.In (xI s1.heap H):=fun b o e=>base_of (KX b o e) (by
  by_cases z:b=tb
  ·rw[z,Cy]at e;cases e
  ·rcases cases_H b z with q|⟨x,hk,hm,q⟩
   ·exact q
   ·rw[hk]at e;cases e)
 have hM:Mod K mg (xI s1.heap H):=⟨hKb,nsK hns,⟨mb,nsK hb,hbb⟩,let⟨mc,h1,h2⟩:=hlim;⟨mc,nsK h1,h2⟩⟩;have e0:oX P w K mg (xI s1.heap H) callerA [] s1 H:=⟨rfl,hM,fun b o e=>K2 e,ie (F5 _ _),trivial,fun b hb=>absurd (show b∈([]:List Addr)from hb) (by simp),hok,.of_eq hg⟩;refine codeAny_mono ((F _ hM (fun b o e hc n=>base_of e (notl b o e hc n))).run callerA [] s1 H ⟨mj,[]⟩ mj vs _ _ hr e0 pz rv (sv H hAt hS)) fun r s' h=>?_
 cases r with
 |error e=>obtain⟨_,_,_,_,z⟩:=h;exact z.elim
 |ok fl=>
  cases fl with
  |next=>exact False.elim h
  |brk=>exact False.elim h
  |cont=>exact False.elim h
  |ret u=>
   obtain⟨v,H',os,bare,un,zd,r',p,ns,hv,hp,hR⟩:=h;subst hv;obtain rfl:u=Value.ref p:=r';obtain⟨_,its,n,pr,zi⟩:=zd p _ hp;refine⟨⟨p,its,n,ns,rfl,zi,pr,hR⟩,?_,os,bare⟩;have kept:∀b o,b≠tb->s1.heap.get? b=some o->s'.heap.get? b=some o:=fun b o n e=>by
    rcases cases_H b n with q|⟨x,_,hm,q⟩
    ·exact un.keep b o e q (by intro z;exact absurd (show b∈([]:List Addr)from z) (by simp)) (by simp)
    ·obtain⟨e1,_⟩:=hok b _ q;obtain⟨e2,_⟩:=zd b _ (un.oJ b _ _ q);rw[e]at e1;cases e1;exact e2
   obtain⟨more,Cb⟩:=un.rY tb _ Htb;have t2:s'.heap.get? tb=some (W.tabObj (#[]++more)):=zd tb _ Cb;refine⟨fun b o e=>?_,fun b o e=>?_⟩
   ·by_cases z:b=tb
    ·subst z;rw[mx]at e;cases e;exact .inr (.inl ⟨hct,rfl,#[],more,rfl,t2⟩)
    ·exact .inl (kept b o z e)
   ·by_cases z:b=tb
    ·exact⟨_,z▸t2⟩
    ·exact⟨_,kept b o z e⟩
structure aG(K:W.Frag)(x:Str)(st:Stmt):Prop where
 ex:∃f fd,W.nsIn K mainGlobals x=some (some (.ref f))/\Fun K x x st f fd
theorem ND{K:W.Frag}{x:Str}{st:Stmt}{f:Addr}{oc:Value}{od an:Option Addr}{mf:Array (Option Value)}{kV kx pm jo ct:Value}(a:W.nsIn K mainGlobals x=some (some (.ref f)))
  (l:K.lookup f=some ⟨oc,od,.func (W.fnOf x x (hZ st) (f7 st) (aH st) .none kV kx pm an jo ct),mf⟩) (c:W.codeIn K jo x=true) (k:W.keepIn K (.ref f)=true):aG K x st:=⟨f,_,a,C7 l c k⟩
theorem aG.ok{P:Program}{w:World}{K:W.Frag}{mg:Str->Option Value}{base:Heap}{CX:CXT}{k:Nat}{x:Str}{st:Stmt}{ps:List Str}{sp:Sp}(D:aG K x st)(M:Mod K mg base)
  (h:∀f fd,Fun K x x st f fd->bI P w K mg base CX k f fd ps sp)
  (hb:∀(kV kx pm:Value)(an:Option Addr)(jo ct:Value)(us:List Value),us.length=ps.length->bindArgs (W.fnOf x x (hZ st) (f7 st) (aH st) .none kV kx pm an jo ct) ⟨us,[]⟩=pure (ps.zip us)):aP P w K mg base CX k x ps sp:=by
 obtain⟨f,fd,a,F⟩:=D.ex;exact⟨⟨f,fd,h f fd F,W.mg_of M.kin M.glob a,F.kp,F.binds hb⟩⟩
noncomputable def BB(K:W.Frag)(v:Value)(p:Int×Int):Bool:=match v with
 | .ref b=>(match K.lookup b with
  |some ⟨.type "tuple",_,.seq its _,_⟩=>(match its.toList with
   |[.int x _,.int y _]=>x==p.1&& y==p.2
   |_=>false)
  |_=>false)
 |_=>false
noncomputable def rL(K:W.Frag):List Value->List (Int×Int)->Bool
 |[],[]=>true
 |v::vs,p::ps=>BB K v p&& rL K vs ps
 |_,_=>false
noncomputable def tW(K:W.Frag)(a:Addr)(ps:List (Int×Int)):Bool:=match K.lookup a with
 |some ⟨.type "tuple",_,.seq its _,_⟩=>rL K its.toList ps&& decide (its.size<=1000)
 |_=>false
theorem JY{K:W.Frag}{v:Value}{p:Int×Int}(h:BB K v p=true):∃b,v=.ref b/\∀H,C2 K H (.ref b) p:=by
 unfold BB at h;split at h
 ·rename_i b;split at h
  ·rename_i its n sl hk;split at h
   ·rename_i x t y u hi;rw[cg,beq_iff_eq,beq_iff_eq]at h;refine⟨b,rfl,fun H=>⟨b,rfl,.inr ⟨_,its,n,hk,rfl,rfl,?_,?_⟩⟩⟩
    ·rw[<- di,hi];show 2<=sizeLine
     decide
    ·rw[hi];exact .cons ⟨t,by rw[h.1]⟩ (.cons ⟨u,by rw[h.2]⟩ .nil)
   ·cases h
  ·cases h
 ·cases h
theorem yU{K:W.Frag}:∀{vs:List Value}{ps:List (Int×Int)},rL K vs ps=true->∃xs:List V,Vals xs vs/\Paired (fun v p=>∀H,C2 K H v p) xs ps
 |[],[],_=>⟨[],.nil,.nil⟩
 |v::vs,p::ps,h=>by unfold rL at h;rw[cg]at h;obtain⟨b,rfl,hb⟩:=JY h.1;obtain⟨xs,h1,h2⟩:=yU h.2;exact⟨.ref b::xs,.cons rfl h1,.cons hb h2⟩
 |[],_::_,h=>by cases h
 |_::_,[],h=>by cases h
theorem tV{K:W.Frag}{a:Addr}{ps:List (Int×Int)}(h:tW K a ps=true):CT2 K a ps:=by
 unfold tW at h;split at h
 ·rename_i its n sl hk;rw[cg]at h;obtain⟨xs,h1,h2⟩:=yU h.1;exact⟨xs,fun H=>.inr ⟨_,its,n,hk,rfl,rfl,de (ba h.2) (by decide),h1⟩,h2⟩
 ·cases h
noncomputable def wR(K:W.Frag)(a:Addr):Bool:=match K.lookup a with
 |some ⟨.type "tuple",_,.seq its _,_⟩=>(match its.toList with
  |[.int 0 _,.int 1 _,.int 2 _,.int 3 _]=>true
  |_=>false)
 |_=>false
theorem GK{K:W.Frag}{a:Addr}(h:wR K a=true)(H:Hp):SqT K H a [.int 0,.int 1,.int 2,.int 3]:=by
 unfold wR at h;split at h
 ·rename_i its n sl hk;split at h
  ·rename_i t0 t1 t2 t3 hi;refine .inr ⟨_,its,n,hk,rfl,rfl,?_,?_⟩
   ·rw[<- di,hi];show 4<=sizeLine
    decide
   ·rw[hi];exact .cons ⟨t0,rfl⟩ (.cons ⟨t1,rfl⟩ (.cons ⟨t2,rfl⟩ (.cons ⟨t3,rfl⟩ .nil)))
  ·cases h
 ·cases h
theorem oP{K:W.Frag}{h:Heap}{C:Addr}{nm q:Str}{N:Addr}{bs:List Value}{hdct:Bool}{sn:List Str}{sub:List Value}{ab:Bool}{col:Option Bool}{dd:Option Addr}{k0 k1 k2 k3 k5:Option Value}{kz:String}
  (X:K.In h) (l:K.lookup C=some (excClassObj nm q C N bs [.type "Exception",.type "BaseException",.type "object"] hdct sn sub ab col dd k0 k1 k2 k3 k5 kz)):gX h C:=
 ⟨nm,q,N,bs,_,hdct,sn,sub,ab,col,dd,k0,k1,k2,k3,k5,kz,X _ _ l,by decide,fun D=>by rfl⟩
theorem LX{K:W.Frag}{x:Str}{f c tb:Addr}{oc oc2:Value}{od od2:Option Addr}{fd:FuncData}{mf rq:Array (Option Value)}{vs:Array Value}(a:W.nsIn K mainGlobals x=some (some (.ref f)))
  (l:K.lookup f=some ⟨oc,od,.func fd,mf⟩) (hc:fd.code=.ref c) (l2:K.lookup c=some ⟨oc2,od2,.fields vs,rq⟩) (hv:vs[11]? =some (.ref tb)):W.tabIn K x=some (c,tb):=by
 unfold W.tabIn;rw[a];dsimp only;rw[l];dsimp only;rw[hc];dsimp only;rw[l2];dsimp only;rw[hv]
theorem AG{h base:Heap}{c tb:Addr}(C:W.CodeHd h c tb)(k:∀b o,h.get? b=some o->o.cls≠ .type "list" ->b≠tb->base.get? b=some o):W.CodeHd base c tb:=by obtain⟨o,vs,Dg,tf,xq,tg,inF,text,tt,e,ni,r⟩:=C;have jn:c≠tb:=r.2.2.2.2.2.2.2;exact⟨o,vs,Dg,tf,xq,tg,inF,text,tt,k c o e (by rw[ni];intro z;injection z with z;exact absurd z (by decide)) jn,ni,r⟩
theorem FU{h:Heap}{c tb:Addr}(C:W.CodeHd h c tb):isCodeTable h tb:=by obtain⟨o,vs,Dg,tf,xq,tg,inF,text,tt,e,ni,hd,hv,_⟩:=C;exact⟨c,o,vs,e,ni,hd,hv⟩
theorem L9{p:Program}{loose:List Str}{yk:ExcName->Option Value}{mg mb:Str->Option Value}{h base:Heap}{tb:Addr}(T:Top p loose yk mg mb h)(ht:h.get? tb=some (W.tabObj #[]))
  (k:∀b o,h.get? b=some o->o.cls≠ .type "list" ->b≠tb->base.get? b=some o):NQ mg base:=by
 obtain⟨bm,ob,b1,b2,b3,b4,b5,b6⟩:=T.bmain;refine⟨bm,ob,b1,b2,fun q=>?_,k bm ob b3 (by rw[b4];intro z;injection z with z;exact absurd z (by decide)) (fun q=>?_),b4,b5,b6⟩
 ·obtain⟨o,es,ep,e,hd,_⟩:=T.g;rw[q,e]at b3;cases b3;rw[hd]at b6;cases b6
 ·rw[q,ht]at b3;cases b3;cases b4
theorem vL{α β:Type}{R:α->β->Prop}:∀{l:List α}{m:List β}{i:Nat}{y:β},Paired R l m->m[i]? =some y->∃a,l[i]? =some a/\R a y
 |_::_,_::_,0,y,.cons r t,e=>by cases e;exact⟨_,rfl,r⟩
 |a::l,b::m,i+1,y,.cons r t,e=>by obtain⟨a',h1,h2⟩:=vL (l:=l) (m:=m) (i:=i) t (by simpa using e);exact⟨a',by simpa using h1,h2⟩
 |[],_,i,y,.nil,e=>by simp at e
end L3
namespace L3
open PySem PySem.Spec PyProof.Rows L2
abbrev NK:=Int ⊕ List Int
section
variable {P:Program}{w:World}
noncomputable def NIs(P:Program)(w:World)(h:Heap):NK->Value->Prop
 | .inl k,v=>(PySem.intKind P w).is k v=true
 | .inr ks,v=>∃b,v=.ref b/\IsTupleKey (PySem.intKind P w) h ks b
inductive eE (P:Program) (w:World) (h:Heap):List NK->List Value->Prop
 |nil:eE P w h [] []
 |cons {k:NK}{v:Value}{ks:List NK}{vs:List Value}:NIs P w h k v->eE P w h ks vs->eE P w h (k::ks) (v::vs)
noncomputable def dR(P:Program)(w:World)(h:Heap)(ks:List NK)(a:Addr):Prop:=∃o its n,h.get? a=some o/\o.cls=.type "tuple" /\o.data=.seq its n/\eE P w h ks its.toList
noncomputable def qT:NK->Int
 | .inl k=>hashInt k
 | .inr ks=>reduceHash (Builtin.Tuple.tupleHashOf (ks.map hashInt))
def t9:NK->Nat
 | .inl _=>1
 | .inr ks=>ks.length+1
def cP:List NK->Nat
 |[]=>1
 |k::ks=>t9 k+cP ks
theorem NIs.inj{h:Heap}{x y:NK}{v:Value}(hx:NIs P w h x v)(hy:NIs P w h y v):x=y:=by
 cases x with
 |inl a=>cases y with
  |inl b=>exact congrArg _ ((PySem.intKind P w).inj _ _ _ hx hy)
  |inr b=>obtain⟨c,rfl,_⟩:=hy;have:=(PySem.intKind P w).byValue _ _ hx;cases this
 |inr a=>
  obtain⟨c,rfl,hx⟩:=hx;cases y with
  |inl b=>have:=(PySem.intKind P w).byValue _ _ hy;cases this
  |inr b=>obtain⟨c',e,hy⟩:=hy;cases e;exact congrArg _ (hx.inj hy)
theorem eE.inj{h:Heap}{x y:List NK}{vs:List Value}(hx:eE P w h x vs)(hy:eE P w h y vs):x=y:=by
 induction hx generalizing y with
 |nil=>cases hy;rfl
 |cons h1 _ ih=>cases hy with|cons h2 t2=>rw[h1.inj h2,ih t2]
theorem dR.ty{s:Shared}{ks:List NK}{a:Addr}(x:dR P w s.heap ks a):s.TypeIs (.ref a) "tuple" :=let⟨o,_,_,h1,h2,_⟩:=x;⟨o,h1,h2⟩
theorem dR.inj{h:Heap}{a:Addr}{x y:List NK}(hx:dR P w h x a)(hy:dR P w h y a):x=y:=by obtain⟨o,its,n,e,_,d,i⟩:=hx;obtain⟨o',its',n',e',_,d',i'⟩:=hy;cases e.symm.trans e';cases d.symm.trans d';exact i.inj i'
theorem NIs.keeps{h h':Heap}{k:NK}{v:Value}{d:Addr}{o:Obj}{es ep}(x:NIs P w h k v)(ho:h.get? d=some o)(hd:o.data=.dict es ep)(hs:Heap.SameBut d h h'):NIs P w h' k v:=by
 cases k with
 |inl k=>exact x
 |inr ks=>obtain⟨b,e,z⟩:=x;exact⟨b,e,z.keeps ho hd hs⟩
theorem eE.keeps{h h':Heap}{ks:List NK}{vs:List Value}{d:Addr}{o:Obj}{es ep}(x:eE P w h ks vs)(ho:h.get? d=some o)(hd:o.data=.dict es ep)(hs:Heap.SameBut d h h'):eE P w h' ks vs:=by
 induction x with
 |nil=>exact .nil
 |cons a _ ih=>exact .cons (a.keeps ho hd hs) ih
theorem dR.keeps{h h':Heap}{ks:List NK}{a d:Addr}{o:Obj}{es ep}(x:dR P w h ks a)(ho:h.get? d=some o)(hd:o.data=.dict es ep)(hs:Heap.SameBut d h h'):dR P w h' ks a:=by
 obtain⟨o',its,n,e,c,d',i⟩:=x;have ne:a≠d:=by rintro rfl;cases e.symm.trans ho;rw[hd]at d';cases d'
 exact⟨o',its,n,(hs.2 a ne).trans e,c,d',i.keeps ho hd hs⟩
variable {A:Around}{E:Value->Shared->Prop}{s:Shared}
theorem MN{k:NK}{v:Value}{Q:Int->Shared->Prop}(hu:A.units<cLine)(hk:NIs P w s.heap k v)(h:Q (qT k) {s with toks:=s.toks+t9 k}):wpAny (model P w) A (PySem.pyHash v) Q E s:=by
 cases k with
 |inl k=>exact(PySem.intKind P w).pyHash (k:=k) hk h
 |inr ks=>obtain⟨b,rfl,z⟩:=hk;exact wpAny_pyHash_tuple hu z h
theorem XH{x y:NK}{u v:Value}{Q:Bool->Shared->Prop}(hu:A.units<cLine)(sh:x.isLeft=y.isLeft)(hx:NIs P w s.heap x u)(hy:NIs P w s.heap y v)(h:Q (decide (x=y)) s):wpAny (model P w) A (eqBool u v) Q E s:=by
 cases x with
 |inl a=>cases y with
  |inl b=>exact(PySem.intKind P w).eqBool hx hy (by rw[show decide (a=b)=decide ((Sum.inl a:NK)=.inl b) by simp];exact h)
  |inr b=>cases sh
 |inr a=>cases y with
  |inl b=>cases sh
  |inr b=>obtain⟨c,rfl,hx⟩:=hx;obtain⟨c',rfl,hy⟩:=hy;exact wpAny_eqBool_tuple hu hx hy (by rw[show decide (a=b)=decide ((Sum.inr a:NK)=.inr b) by simp];exact h)
theorem t7:∀(a b:List NK),cP (a++b)+1=cP a+cP b
 |[],b=>by show cP b+1=1+cP b;omega
 |k::a,b=>by
  have:=t7 a b;show t9 k+cP (a++b)+1=t9 k+cP a+cP b
  omega
theorem ER{ks:List NK}{a:Addr}{Q:Int->Shared->Prop}(hu:A.units+1<cLine)(hk:dR P w s.heap ks a)(h:Q (reduceHash (Builtin.Tuple.tupleHashOf (ks.map (qT)))) {s with toks:=s.toks+cP ks}):wpAny (model P w) A (PySem.pyHash (.ref a)) Q E s:=by
 have hT:=hk.ty;obtain⟨o,its,n,ho,_,hd,hi⟩:=hk;unfold PySem.pyHash pyHashByItsType;refine aa (wpAny_cRoomFor_or (.inr (by omega)) ?_);refine aa (wpAny_specialOf hT F.slot_tuple_hash.lookup ?_);refine show wpAny _ _ (if(some (Value.builtin "tuple.__hash__")==some Value.none)=true then _ else _) Q E s from ?_
 rw[af (by rw[beq_builtin_none];exact bp)];refine aa (wpAny_specialOf hT F.slot_tuple_hash.lookup ?_);refine show wpAny _ _ (callSpecialIfBoundUnlessNone? (.ref a) "__hash__" _>>= _) Q E s from ?_
 refine aa (wpAny_callSpecialIfBoundUnlessNone?_slot hT F.slot_tuple_hash (wpAny_call_entry F.slot_tuple_hash hT F.entry_tuple_hash ?_ (F.args_tuple_hash_1 _)));refine show wpAny _ _ (Builtin.Tuple.tupleItemsOf (.ref a)>>= _) _ _ s from ?_
 refine aa (wpAny_tupleItemsOf ho hd (aa ?_));rw[<- forIn_toList];refine wpAny_forIn_list _ (fun rest (b:Array Int) s'=>∃dn lf,ks=dn++lf/\eE P w s.heap lf rest/\b.toList=dn.map (qT)/\s'={s with toks:=s.toks+cP dn - 1}) _ ?_ ?_ _ _ ⟨[],ks,rfl,hi,rfl,rfl⟩
 ·rintro x rest b s' ⟨dn,lf,rfl,hl,hb,rfl⟩;cases hl with
  | @cons k _ ks' _ h1 zg=>
   have e1:cP (dn++[k])=cP dn+t9 k:=by have:=t7 dn [k];rw[show cP [k]=t9 k+1 from rfl]at this;omega
   have p1:∀l:List NK,1<=cP l:=fun l=>by
    induction l with
    |nil=>exact au _
    |cons c l ih=>exact de ih (Nat.le_add_left _ _)
   have e2:s.toks+cP dn - 1+t9 k=s.toks+cP (dn++[k]) - 1:=by have:=p1 dn;omega
   refine aa (MN (s:={s with toks:=s.toks+cP dn - 1}) hu h1 ?_);rw[e2];first
    |exact ag ⟨dn++[k],ks',by simp,zg,by simp[hb],rfl⟩
    |exact aa (ag (ag ⟨dn++[k],ks',by simp,zg,by simp[hb],rfl⟩))
 ·rintro b s' ⟨dn,lf,rfl,hl,hb,rfl⟩;cases hl;rw[da]at h;have p1:∀l:List NK,1<=cP l:=fun l=>by
   induction l with
   |nil=>exact au _
   |cons c l ih=>exact de ih (Nat.le_add_left _ _)
  have e2:s.toks+cP dn - 1+1=s.toks+cP dn:=by have:=p1 dn;omega
  rw[<- e2]at h;refine show wpAny _ _ (retInt (Builtin.Tuple.tupleHashOf b.toList)) _ _ _ from ?_
  rw[hb];refine wpAny_ret_mkInt ?_;refine show wpAny _ _ (if(decide (-(2:Int)^63<=Builtin.Tuple.tupleHashOf (dn.map (qT)))&& decide (Builtin.Tuple.tupleHashOf (dn.map (qT))<2^63))=true then _ else _) Q E _ from ?_
  unfold reduceHash at h;by_cases hr:(decide (-(2:Int)^63<=Builtin.Tuple.tupleHashOf (dn.map (qT)))&& decide (Builtin.Tuple.tupleHashOf (dn.map (qT))<2^63))=true
  ·rw[ah hr]at h ⊢;exact ag h
  ·rw[af hr]at h ⊢;exact aa (wpAny_rule (ag h))
theorem wZ{x y:List NK}{a b:Addr}{R:Fin->Shared->Prop}(hu:A.units<cLine)(sh:x.map Sum.isLeft=y.map Sum.isLeft)(hx:dR P w s.heap x a)(hy:dR P w s.heap y b)(h:R (.done (.ret (.bool (decide (x=y))))) s):
  wpAny (model P w) A (Builtin.«tuple.__eq__» ⟨[.ref a,.ref b],[]⟩) R E s:=by
 have hTb:=hy.ty;obtain⟨oa,xs,na,hoa,_,hda,hia⟩:=hx;obtain⟨ob,ys,nb,hob,_,rb,hib⟩:=hy;refine show wpAny _ _ (isInstance (.ref b) (.type "tuple")>>= _) _ _ s from ?_
 refine aa (wpAny_isInstance hTb isSubtype_tuple_tuple ?_);simp only[Bool.not_true,dm,if_false];refine aa (wpAny_tupleItemsOf hoa hda (aa (wpAny_tupleItemsOf hob rb (aa ?_))));refine wpAny_forIn_list _ (fun rest r s'=>r.1=none/\s'=s/\∃x' y' nj An,rest=List.zip nj An/\eE P w s.heap x' nj/\eE P w s.heap y' An/\x'.map Sum.isLeft=y'.map Sum.isLeft/\decide (x'=y')=decide (x=y)/\(nj.length==An.length)=(xs.size==ys.size))
  _ ?_ ?_ _ _ ⟨rfl,rfl,x,y,xs.toList,ys.toList,rfl,hia,hib,sh,rfl,by simp⟩
 ·rintro⟨u,v⟩ rest r s' ⟨hr,rfl,x',y',nj,An,hz,ud,qt,hsh,wc,jt⟩;cases ud with
  |nil=>simp at hz
  | @cons k1 u' x'' xs'' h1 hx''=>
   cases qt with
   |nil=>simp at hz
   | @cons k2 v' y'' ys'' h2 hy''=>
    simp only[List.zip_cons_cons,List.cons.injEq,Prod.mk.injEq]at hz;obtain⟨⟨rfl,rfl⟩,rfl⟩:=hz;rw[bh,bh]at hsh;injection hsh with zy qi
    refine aa (XH hu zy h1 h2 ?_);by_cases hk:k1=k2
    ·subst hk;rw[decide_eq_true rfl];simp only[Bool.not_true,dm,if_false];refine ag ⟨rfl,rfl,x'',y'',xs'',ys'',rfl,hx'',hy'',qi,?_,by simpa using jt⟩;rw[<- wc];by_cases hxy:x''=y''<;>simp[hxy]
    ·have hf:decide (x=y)=false:=by rw[<- wc];simp[hk]
     rw[hf]at h;rw[decide_eq_false hk];simp only[Bool.not_false,if_true];exact aa (ag (ag (ag h)))
 ·rintro⟨r1,r2⟩ s' ⟨hr,rfl,x',y',nj,An,hz,ud,qt,hsh,wc,jt⟩;simp only at hr;subst hr;have fin:(xs.size==ys.size)=decide (x=y):=by
   rw[<- wc,<- jt];cases ud with
   |nil=>cases qt with
    |nil=>simp
    |cons _ _=>simp
   |cons _ _=>cases qt with
    |nil=>simp
    |cons _ _=>simp at hz
  refine ag ?_;refine show R (.done (.ret (.bool (xs.size==ys.size)))) s' from ?_
  rw[fin];exact h
theorem K4{x y:List NK}{a b:Addr}{Q:Bool->Shared->Prop}(hu:A.units+1<cLine)(sh:x.map Sum.isLeft=y.map Sum.isLeft)(hx:dR P w s.heap x a)(hy:dR P w s.heap y b)(h:Q (decide (x=y)) s):wpAny (model P w) A (eqBool (.ref a) (.ref b)) Q E s:=by
 unfold eqBool;try with_reducible refine wpAny_holding ?_
 refine show wpAny _ _ (if(Value.ref a==Value.ref b)=true then _ else _) Q E s from ?_
 by_cases ub:(Value.ref a==Value.ref b)=true
 ·rw[ah ub];have e:a=b:=by have:=eq_of_beq ub;injection this
  subst e;obtain rfl:=hx.inj hy;exact aa (wpAny_rule (ag (by simpa using h)))
 ·rw[af ub];exact aa (wpAny_richCompare_same_room (op:=.Eq) hx.ty hy.ty F.slot_tuple_eq
   (wpAny_call_entry F.slot_tuple_eq hx.ty F.entry_tuple_eq (wZ hu sh hx hy ⟨_,rfl,(fun e=>nomatch e),wpAny_truthy_bool h⟩) (F.args_tuple_eq_2 _ _)) (by omega))
theorem CC{ks:List Int}{a:Addr}{n:Nat}{Q:Bool->Shared->Prop}(hk:IsTupleKey (PySem.intKind P w) s.heap ks a)(h:Q true s):wpAny (model P w) A (eqIsQuiet (n+1) (.ref a)) Q E s:=by
 have hT:=hk.typeIs;obtain⟨o,items,m,ho,_,hd,hi⟩:=hk;unfold eqIsQuiet;refine aa (wpAny_specialOf hT F.slot_tuple_eq.lookup ?_);refine show wpAny _ _ (isInstance (.ref a) (.type "tuple")>>= _) _ _ s from ?_
 refine aa (wpAny_isInstance hT isSubtype_tuple_tuple ?_);simp only[Bool.not_true,dm,if_false];refine aa (wpAny_seqItems ho hd ?_);refine aa ?_;refine show wpAny _ _ (forIn items _ _) _ _ s from ?_
 rw[<- forIn_toList];refine wpAny_forIn_list _ (fun rest r s'=>r.1=none/\s'=s/\∀v∈rest,carriedByValue v=true) _ ?_ ?_ _ _ ⟨rfl,rfl,hi.byValue⟩
 ·rintro v rest r s' ⟨hr,rfl,hall⟩;rw[eqIsQuiet_byValue _ (hall v bb)];refine aa (ag ?_);simp only[Bool.not_true,dm,if_false];exact ag ⟨rfl,rfl,fun u ue=>hall u (ar _ ue)⟩
 ·rintro⟨r1,r2⟩ s' ⟨hr,rfl,_⟩;simp only at hr;subst hr;exact ag h
theorem K5{k:NK}{v:Value}{n:Nat}{Q:Bool->Shared->Prop}(hk:NIs P w s.heap k v)(h:Q true s):wpAny (model P w) A (eqIsQuiet (n+1) v) Q E s:=by
 cases k with
 |inl k=>rw[eqIsQuiet_byValue _ ((PySem.intKind P w).byValue _ _ hk)];exact ag h
 |inr ks=>obtain⟨b,rfl,z⟩:=hk;exact CC z h
theorem BJ{ks:List NK}{a:Addr}{Q:Bool->Shared->Prop}(hk:dR P w s.heap ks a)(h:Q true s):wpAny (model P w) A (eqIsQuiet 8 (.ref a)) Q E s:=by
 have hT:=hk.ty;obtain⟨o,items,m,ho,_,hd,hi⟩:=hk;unfold eqIsQuiet;refine aa (wpAny_specialOf hT F.slot_tuple_eq.lookup ?_);refine show wpAny _ _ (isInstance (.ref a) (.type "tuple")>>= _) _ _ s from ?_
 refine aa (wpAny_isInstance hT isSubtype_tuple_tuple ?_);simp only[Bool.not_true,dm,if_false];refine aa (wpAny_seqItems ho hd ?_);refine aa ?_;refine show wpAny _ _ (forIn items _ _) _ _ s from ?_
 rw[<- forIn_toList];refine wpAny_forIn_list _ (fun rest r s'=>r.1=none/\s'=s/\∃lf,eE P w s.heap lf rest) _ ?_ ?_ _ _ ⟨rfl,rfl,ks,hi⟩
 ·rintro v rest r s' ⟨hr,rfl,lf,hall⟩;cases hall with
  |cons h1 h2=>refine aa (K5 (n:=6) h1 ?_);simp only[Bool.not_true,dm,if_false];exact ag ⟨rfl,rfl,_,h2⟩
 ·rintro⟨r1,r2⟩ s' ⟨hr,rfl,_⟩;simp only at hr;subst hr;exact ag h
end
def DE(ks:List NK):Int:=reduceHash (Builtin.Tuple.tupleHashOf (ks.map qT))
noncomputable def sZ(P:Program)(w:World)(S:List Bool):HeapKind P w (List NK) where
 is h ks a:=dR P w h ks a/\ks.map Sum.isLeft=S
 hash:=DE
 draws:=cP
 room A:=A.units+1<cLine
 inj hx hy:=hx.1.inj hy.1
 keeps x ho hd hs:=⟨x.1.keeps ho hd hs,x.2⟩
 pyHash hu hk h:=ER hu hk.1 h
 eqBool hu hx hy h:=K4 hu (hx.2.trans hy.2.symm) hx.1 hy.1 h
 quiet hk h:=BJ hk.1 h
noncomputable def NV(H:Hp):NK->V->Prop
 | .inl i,v=>v=.int i
 | .inr is,v=>∃c,v=.ref c/\H c=some (.tup (is.map V.int))
noncomputable def rK(H:Hp)(ks:List NK)(b:Addr):Prop:=∃vs,H b=some (.tup vs)/\Paired (NV H) ks vs
theorem NV.mono{H H':Hp}(e:∀b ys,H b=some (.tup ys)->H' b=some (.tup ys)){k:NK}{v:V}(h:NV H k v):NV H' k v:=by
 cases k with
 |inl i=>exact h
 |inr is=>obtain⟨c,h1,h2⟩:=h;exact⟨c,h1,e _ _ h2⟩
theorem rK.mono{H H':Hp}(e:∀b ys,H b=some (.tup ys)->H' b=some (.tup ys)){ks:List NK}{b:Addr}(h:rK H ks b):rK H' ks b:=
 let⟨vs,h1,h2⟩:=h;⟨vs,e _ _ h1,Paired.K7 h2 fun _ _ z=>z.mono e⟩
section
variable {P:Program}{w:World}{H:Hp}{h:Heap}
theorem int_is{i:Int}{u:Value}(r:RelV (.int i) u):(PySem.intKind P w).is i u=true:=by
 obtain⟨t,e⟩:=(show∃t,u=Value.int i t from r);subst e;show Value.isInt i (.int i t)=true
 simp[Value.isInt]
theorem zN:∀{is:List Int}{us:List Value},Vals (is.map V.int) us->ItemsAre (PySem.intKind P w) is us
 |[],_,r=>by rw[iy]at r;cases r;exact .nil
 |k::ks,_,r=>by
  rw[bh]at r;cases r with
  |cons h t=>exact .cons (int_is h) (zN t)
theorem KR{is:List Int}{a:Addr}(ok:HOk P w H h)(e:H a=some (.tup (is.map V.int))):IsTupleKey (PySem.intKind P w) h is a:=by obtain⟨_,its,r,o,h1,h2,n,h3⟩:=(show cO P w H h a (.tup (is.map V.int))from ok a _ e);exact⟨o,its.toArray,n,h1,h2,h3,by simpa using zN r⟩
theorem EO(ok:HOk P w H h){ks:List NK}{vs:List V}(p:Paired (NV H) ks vs):∀{us:List Value},Vals vs us->eE P w h ks us:=by
 induction p with
 |nil=>intro us r;cases r;exact .nil
 | @cons k v ks vs hk t ih=>
  intro us r;cases r with
  |cons h1 h2=>
   refine .cons ?_ (ih h2);cases k with
   |inl i=>cases (show v=_ from hk);exact int_is h1
   |inr is=>obtain⟨c,rfl,hc⟩:=hk;exact⟨c,h1,KR ok hc⟩
theorem DD{ks:List NK}{a:Addr}(ok:HOk P w H h)(t:rK H ks a):dR P w h ks a:=by obtain⟨vs,e,p⟩:=t;obtain⟨_,its,r,o,h1,h2,n,h3⟩:=(show cO P w H h a (.tup vs)from ok a _ e);exact⟨o,its.toArray,n,h1,h2,h3,by simpa using EO ok p r⟩
end
abbrev NL:=List (List NK×Addr)
instance XY (k:List NK) (l:List (List NK)):Decidable (k∈l):=@List.instDecidableMemOfLawfulBEq _ instBEqOfDecidableEq _ k l
def MP(x:List NK×Addr):DictEntry:=⟨DE x.1,.ref x.2,.bool true⟩
noncomputable def MO(a:Addr)(xs:NL)(h:Heap):Prop:=∃o es ep,h.get? a=some o/\o.ExactDict/\o.data=.dict es ep/\es.toList=xs.map MP
def nO(a:Addr)(xs:NL):HO:=.ext (MO a xs)
theorem LO{P:Program}{w:World}{H:Hp}{h:Heap}{a:Addr}{xs:NL}(p:MO a xs h):cO P w H h a (nO a xs):=by
 refine⟨p,?_,fun h1 h2 p1 k=>?_⟩
 ·obtain⟨o,_,_,e,_⟩:=p;exact⟨o,e⟩
 ·obtain⟨o,es,ep,e,r⟩:=p1;exact⟨o,es,ep,k o e,r⟩
structure NS(S:List Bool)(H:Hp)(a:Addr)(xs:NL):Prop where
 sm:(a==sysModules)=false
 len:xs.length<=sizeLine
 nd:(xs.map (·.1)).Nodup
 kD:∀x∈xs,rK H x.1 x.2/\x.1.map Sum.isLeft=S
theorem NS.mono{S:List Bool}{H H':Hp}(e:∀b ys,H b=some (.tup ys)->H' b=some (.tup ys)){a:Addr}{xs:NL}(n:NS S H a xs):NS S H' a xs:=⟨n.sm,n.len,n.nd,fun x hx=>⟨(n.kD x hx).1.mono e,(n.kD x hx).2⟩⟩
noncomputable def j2(xs:NL)(k:List NK)(b:Addr):NL:=if k∈xs.map (·.1)then xs else xs++[(k,b)]
def nJ(xs:NL):List (List NK×Addr×Value):=xs.map fun x=>(x.1,x.2,Value.bool true)
theorem EK(xs:NL):(nJ xs).map (·.1)=xs.map (·.1):=by unfold nJ;rw[fh];rfl
theorem D4(k:List NK):∀xs:NL,(atKey (nJ xs) k).isSome=decide (k∈xs.map (·.1))
 |[]=>by simp[atKey,nJ]
 |x::xs=>by
  have ih:=D4 k xs;have e:nJ (x::xs)=(x.1,x.2,Value.bool true)::nJ xs:=rfl;rw[e];unfold atKey at ih ⊢;rw[ij];by_cases c:x.1=k
  ·simp[c]
  ·have c':¬k=x.1:=fun z=>c z.symm
   simp only[c,decide_false];rw[ih];simp[c']
theorem GS(xs:NL)(k:List NK)(b:Addr):storedH (nJ xs) k b (.bool true)=nJ (j2 xs k b):=by
 unfold storedH j2;rw[D4];by_cases c:k∈xs.map (·.1)
 ·rw[ah (decide_eq_true c),ah c];unfold nJ;rw[fh];apply dt;intro x _;show putAt k (.bool true) (x.1,x.2,Value.bool true)=_
  unfold putAt;split<;>rfl
 ·rw[af (by simp[c]),af c];simp[nJ]
theorem DF{P:Program}{w:World}{S:List Bool}(xs:NL):(nJ xs).map (entryOfKey (sZ P w S))=xs.map MP:=by unfold nJ;rw[fh];rfl
section
variable {P:Program}{w:World}{H:Hp}{h:Heap}{S:List Bool}{a:Addr}{xs:NL}
theorem K3(ok:HOk P w H h)(r:Rd H a (nO a xs)):MO a xs h:=(show cO P w H h a (nO a xs)from GQ ok r).1
theorem NS.dict(n:NS S H a xs)(ok:HOk P w H h)(r:Rd H a (nO a xs)):h.DictOfH (sZ P w S) a (nJ xs):=by obtain⟨o,es,ep,h1,h2,h3,h4⟩:=K3 ok r;refine⟨o,es,ep,h1,h2,h3,by rw[DF];exact h4,fun x hx=>?_,by rw[EK];exact n.nd⟩;obtain⟨y,hy,rfl⟩:=ax.mp hx;exact⟨DD ok (n.kD y hy).1,(n.kD y hy).2⟩
theorem NS.put{k:List NK}{b:Addr}(n:NS S H a xs)(t:rK H k b)(sk:k.map Sum.isLeft=S)(hl:xs.length<sizeLine):NS S H a (j2 xs k b):=by
 unfold j2;split
 ·exact n
 ·rename_i c;refine⟨n.sm,by rw[aj,List.length_singleton];omega,?_,fun x hx=>?_⟩
  ·rw[cf,cn];refine⟨n.nd,by simp,fun x hx y hy e=>?_⟩;simp at hy;subst e;exact c (hy▸hx)
  ·rcases aw.mp hx with hx|hx
   ·exact n.kD x hx
   ·rw[fm.mp hx];exact⟨t,sk⟩
end
theorem gS(xs:NL)(k:List NK)(b:Addr)(q:List NK):q∈(j2 xs k b).map (·.1)↔q∈xs.map (·.1)\/q=k:=by
 unfold j2;split
 ·rename_i c;constructor
  ·exact .inl
  ·rintro(h|rfl)
   ·exact h
   ·exact c
 ·rw[cf,aw];simp
theorem zA(xs:NL)(k:List NK)(b:Addr):(j2 xs k b).length<=xs.length+1:=by
 unfold j2;split
 ·omega
 ·rw[aj,List.length_singleton];omega
noncomputable def O0:TE:=fun _ H Q=>∀p,H p=none->(p==sysModules)=false->Q (.ref p) (upd H p (nO p []))
noncomputable def OB(S:List Bool)(td ty tv:TE):TS:=fun D σ H=>tv σ H fun v H1=>td σ H1 fun x H2=>ty σ H2 fun y H3=>∃a b k xs,x=.ref a/\y=.ref b/\v=.bl true/\H3 a=some (nO a xs)/\NS S H3 a xs/\rK H3 k b/\k.map Sum.isLeft=S/\xs.length<sizeLine/\D.nx σ (upd H3 a (nO a (j2 xs k b)))
theorem nF{H:Hp}{a:Addr}{o u:HO}(e:H a=some u)(hu:∀ys,u≠ .tup ys):∀b ys,H b=some (.tup ys)->(upd H a o) b=some (.tup ys):=fun b ys q=>by
 rw[aB]
 ·exact q
 ·rintro rfl;rw[q]at e;exact hu ys (Option.some.inj e).symm
section
variable {X:Cx}{o i e js:Expr}{pos kb mq:Pos}{td ty tv:TE}{S:List Bool}
theorem JT:PE X (.Dict [] [] pos) O0:=fun jj s σ H Q I h=>by have hb:(s.heap.objs.size==sysModules)=false:=beq_eq_false_iff_ne.mpr (Ne.symm (cv I.big));refine wpAny_Dict_empty ⟨.ref s.heap.objs.size,_,I.laid (a:=s.heap.objs.size) (o:=nO s.heap.objs.size []) (t':=s.toks) (fun _ _ q=>ao _ q) (au _) ?_,rfl,h _ (I.hok.fresh (au _)) hb⟩;exact LO ⟨_,#[],0,az _ rfl,⟨rfl,rfl,rfl⟩,rfl,rfl⟩
theorem D7(hu:X.A.units+2<cLine)(ho:PE X o td)(hi:PE X i ty)(hv:PE X js tv)(hs:swapsWith js (some (.Subscript o i kb)) pos.line X.env=pure false):
  PS X (.Assign [.Subscript o i kb] js pos) (OB S td ty tv):=by
 intro jj s σ H D I h;refine wpAny_Assign_Subscript (thn (hv jj s σ H _ I h) fun r s1 ⟨v,H1,I1,rv,q1⟩=>thn (ho jj s1 σ H1 _ I1 q1) fun u s2 ⟨x,H2,I2,rx,q2⟩=>thn (hi jj s2 σ H2 _ I2 q2) fun iv s3 ⟨y,H3,I3,ry,a,b,k,xs,ex,ey,ev,ea,ns,nt,sk,hl,q3⟩=>?_) hs;subst ex ey ev;obtain rfl:u=Value.ref a:=rx;obtain rfl:iv=Value.ref b:=ry;obtain rfl:r=Value.bool true:=rv;refine wpAny_setItem_heap (knd:=sZ X.prog X.w S) (hsz:=by unfold nJ;rw[ai];exact ns.len) hu ⟨DD I3.hok nt,sk⟩ (ns.dict I3.hok (.inl ea)) fun h' ur hs=>?_
 rw[GS]at ur;obtain⟨q,es,ep,hq,h2,h3,h4,_,_⟩:=ur;rw[DF]at h4;exact⟨σ,_,xW I3 (by rw[ea];exact True.intro) hs ⟨q,hq⟩ (LO ⟨q,es,ep,hq,h2,h3,h4⟩),q3⟩
noncomputable def O1(t:TE):TE:=fun σ H Q=>t σ H fun x H1=>∃d xs,x=.ref d/\H1 d=some (nO d xs)/\∀od,Q (.ref d) (upd H1 d (.frz od (nO d xs)))
theorem JU{t:TE}(h:PE X e t):PE X e (O1 t):=by
 intro jj s σ H Q I hw;refine thn (h jj s σ _ _ I hw) fun v s1 ⟨x,H1,I1,r,d,xs,ex,hd,q⟩=>?_
 obtain⟨od,I2⟩:=I1.lock hd trivial;subst ex;exact⟨.ref d,_,I2,r,q od⟩
end
noncomputable def Itn(d:Addr)(o:Obj)(xs:NL):It:=
 ⟨fun i H=>H d=some (.frz o (nO d xs))/\i<xs.length,fun i H x H'=>H'=H/\∃k q,xs[i]? =some (k,q)/\x=.ref q,fun i H=>H d=some (.frz o (nO d xs))/\xs.length<=i⟩
theorem Inv.N8{X:Cx}{jj:List (Addr×Obj)}{σ:L2.St}{H:Hp}{s:Shared}{d:Addr}{o:Obj}{xs:NL}(I:Inv X jj σ H s)(h:H d=some (.frz o (nO d xs))):
  s.heap.get? d=some o/\o.ExactDict/\∃(es:Array DictEntry)(ep:Nat),o.data=.dict es ep/\es.size=xs.length/\∀(i:Nat)(x:List NK×Addr),xs[i]? =some x->∃en,es[i]? =some en/\en.key=.ref x.2:=by
 obtain⟨hd,p,_⟩:=I.hok d _ h;obtain⟨o',es,ep,ho,hx,lg,he⟩:=p;rw[hd]at ho;cases ho;refine⟨hd,hx,es,ep,lg,?_,fun i x e=>?_⟩
 ·rw[<- di,he,ai]
 ·refine⟨MP x,?_,rfl⟩;rw[<- gm,he,bf,e];rfl
section
variable {P:Program}{w:World}{K:W.Frag}{tg:Expr}{d:Addr}{o:Obj}{es:Array DictEntry}{ep:Nat}
theorem AX{xs:NL}(it:Addr)(ot:o.data=.dict es ep):Turn P w K tg (Itn d o xs) [it] it (fun i h=>h.IsKeyIter it d i xs.length ep) where
 mem:=by simp
 obj:=fun i h st b hb=>by
  have e:b=it:=by simpa using hb
  subst e;obtain⟨oi,e,c,dd⟩:=st;exact⟨oi,e,fun v z=>by rw[dd]at z;cases z⟩
 keep:=fun i h h' st k=>st.at fun oi e=>k it (by simp) oi e
 item:=by
  intro X hP hw hK hc i jj s σ H E I hf st hg;subst hP hw hK;obtain⟨hd,hi⟩:=hg;obtain⟨f0,f1,f2,f3,f4,f5⟩:=hf it (by simp);obtain⟨qf,hx,rf,rg,lg,hsz,uo⟩:=Inv.N8 I hd;obtain⟨rfl,rfl⟩:=jR ot lg;obtain⟨⟨k,q⟩,uf⟩:∃p,xs[i]? =some p:=⟨xs[i],bx hi⟩
  obtain⟨en,ow,me⟩:=uo i (k,q) uf;refine iJ st qf lg hsz ow fun h' nv sb=>?_
  have I1:Inv X jj σ H {s with heap:=h'}:=I.turned (t':=s.toks) (fun b ob hb e=>(sb.2 b hb).trans e) f0 f1 f3 f4 f5;obtain⟨oi,e,c,dd⟩:=id nv;exact⟨en.key,rfl,vW (s:={s with heap:=h'}) e c dd (by decide) ⟨.ref q,H,I1,me,⟨rfl,k,q,uf,rfl⟩,nv,fun b hb=>(hf b hb).1⟩⟩
 done:=by intro X hP hw hK hc i jj s σ H E I hf st hg;subst hP hw hK;obtain⟨hd,hi⟩:=hg;obtain⟨f0,f1,f2,f3,f4,f5⟩:=hf it (by simp);obtain⟨qf,hx,rf,rg,lg,hsz,uo⟩:=Inv.N8 I hd;obtain⟨rfl,rfl⟩:=jR ot lg;exact gE (I.ok.hd hc) st qf lg hsz hi fun h' eb=>⟨rfl,I.turned (t':=s.toks) (fun b ob hb e=>eb b ob hb e) f0 f1 f3 f4 f5⟩
 self:=fun A i s Q E st h=>by
  refine wpAny_pyIter_slot st.typeIs F.slot_dict_keyiterator_iter (wpAny_call_entry F.slot_dict_keyiterator_iter st.typeIs F.entry_dict_keyiterator_iter ?_ (F.args_dict_keyiterator_iter_1 _));refine show wpAny _ _ (ret (.ref it)) _ _ s from ?_
  exact ag ⟨_,rfl,"dict_keyiterator",_,st.typeIs,F.slot_dict_keyiterator_next.lookup,h⟩
end
noncomputable def MX(td:TE):TI:=fun σ H R=>td σ H fun x H1=>∃d o xs,x=.ref d/\(d==sysModules)=false/\H1 d=some (.frz o (nO d xs))/\R (Itn d o xs) H1
theorem GZ{X:Cx}{tg e:Expr}{td:TE}(he:PE X e td):L2.PI X tg e (MX td):=by
 intro jj s σ H R I h;refine thn (he jj s σ H _ I h) fun u s1 ⟨x,H1,I1,rx,d,o,xs,ex,hs,hd,q⟩=>?_
 subst ex;obtain rfl:u=Value.ref d:=rx;obtain⟨qf,hx,es,ep,lg,hsz,uo⟩:=Inv.N8 I1 hd;refine m5 hs qf hx lg (wX (tk:=s1.toks) I1 _ (AX _ lg) ⟨_,az _ rfl,rfl,?_⟩ q);rw[hsz]<;>rfl
theorem FC{d:Addr}{od:Obj}{xs:NL}{g:TG}{tb:TS}{D:Ends}{σ:L2.St}{H:Hp}(Pv:Nat->L2.St->Hp->Prop)(h0:Pv 0 σ H)(hl:∀i σ H,Pv i σ H->H d=some (.frz od (nO d xs)))
  (hs:∀i k q σ H,xs[i]? =some (k,q)->Pv i σ H->g (.ref q) σ H fun σ2 H2=>tb {D with nx:=Pv (i+1),ct:=Pv (i+1),bk:=D.nx} σ2 H2) (hd:∀σ H,Pv xs.length σ H->D.nx σ H):
  ∃W:Nat->Nat->L2.St->Hp->Prop,(∃m,W 0 m σ H)/\∀i m σ H,W i m σ H ->
   ((Itn d od xs).stop i H/\D.nx σ H)\/((Itn d od xs).go i H/\∃N:L2.St->Hp->Prop,(∀σ' H',N σ' H'->∃m',m'<m/\W (i+1) m' σ' H')/\∀x H',(Itn d od xs).yld i H x H'->g x σ H' fun σ2 H2=>tb {D with nx:=N,ct:=N,bk:=D.nx} σ2 H2):=by
 refine⟨fun i m σ H=>m=xs.length - i/\i<=xs.length/\Pv i σ H,⟨xs.length,by simp,bz _,h0⟩,?_⟩;rintro i m σ H ⟨rfl,hi,p⟩;have q:=hl i σ H p;by_cases jr:i<xs.length
 ·refine .inr ⟨⟨q,jr⟩,Pv (i+1),fun σ' H' p'=>⟨xs.length - (i+1),by omega,rfl,jr,p'⟩,fun x H' y=>?_⟩;obtain⟨rfl,k,b,hk,rfl⟩:=y;exact hs i k b σ H' hk p
 ·have e:i=xs.length:=by omega
  subst e;exact .inl ⟨⟨q,au _⟩,hd σ H p⟩
end L3
namespace L3
open PySem PySem.Spec PySem.Calls PyProof.Rows L2
theorem rG(l:Addr)(items:Array Value)(n:Nat)(b:Addr)(o:Obj)(mw:Array Value)(n2:Nat)(hc:o.cls=.type "tuple")(hd:o.data=.seq mw n2)(hs0:¬(!items.isEmpty&& Builtin.List.listTooLong (items.size+mw.size))=true)(zy:items.size<=sizeLine)(qi:items.size+mw.size<=sizeLine+1):
  Meets (Builtin.«list.extend» ⟨[.ref l,.ref b],[]⟩) (fun _ R s=>s.heap.get? l=some {cls:=.type "list",dict:=none,data:=.seq items n,slots:=#[]}/\s.heap.get? b=some o/\R (.ok (.ret Value.none)) {s with heap:=s.heap.update l (Obj.mapSeq fun x=>x++mw),toks:=s.toks}):=
 .of_wp fun prog w A R s h=>by
  obtain⟨oc,od,oa,os'⟩:=o;dsimp only at hc hd;subst hc hd;obtain⟨hp,g,d,tk,os⟩:=s;obtain⟨hl,hb,h⟩:=h;have f1:=AutoSeq1.idx_int;have f2:=AutoSeq1.sub_tuple_tuple;have f3:=AutoSeq1.sub_list_list;have f4:=AutoSeq1.sub_tuple_list;have f5:=AutoSeq1.sub_list_tuple;
  have xf:(items++mw).size<=sizeLine+1:=by rw[Array.size_append];exact qi
  wp_walk using(wpAny_updateSeq hl rfl (hz:=zy) (_hz':=xf)),AutoSeq1.wpAny_loadPart' hl,AutoSeq1.wpAny_loadPart' hb;exact⟨_,rfl,h⟩
noncomputable def GV:V->List V->Hp->VK->Prop:=fun x vs H Q=>∃l b xs zs,x=.ref l/\vs=[.ref b]/\H l=some (.lst xs)/\H b=some (.tup zs)/\xs.length+zs.length<=sizeLine/\Q .non (upd H l (.lst (xs++zs)))
theorem BL{X:Cx}:MtM X "list.extend" GV:=by
 intro jj s σ H x vs v us Q I rx rv h;obtain⟨l,b,xs,zs,rfl,rfl,hH,hB,hz,q⟩:=h;cases rx;obtain⟨u,rfl,ru⟩:=rv.one;cases ru;obtain⟨z,its,n,r,hl,e⟩:=I.BR hH;obtain⟨z2,ve,r2,o,e2,c2,n2,d2⟩:=(show cO X.prog X.w H s.heap b (.tup zs)from I.hok b _ hB);have hl2:=r2.length;have hsz:its.toArray.size+ve.toArray.size<=sizeLine:=by rw[bj,bj];omega
 have Cf:¬(!its.toArray.isEmpty&& Builtin.List.listTooLong (its.toArray.size+ve.toArray.size))=true:=by rw[HQ hsz,Bool.and_false];exact bp
 refine call_meets F.slot_list_extend ⟨_,e,rfl⟩ F.entry_list_extend (F.args_list_extend_2 _ _)
  (rG l its.toArray n b o ve.toArray n2 c2 d2 Cf (by rw[bj];omega) (by omega)) ⟨e,e2,?_⟩
 refine⟨.non,_,I.BS (its':=its++ve) hH e (by simp) (r.append r2) ?_,rfl,q⟩;rw[aj];omega
end L3
namespace RT
open PySem L2 L3
noncomputable def top(i:Nat):Stmt:=PySem.Challenge.pw_rooftold_s13_free.main.body.getD i (.Pass ⟨0,0,0,0⟩)
structure Adr where
 bW:Addr
 cF:Addr
 fK:Addr
 fB:Addr
 iR:Addr
 Roof:Addr
abbrev bmE:List Value:=[.type "Exception",.type "BaseException",.type "object"]
structure Txt(K:W.Frag)(mg:Str->Option Value)(base:Heap)(d:Adr):Prop where
 aZ:∃a,mg "ALL_SIDES" =some (.ref a)/\∀H,SqT K H a [.int 0,.int 1,.int 2,.int 3]
 xM:∃a,mg "STEPS" =some (.ref a)/\CT2 K a [(0,-1),(1,0),(0,1),(-1,0)]
 iO:∃a,mg "SIDE_STARTS" =some (.ref a)/\CT2 K a [(0,0),(1,0),(1,1),(0,1)]
 mV:∃a,mg "QUARTERS" =some (.ref a)/\CT2 K a [(0,0),(1,0),(0,1),(1,1)]
 gT:∃a,mg "HALVES_ABOUT" =some (.ref a)/\CT2 K a [(-1,-1),(0,-1),(1,-1),(-1,0),(1,0),(-1,1),(0,1),(1,1)]
 dQ:∃a,mg "HALVES_AT_A_POINT" =some (.ref a)/\CT2 K a [(-1,-1),(0,-1),(-1,0),(0,0)]
 A0:u9 mg "LINE_FEED" 10
 KQ:u9 mg "BLANK" 32
 KP:u9 mg "COMMA" 44
 jP:u9 mg "DIGIT_ZERO" 48
 xN:u9 mg "DIGIT_NINE" 57
 oI:u9 mg "GREATEST_NUMBER" 64
 uL:u9 mg "MOST_DIGITS" 2
 pZ:u9 mg "FEWEST_CORNERS" 4
 dM:u9 mg "CELLS_IN_A_ROW" 64
 oH:u9 mg "MOST_CELLS" 256
 len:mg "len" =none
 min:mg "min" =none
 max:mg "max" =none
 any:mg "any" =none
 list:mg "list" =none
 dict:mg "dict" =none
 sorted:mg "sorted" =none
 range:mg "range" =none
 enumerate:mg "enumerate" =none
 eG:PyProof.Rows.OwnCls "NoHouse" d.bW bmE "Exception.__new__" mg base
 N6:mg "Roof" =some (.ref d.Roof)
 cQ:Cls K d.Roof
 xB:fY K d.Roof "cells"
 nW:fY K d.Roof "depths"
 pO:fY K d.Roof "heights"
 vR:fY K d.Roof "facings"
 vQ:fY K d.Roof "numbers"
 x9:fY K d.Roof "faces"
 HL:PyProof.Rows.OwnCls "NoFace" d.fB bmE "Exception.__new__" mg base
variable {P:Program}{w:World}{K:W.Frag}{mg:Str->Option Value}{base:Heap}{d:Adr}{f:Addr}{fd:FuncData}
theorem hm{k n:Nat}{A:Around}(h:cT n A)(e:k<=n:=by decide):cT k A:=h.mono e
theorem fS{N ps:List Str}{sc:Scope}(h:aL N ps sc:=by exact⟨rfl,rfl,rfl,by decide+kernel,rfl,by decide+kernel,by decide+kernel⟩):aL N ps sc:=h
theorem dI{K:W.Frag}{n:Str}{s:Stmt}(h:aG K n s:=by dsimp only[L2.KOf];refine' L3.ND ?a ?l ?c ?k;case a|l|c|k=>k_is):aG K n s:=h
theorem pgN{X:Cx}{pos:Pos}{i:Nat}{x:Str}(hN:X.N.Nodup)(hi:X.N[i]? =some x:=by rfl)(hx:Loc X.env.scope x:=by exact Or.inl rfl)(hf:X.fn x=true\/X.env.scope.names.lookup x=some .local:=by first|exact .inl rfl|exact .inr rfl|assumption):PG X (.Name x pos) (jZ i):=JS hN hi hx hf
theorem psN{X:Cx}{pos kb:Pos}{i:Nat}{x:Str}{e:Expr}{te:TE}(hN:X.N.Nodup)(he:PE X e te)(hi:X.N[i]? =some x:=by rfl)(hx:Loc X.env.scope x:=by exact Or.inl rfl)(hs:swapsWith e (some (.Name x kb)) pos.line X.env=pure false:=by rfl)(hf:X.fn x=true\/X.env.scope.names.lookup x=some .local:=by first|exact .inl rfl|exact .inr rfl|assumption):PS X (.Assign [.Name x kb] e pos) (B0 te (jZ i)):=B6 hN hi hx he hs hf
abbrev s_lo:Stmt:=(top 4)
theorem sc_lo:aL ["direction"] ["direction"] (aH s_lo):=fS
noncomputable def sp_lo(K:W.Frag)(d:Adr):Sp:=fun vs H Q _=>∃x:Int,vs=[.int x]/\Q (.int ((x+1)%4)) H
theorem ok_lo(F:Fun K "left_of" "left_of" s_lo f fd)(T:Txt K mg base d):bI P w K mg base CX0 1 f fd ["direction"] (sp_lo K d):=by refine F.ok sc_lo (fun vs H Q E h=>by obtain⟨x,rfl,_⟩:=h;rfl) (fun _ _ _ _ H _ Q E hr h=>?_);have hu:=bE hr;obtain⟨x,rfl,k⟩:=h;refine⟨_,(aD (aQ (cK BF (cK eB (pv 0) aM) aM))),?_⟩;exact⟨_,rfl,_,_,rfl,rfl,_,_,rfl,rfl,(by show(0:Int)<4;decide),k⟩
abbrev s_o:Stmt:=(top 5)
theorem sc_o:aL ["direction"] ["direction"] (aH s_o):=fS
noncomputable def sp_o(K:W.Frag)(d:Adr):Sp:=fun vs H Q _=>∃x:Int,vs=[.int x]/\Q (.int ((x+2)%4)) H
theorem ok_o(F:Fun K "opposite" "opposite" s_o f fd)(T:Txt K mg base d):bI P w K mg base CX0 1 f fd ["direction"] (sp_o K d):=by refine F.ok sc_o (fun vs H Q E h=>by obtain⟨x,rfl,_⟩:=h;rfl) (fun _ _ _ _ H _ Q E hr h=>?_);have hu:=bE hr;obtain⟨x,rfl,k⟩:=h;refine⟨_,(aD (aQ (cK BF (cK eB (pv 0) aM) aM))),?_⟩;exact⟨_,rfl,_,_,rfl,rfl,_,_,rfl,rfl,(by show(0:Int)<4;decide),k⟩
abbrev s_ro:Stmt:=(top 6)
theorem sc_ro:aL ["direction"] ["direction"] (aH s_ro):=fS
noncomputable def sp_ro(K:W.Frag)(d:Adr):Sp:=fun vs H Q _=>∃x:Int,vs=[.int x]/\Q (.int ((x+3)%4)) H
theorem ok_ro(F:Fun K "right_of" "right_of" s_ro f fd)(T:Txt K mg base d):bI P w K mg base CX0 1 f fd ["direction"] (sp_ro K d):=by refine F.ok sc_ro (fun vs H Q E h=>by obtain⟨x,rfl,_⟩:=h;rfl) (fun _ _ _ _ H _ Q E hr h=>?_);have hu:=bE hr;obtain⟨x,rfl,k⟩:=h;refine⟨_,(aD (aQ (cK BF (cK eB (pv 0) aM) aM))),?_⟩;exact⟨_,rfl,_,_,rfl,rfl,_,_,rfl,rfl,(by show(0:Int)<4;decide),k⟩
abbrev s_m:Stmt:=(top 7)
theorem sc_m:aL ["place","step"] ["place","step"] (aH s_m):=fS
noncomputable def sp_m(K:W.Frag)(d:Adr):Sp:=fun vs H Q _=>∃(v u:V)(p q:PI),vs=[v,u]/\C2 K H v p/\C2 K H u q/\∀r H',a9 H H'->T2 H' r (p.1+q.1,p.2+q.2)->Q r H'
theorem ok_m(F:Fun K "moved" "moved" s_m f fd)(T:Txt K mg base d):bI P w K mg base CX0 1 f fd ["place","step"] (sp_m K d):=by refine F.ok sc_m (fun vs H Q E h=>by obtain⟨v,u,p,q,rfl,_⟩:=h;rfl) (fun _ _ _ _ H _ Q E hr h=>?_);have hu:=bE hr;obtain⟨v,u,p,q,rfl,⟨a,rfl,ha⟩,⟨b,rfl,hb⟩,k⟩:=h;refine⟨_,(aD (aQ (cJ (a7 (cK eB (bK bG (pv 0) aM (fun _ _=>rfl)) (bK bG (pv 1) aM (fun _ _=>rfl))) (a7 (cK eB (bK bG (pv 0) aM (fun _ _=>rfl)) (bK bG (pv 1) aM (fun _ _=>rfl))) aC))))),?_⟩;refine⟨_,rfl,a,_,_,_,rfl,rfl,ha,aX (by decide) rfl,_,rfl,b,_,_,_,rfl,rfl,hb,aX (by decide) rfl,_,_,rfl,rfl,_,rfl,a,_,_,_,rfl,rfl,ha,aX (by decide) rfl,_,rfl,b,_,_,_,rfl,rfl,hb,aX (by decide) rfl,_,_,rfl,rfl,(by show 2<=sizeLine;decide),fun t ht=>?_⟩;exact k _ _ (a9.upd ht) ⟨t,rfl,a8⟩
abbrev s_b:Stmt:=(top 8)
theorem sc_b:aL ["place","direction"] ["place","direction"] (aH s_b):=fS
noncomputable def sp_b(K:W.Frag)(d:Adr):Sp:=fun vs H Q _=>∃(v:V)(p:PI)(s:Nat),vs=[v,.int s]/\C2 K H v p/\s<4/\∀r H',a9 H H'->T2 H' r (RM.aI p s)->Q r H'
theorem ok_b(F:Fun K "beyond" "beyond" s_b f fd)(T:Txt K mg base d)(D_m:aP P w K mg base CX0 1 "moved" ["place","step"] (sp_m K d)):bI P w K mg base CX0 2 f fd ["place","direction"] (sp_b K d):=by
 refine F.ok sc_b (fun vs H Q E h=>by obtain⟨v,p,s,rfl,_⟩:=h;rfl) (fun _ _ _ _ H _ Q E hr h=>?_);have hu:=bE hr;obtain⟨aSTEPS,xM,c_STEPS⟩:=T.xM;obtain⟨v,p,s,rfl,hv,hs,k⟩:=h;obtain⟨xs,hx,pr⟩:=c_STEPS;obtain⟨q,hq,e⟩:∃q:PI,([(0,-1),(1,0),(0,1),(-1,0)]:List PI)[s]? =some q/\((p.1+q.1,p.2+q.2):PI)=RM.aI p s:=by
  have cs:s=0\/s=1\/s=2\/s=3:=by omega
  rcases cs with rfl|rfl|rfl|rfl
  ·exact⟨_,rfl,by simp[RM.aI];omega⟩
  ·exact⟨_,rfl,by simp[RM.aI]⟩
  ·exact⟨_,rfl,by simp[RM.aI]⟩
  ·exact⟨_,rfl,by simp[RM.aI];omega⟩
 obtain⟨u,ue,ru⟩:=iZ pr hq;refine⟨_,(aD (aQ (aS D_m (hm hr) aU rfl (a7 (pv 0) (a7 (bK bG (eX xM rfl) (pv 1) (fun _ _=>rfl)) aC))))),?_⟩;exact⟨_,rfl,_,rfl,_,_,_,_,rfl,rfl,hx _,aX (by omega) (by simpa using ue),v,u,p,q,rfl,hv,ru _,fun r H' sm t=>k r H' sm (by rw[<- e];exact t)⟩
abbrev s_ss:Stmt:=(top 9)
theorem sc_ss:aL ["square","side"] ["square","side"] (aH s_ss):=fS
noncomputable def sp_ss(K:W.Frag)(d:Adr):Sp:=fun vs H Q _=>∃(v:V)(p:PI)(s:Nat),vs=[v,.int s]/\C2 K H v p/\s<4/\∀r H',a9 H H'->T2 H' r (RM.aF p s)->Q r H'
theorem ok_ss(F:Fun K "side_start" "side_start" s_ss f fd)(T:Txt K mg base d)(D_m:aP P w K mg base CX0 1 "moved" ["place","step"] (sp_m K d)):bI P w K mg base CX0 2 f fd ["square","side"] (sp_ss K d):=by
 refine F.ok sc_ss (fun vs H Q E h=>by obtain⟨v,p,s,rfl,_⟩:=h;rfl) (fun _ _ _ _ H _ Q E hr h=>?_);have hu:=bE hr;obtain⟨aSIDE_STARTS,iO,c_SIDE_STARTS⟩:=T.iO;obtain⟨v,p,s,rfl,hv,hs,k⟩:=h;obtain⟨xs,hx,pr⟩:=c_SIDE_STARTS;obtain⟨q,hq,e⟩:∃q:PI,([(0,0),(1,0),(1,1),(0,1)]:List PI)[s]? =some q/\((p.1+q.1,p.2+q.2):PI)=RM.aF p s:=by
  have cs:s=0\/s=1\/s=2\/s=3:=by omega
  rcases cs with rfl|rfl|rfl|rfl<;>exact⟨_,rfl,by simp[RM.aF]⟩
 obtain⟨u,ue,ru⟩:=iZ pr hq;refine⟨_,(aD (aQ (aS D_m (hm hr) aU rfl (a7 (pv 0) (a7 (bK bG (eX iO rfl) (pv 1) (fun _ _=>rfl)) aC))))),?_⟩;exact⟨_,rfl,_,rfl,_,_,_,_,rfl,rfl,hx _,aX (by omega) (by simpa using ue),v,u,p,q,rfl,hv,ru _,fun r H' sm t=>k r H' sm (by rw[<- e];exact t)⟩
abbrev s_se:Stmt:=(top 10)
theorem sc_se:aL ["square","side"] ["square","side"] (aH s_se):=fS
noncomputable def sp_se(K:W.Frag)(d:Adr):Sp:=fun vs H Q _=>∃(v:V)(p:PI)(s:Nat),vs=[v,.int s]/\C2 K H v p/\s<4/\∀r H',a9 H H'->T2 H' r (RM.aF p (s+1))->Q r H'
theorem ok_se(F:Fun K "side_end" "side_end" s_se f fd)(T:Txt K mg base d)(D_ss:aP P w K mg base CX0 2 "side_start" ["square","side"] (sp_ss K d))(D_lo:aP P w K mg base CX0 1 "left_of" ["direction"] (sp_lo K d)):bI P w K mg base CX0 3 f fd ["square","side"] (sp_se K d):=by
 refine F.ok sc_se (fun vs H Q E h=>by obtain⟨v,p,s,rfl,_⟩:=h;rfl) (fun _ _ _ _ H _ Q E hr h=>?_);have hu:=bE hr;obtain⟨v,p,s,rfl,hv,hs,k⟩:=h;refine⟨_,(aD (aQ (aS D_ss (hm hr) aU rfl (a7 (pv 0) (a7 (aS D_lo (hm hr) aU rfl (a7 (pv 1) aC)) aC))))),?_⟩;refine⟨_,rfl,_,rfl,_,rfl,v,p,(s+1)%4,?_,hv,by omega,fun r H' sm t=>k r H' sm ?_⟩
 ·simp
 ·have e:RM.aF p ((s+1)%4)=RM.aF p (s+1):=by unfold RM.aF;rw[mod_mod]
  rw[<- e];exact t
abbrev s_br:Stmt:=(top 11)
theorem sc_br:aL ["place"] ["place"] (aH s_br):=fS
noncomputable def sp_br(K:W.Frag)(d:Adr):Sp:=fun vs H Q _=>∃(v:V)(p:PI),vs=[v]/\C2 K H v p/\∀r H',a9 H H'->T2 H' r (p.2,p.1)->Q r H'
theorem ok_br(F:Fun K "by_row" "by_row" s_br f fd)(T:Txt K mg base d):bI P w K mg base CX0 1 f fd ["place"] (sp_br K d):=by refine F.ok sc_br (fun vs H Q E h=>by obtain⟨v,p,rfl,_⟩:=h;rfl) (fun _ _ _ _ H _ Q E hr h=>?_);have hu:=bE hr;obtain⟨v,p,rfl,⟨a,rfl,ha⟩,k⟩:=h;refine⟨_,(aD (aQ (cJ (a7 (bK bG (pv 0) aM (fun _ _=>rfl)) (a7 (bK bG (pv 0) aM (fun _ _=>rfl)) aC))))),?_⟩;refine⟨_,rfl,a,_,_,_,rfl,rfl,ha,aX (by decide) rfl,_,rfl,a,_,_,_,rfl,rfl,ha,aX (by decide) rfl,(by show 2<=sizeLine;decide),fun t ht=>?_⟩;exact k _ _ (a9.upd ht) ⟨t,rfl,a8⟩
abbrev s_pb:Stmt:=(top 28)
theorem sc_pb:aL ["row","mark","parts","part","value"] ["row","mark"] (aH s_pb):=fS
theorem DM{ns:List Int}{i:Nat}{y:V}(h:(ns.map V.int)[i]? =some y):∃z,ns[i]? =some z/\y=V.int z:=by
 rw[bf]at h;cases e:ns[i]? with
 |none=>rw[e]at h;cases h
 |some z=>rw[e]at h;exact⟨z,rfl,(Option.some.inj h).symm⟩
theorem few{n m:Nat}(h:n<=m)(hm:m<=100000:=by omega):n<sizeLine:=ig (de h hm) (by decide)
noncomputable def sp_pb(K:W.Frag)(d:Adr):Sp:=fun vs H Q _=>∃(a:Addr)(ns:List Int)(m:Int),vs=[.ref a,.int m]/\SqL K H a (ns.map V.int)/\ns.length<=4096/\∀p H',a9 H H'->H p=none->LLI H' p (RM.parts m ns)->Q (.ref p) H'
theorem ok_pb(F:Fun K "parts_between" "parts_between" s_pb f fd)(T:Txt K mg base d):bI P w K mg base CX0 1 f fd ["row","mark"] (sp_pb K d):=by
 refine F.ok sc_pb (fun vs H Q E h=>by obtain⟨a,ns,m,rfl,_⟩:=h;rfl) (fun _ _ _ _ H _ Q E hr h=>?_);have hu:=bE hr;obtain⟨a,ns,m,rfl,hS,jt,k⟩:=h;refine⟨_,(aA (psN (i:=2) sc_pb.nd (fF aC))
   (aA (psN (i:=3) sc_pb.nd (fF aC))
   (aA (bO PassesOwn.never rfl (dH (pv 0)) (pgN (i:=4) sc_pb.nd) (aD (cD (bU jV (pv 4) (pv 1) (c8 _)) (aA (cW (hO PySem.F.plainAttrs_list PySem.F.slot_list_append PySem.F.type_list_append cH (pv 2) (a7 (pv 3) aC)))
   (aD (psN (i:=3) sc_pb.nd (fF aC)))) (aD (cW (hO PySem.F.plainAttrs_list PySem.F.slot_list_append PySem.F.type_list_append cH (pv 3) (a7 (pv 4) aC)))))))
   (aA (cW (hO PySem.F.plainAttrs_list PySem.F.slot_list_append PySem.F.type_list_append cH (pv 2) (a7 (pv 3) aC)))
   (aD (aQ (pv 2))))))),?_⟩
 refine⟨bz _,fun p hp=>?_⟩;refine⟨bz _,fun q hq=>?_⟩;have vd:p≠q:=aJ a8 hq;refine⟨_,rfl,a,rfl,⟨_,(a9.trans (a9.upd hp) (a9.upd hq)).seq hS⟩,gU (K:=K) (a:=a) (xs:=ns.map V.int) (fun i σ H2=>∃(q:Addr)(done:List (List Int))(cur:List Int)(xs:List V)(v:Option V),
  σ=[some (.ref a),some (.int m),some (.ref p),some (.ref q),v]/\a9 H H2/\H q=none/\H2 p=some (.lst xs)/\H2 q=some (.lst (cur.map V.int))/\p≠q/\
  Paired (fun v r=>∃b,v=V.ref b/\b≠p/\b≠q/\H2 b=some (.lst (r.map V.int))) xs done/\done++RM.partsFrom m cur (ns.drop i)=RM.parts m ns/\done.length<=i/\cur.length<=i)
  ⟨q,[],[],[],none,rfl,a9.trans (a9.upd hp) (a9.upd hq),(a9.upd hp).free hq,by rw[aB vd,a8],a8,vd,.nil,RM.iH m ns,au _,au _⟩
  (fun i σ H2 _ ⟨_,_,_,_,_,_,s2,_⟩=>s2.seq hS) ?_ ?_⟩
 ·rintro i y σ H2 hi ⟨q,done,cur,xs,v,rfl,s2,fq,h1,h2,vd,pr,hd,l1,l2⟩;obtain⟨z,hz,rfl⟩:=DM hi;have ql:i<ns.length:=(aq.mp hz).1;have lx:=pairs_len pr;rw[RM.drop_cons hz]at hd;refine⟨_,rfl,_,rfl,rfl,_,rfl,?_⟩;refine bY (fun c=>?_) (fun c=>?_)
  ·have e:z=m:=by simpa using c
   refine⟨_,rfl,.inl ⟨rfl,_,SqL.of h1⟩,_,rfl,p,xs,.ref q,rfl,rfl,h1,few (m:=4096) (by omega),?_⟩;refine⟨bz _,fun q' qd=>?_⟩;have hp':(upd H2 p (.lst (xs++[.ref q]))) p=some (.lst (xs++[.ref q])):=a8;have hq2:(upd H2 p (.lst (xs++[.ref q]))) q=some (.lst (cur.map V.int)):=by rw[aB vd.symm];exact h2
   have n1:p≠q':=aJ hp' qd;have n2:q≠q':=aJ hq2 qd;have s3:a9 H (upd H2 p (.lst (xs++[.ref q]))):=a9.put s2 hp;refine⟨q',done++[cur],[],xs++[.ref q],_,rfl,a9.trans s3 (a9.upd qd),s3.free qd,by rw[aB n1,a8],a8,n1,?_,?_,by rw[aj];simp;omega,bz _⟩
   ·refine b8 ⟨q,rfl,vd.symm,n2,by rw[aB n2];exact hq2⟩ (aK (fun v r ⟨b,e1,e2,e3,e4⟩=>?_) pr);have e5:(upd H2 p (.lst (xs++[.ref q]))) b=some (.lst (r.map V.int)):=by rw[aB e2];exact e4
    have n3:b≠q':=aJ e5 qd;exact⟨b,e1,e2,n3,by rw[aB n3];exact e5⟩
   ·rw[RM.iI e]at hd;rw[<- hd];simp
  ·have e:¬z=m:=by simpa using c
   refine⟨_,rfl,.inl ⟨rfl,_,SqL.of h2⟩,_,rfl,q,_,.int z,rfl,rfl,h2,by rw[ai];exact few (m:=4096) (by omega),?_⟩;refine⟨q,done,cur++[z],xs,_,rfl,a9.put s2 fq,fq,by rw[aB vd];exact h1,by rw[a8,cf];rfl,vd,aK (fun v r ⟨b,e1,e2,e3,e4⟩=>⟨b,e1,e2,e3,by rw[aB e3];exact e4⟩) pr,?_,by omega,by rw[aj];simp;omega⟩;rw[RM.gR e]at hd;exact hd
 ·rintro σ H2 ⟨q,done,cur,xs,v,rfl,s2,fq,h1,h2,vd,pr,hd,l1,l2⟩;have lx:=pairs_len pr;rw[ai]at hd l1;rw[List.drop_eq_nil_of_le (au _)]at hd;have hd:done++[cur]=RM.parts m ns:=hd;refine⟨_,rfl,.inl ⟨rfl,_,SqL.of h1⟩,_,rfl,p,xs,.ref q,rfl,rfl,h1,few (m:=4096) (by omega),?_⟩;refine⟨_,rfl,k p _ (a9.put s2 hp) hp ⟨_,a8,?_⟩⟩;rw[<- hd];refine b8 ⟨q,rfl,by rw[aB vd.symm];exact h2⟩ (aK (fun v r ⟨b,e1,e2,e3,e4⟩=>⟨b,e1,by rw[aB e2];exact e4⟩) pr)
abbrev s_dt:Stmt:=(top 29)
theorem sc_dt:aL ["value"] ["value"] (aH s_dt):=fS
noncomputable def sp_dt(K:W.Frag)(d:Adr):Sp:=fun vs H Q E=>∃n:Int,vs=[.int n]/\(∀z,RM.lB n=some z->Q (.int z) H)/\(RM.lB n=none->E (.ref d.bW) none H)
theorem ok_dt(F:Fun K "digit_told" "digit_told" s_dt f fd)(T:Txt K mg base d):bI P w K mg base CXf 1 f fd ["value"] (sp_dt K d):=by
 refine okX F sc_dt (fun vs H Q E h=>by obtain⟨n,rfl,_⟩:=h;rfl) (fun _ _ _ _ H _ Q E hr hok h=>?_);have hu:=bE hr;obtain⟨n,rfl,k1,k2⟩:=h;refine⟨_,(aA (cD (PW.pt (yM (bU yY (pv 0) (cU T.jP rfl) (c8 _)) (sQ (bU vN (pv 0) (cU T.xN rfl) (c8 _))))) (aD (dG hok PySem.F.excBase_Exception T.eG rfl)) bB)
   (aD (aQ (cK pN (pv 0) (cU T.jP rfl))))),?_⟩
 refine⟨_,rfl,_,_,rfl,rfl,_,rfl,?_⟩;refine bY (fun c=>?_) (fun c=>?_)
 ·have c:n<48:=by simpa using c
  exact F4 (k2 (by unfold RM.lB;rw[ah (.inl c)]))
 ·have c:¬n<48:=by simpa using c
  refine⟨_,rfl,_,_,rfl,rfl,_,rfl,?_⟩;refine bY (fun c2=>?_) (fun c2=>?_)
  ·have c2:57<n:=by simpa using c2
   exact k2 (by unfold RM.lB;rw[ah (.inr c2)])
  ·have c2:¬57<n:=by simpa using c2
   exact⟨_,rfl,_,_,rfl,rfl,k1 _ (by unfold RM.lB;rw[af (by omega)])⟩
abbrev s_nt:Stmt:=(top 30)
theorem sc_nt:aL ["row","number","value"] ["row"] (aH s_nt):=fS
noncomputable def sp_nt(K:W.Frag)(d:Adr):Sp:=fun vs H Q E=>∃(v:V)(ns:List Int),vs=[v]/\LI H v ns/\ns.length<=4096/\(∀z,RM.d6 ns=some z->Q (.int z) H)/\(RM.d6 ns=none->E (.ref d.bW) none H)
theorem ok_nt(F:Fun K "number_told" "number_told" s_nt f fd)(T:Txt K mg base d)(D_dt:aP P w K mg base CXf 1 "digit_told" ["value"] (sp_dt K d)):bI P w K mg base CXf 2 f fd ["row"] (sp_nt K d):=by
 refine okX F sc_nt (fun vs H Q E h=>by obtain⟨v,ns,rfl,_⟩:=h;rfl) (fun _ _ _ _ H _ Q E hr hok h=>?_);have hu:=bE hr;obtain⟨v,ns,rfl,⟨a,rfl,ha⟩,hl,k1,k2⟩:=h;have hS:SqL K H a (ns.map V.int):=SqL.of ha;have el:(ns.map V.int).length=ns.length:=ai ..;refine⟨_,(aA (cD (PW.pt (yM (bU jV (bM bS (by rfl) T.len PySem.boot_len (a7 (pv 0) aC)) aM (c8 _)) (sQ (bU vN (bM bS (by rfl) T.len PySem.boot_len (a7 (pv 0) aC)) (cU T.uL rfl) (c8 _))))) (aD (dG hok PySem.F.excBase_Exception T.eG rfl)) bB)
   (aA (cD (PW.pt (kJ (bU vN (bM bS (by rfl) T.len PySem.boot_len (a7 (pv 0) aC)) aM (c8 _)) (lT (bU jV (bK jL (pv 0) aM (fun _ _=>rfl)) (cU T.jP rfl) (c8 _))))) (aD (dG hok PySem.F.excBase_Exception T.eG rfl)) bB)
   (aA (psN (i:=1) sc_nt.nd aM)
   (aA (bO PassesOwn.leaving rfl (dH (pv 0)) (pgN (i:=2) sc_nt.nd) (aD (psN (i:=1) sc_nt.nd (cK eB (cK BE (pv 1) aM) (aS D_dt (hm hr) (yR hok) rfl (a7 (pv 2) aC))))))
   (aA (cD (bU vN (pv 1) (cU T.oI rfl) (c8 _)) (aD (dG hok PySem.F.excBase_Exception T.eG rfl)) bB)
   (aD (aQ (pv 1)))))))),?_⟩
 refine⟨_,rfl,a,_,rfl,.inl hS,rfl,_,rfl,?_⟩;refine bY (fun c=>?_) (fun c=>?_)
 ·have c:ns.length=0:=by simpa using c
  exact F4 (k2 (by unfold RM.d6;rw[ah (.inl c)]))
 have c:¬ns.length=0:=by simpa using c
 refine⟨_,rfl,a,_,rfl,.inl hS,_,_,rfl,rfl,_,rfl,?_⟩;refine bY (fun c2=>?_) (fun c2=>?_)
 ·have c2:2<ns.length:=by have:=ba c2;rw[el]at this;omega
  exact k2 (by unfold RM.d6;rw[ah (.inr c2)])
 have c2:¬2<ns.length:=by intro z;exact c2 (decide_eq_true (by rw[el];omega))
 have n1:¬(ns.length=0\/2<ns.length):=by omega
 refine(fun(rest:¬(1<ns.length/\ns.head?=some 48)->?R)=>?main) ?hr;case main=>
  refine⟨_,rfl,a,_,rfl,.inl hS,_,_,rfl,rfl,_,rfl,?_⟩;refine bY (fun c3=>?_) (fun c3=>?_)
  ·have c3:1<ns.length:=by have:=ba c3;rw[el]at this;omega
   obtain⟨y,hy⟩:∃y,ns[0]? =some y:=⟨ns[0],bx (by omega)⟩
   refine⟨_,rfl,a,_,_,_,rfl,rfl,hS,aX (v:=V.int y) (by decide) (by rw[bf];show ns[0]?.map V.int=_;rw[hy];rfl),rfl,_,rfl,?_⟩;have hh:ns.head?=some y:=by rw[List.head?_eq_getElem?];exact hy
   refine bY (fun c4=>?_) (fun c4=>?_)
   ·have c4:y=48:=by simpa using c4
    exact k2 (by unfold RM.d6;rw[af n1,ah ⟨c3,by rw[hh,c4]⟩])
   ·have c4:¬y=48:=by simpa using c4
    exact rest fun z=>c4 (by have:=z.2;rw[hh]at this;exact Option.some.inj this)
  ·have c3:¬1<ns.length:=by intro z;exact c3 (decide_eq_true (by rw[el];omega))
   exact zK (rest fun z=>c3 z.1)
 case hr=>
  intro c3;have nb:∀o,ns.foldlM RM.hV 0=o->RM.d6 ns=o.bind fun n=>if 64<n then none else some n:=fun o e=>by unfold RM.d6;rw[af n1,af c3,e]
  refine⟨_,rfl,a,rfl,⟨_,hS⟩,gU (K:=K) (a:=a) (xs:=ns.map V.int) (fun i σ H2=>H2=H/\∃(n:Int)(v:Option V),σ=[some (.ref a),some (.int n),v]/\(ns.take i).foldlM RM.hV 0=some n)
   ⟨rfl,0,none,rfl,rfl⟩ (fun i σ H2 _ ⟨e,_⟩=>by rw[e];exact hS) ?_ ?_⟩
  ·rintro i y σ H2 hi ⟨rfl,n,v,rfl,hn⟩;obtain⟨z,hz,rfl⟩:=DM hi;refine⟨_,rfl,_,_,rfl,rfl,.inr ⟨by decide,by decide⟩,_,rfl,z,rfl,fun q hq=>⟨_,_,rfl,rfl,rfl,_,_,rfl,?_⟩,fun hq=>?_⟩
   ·rw[RM.r8 hn hz];unfold RM.hV;rw[hq];rfl
   ·refine k2 ?_;have e:RM.hV n z=none:=by unfold RM.hV;rw[hq];rfl
    rw[nb _ (RM.A7 hn hz e)];rfl
  ·rintro σ H2 ⟨rfl,n,v,rfl,hn⟩;rw[el,bg (au _)]at hn;refine⟨_,rfl,_,_,rfl,rfl,_,rfl,?_⟩;refine bY (fun c4=>?_) (fun c4=>?_)
   ·have c4:64<n:=by simpa using c4
    exact k2 (by rw[nb _ hn];show(if 64<n then none else some n)=none;rw[ah c4])
   ·have c4:¬64<n:=by simpa using c4
    exact⟨_,rfl,k1 n (by rw[nb _ hn];show(if 64<n then none else some n)=some n;rw[af c4])⟩
abbrev s_ct:Stmt:=(top 31)
theorem sc_ct:aL ["row","numbers","part"] ["row"] (aH s_ct):=fS
def NR:List Int->Option (Int×Int)
 |[a,b]=>some (a,b)
 |_=>none
noncomputable def sp_ct(K:W.Frag)(d:Adr):Sp:=fun vs H Q E=>∃(v:V)(ns:List Int),vs=[v]/\LI H v ns/\ns.length<=4096/\(∀z,RM.d8 ns=some z->∀r H',a9 H H'->T2 H' r z->Q r H')/\(RM.d8 ns=none->E (.ref d.bW) none H)
theorem ok_ct(F:Fun K "corner_told" "corner_told" s_ct f fd)(T:Txt K mg base d)(D_pb:aP P w K mg base CX0 1 "parts_between" ["row","mark"] (sp_pb K d))(D_nt:aP P w K mg base CXf 2 "number_told" ["row"] (sp_nt K d)):bI P w K mg base CXf 3 f fd ["row"] (sp_ct K d):=by
 refine okX F sc_ct (fun vs H Q E h=>by obtain⟨v,ns,rfl,_⟩:=h;rfl) (fun _ _ _ _ H _ Q E hr hok h=>?_);have hu:=bE hr;obtain⟨v,ns,rfl,⟨a,rfl,ha⟩,hl,k1,k2⟩:=h;refine⟨_,(aA (vE hok (i:=1) (own:=[("part",2)]) rfl sc_ct.nd rfl rfl (by exact wN rfl rfl rfl rfl) (dH (aS D_pb (hm hr) aU rfl (a7 (pv 0) (a7 (cU T.KP rfl) aC)))) (fQ (by first|decide+kernel|kernel_rfl)) (fun _ _ _ _ _=>(pgN (i:=2) sc_ct.nd)) (fun _ _ _ _ _ hk=>(aS D_nt (hm hr) (HH (E':=fun c=>E c none H) hk) rfl (a7 (pv 2) aC))))
   (aA (cD (bU LM (bM bS (by rfl) T.len PySem.boot_len (a7 (pv 1) aC)) aM (c8 _)) (aD (dG hok PySem.F.excBase_Exception T.eG rfl)) bB)
   (aD (aQ (cJ (a7 (bK jL (pv 1) aM (fun _ _=>rfl)) (a7 (bK jL (pv 1) aM (fun _ _=>rfl)) aC))))))),?_⟩
 refine⟨_,rfl,a,ns,44,rfl,SqL.of ha,hl,fun p H1 sm fp ⟨xs,hp,pr⟩=>⟨p,rfl,⟨_,SqL.of hp⟩,fun D hD=>m4 (K:=K) (a:=p) (xs:=xs)
  (fun i H2=>a9 H1 H2/\∃zs,H2 D=some (.lst (zs.map V.int))/\((RM.parts 44 ns).take i).mapM RM.d6=some zs) ⟨a9.upd hD,[],a8,rfl⟩ (fun i H2 _ ⟨s2,_⟩=>s2.seq (SqL.of hp)) ?_ ?_⟩⟩
 ·rintro i x H2 hx ⟨s2,zs,h2,hz⟩;obtain⟨row,pd,sj⟩:=pairs_at pr hx;have hm:=ay pd;have l1:zs.length<=4097:=by have:=RM.tE hz;have h3:=RM.pM 44 ns;rw[bu]at this;omega
  refine⟨rfl,?_⟩;refine⟨_,rfl,x,row,rfl,sj.mono s2,de (RM.iG hm) hl,fun z xf=>⟨_,h2,by rw[ai];exact few l1,a9.put s2 hD,zs++[z],by rw[a8,cf];rfl,RM.pQ hz pd xf⟩,fun hn=>k2 ?_⟩;unfold RM.d8;rw[RM.pR hm hn];rfl
 ·rintro H2 ⟨s2,zs,h2,hz⟩;rw[pairs_len pr,bg (au _)]at hz;refine⟨_,rfl,D,_,rfl,.inl (SqL.of h2),rfl,_,rfl,?_⟩;have hc:RM.d8 ns=NR zs:=by
   unfold RM.d8;rw[hz];match zs with
   |[]=>rfl
   |[_]=>rfl
   |[_,_]=>rfl
   |_::_::_::_=>rfl
  refine bY (fun c=>k2 ?_) (fun c=>?_)
  ·rw[hc];match zs,c with
   |[],_=>rfl
   |[_],_=>rfl
   |[_,_],c=>simp at c
   |_::_::_::_,_=>rfl
  ·match zs,c,hc,h2 with
   |[],c,_,_=>simp at c
   |[_],c,_,_=>simp at c
   |_::_::_::_,c,_,_=>simp at c;omega
   |[x,y],_,hc,h2=>refine⟨_,rfl,D,_,_,_,rfl,rfl,SqL.of h2,aX (v:=V.int x) (by decide) rfl,_,rfl,D,_,_,_,rfl,rfl,SqL.of h2,aX (v:=V.int y) (by decide) rfl,(by show 2<=sizeLine;decide),fun t ht=>?_⟩;exact k1 (x,y) hc _ _ (a9.trans sm (a9.trans s2 (a9.upd ht))) ⟨t,rfl,a8⟩
abbrev s_wt:Stmt:=(top 32)
theorem sc_wt:aL ["row","corners","part"] ["row"] (aH s_wt):=fS
noncomputable def sp_wt(K:W.Frag)(d:Adr):Sp:=fun vs H Q E=>∃(v:V)(ns:List Int),vs=[v]/\LI H v ns/\ns.length<=4096/\(∀z,RM.iX ns=some z->∀r H',a9 H H'->H r=none->LT H' (.ref r) z->Q (.ref r) H')/\(RM.iX ns=none->E (.ref d.bW) none H)
theorem ok_wt(F:Fun K "walk_told" "walk_told" s_wt f fd)(T:Txt K mg base d)(D_pb:aP P w K mg base CX0 1 "parts_between" ["row","mark"] (sp_pb K d))(D_ct:aP P w K mg base CXf 3 "corner_told" ["row"] (sp_ct K d)):bI P w K mg base CXf 4 f fd ["row"] (sp_wt K d):=by
 refine okX F sc_wt (fun vs H Q E h=>by obtain⟨v,ns,rfl,_⟩:=h;rfl) (fun _ _ _ _ H _ Q E hr hok h=>?_);have hu:=bE hr;obtain⟨v,ns,rfl,⟨a,rfl,ha⟩,hl,k1,k2⟩:=h;refine⟨_,(aA (vE hok (i:=1) (own:=[("part",2)]) rfl sc_wt.nd rfl rfl (by exact wN rfl rfl rfl rfl) (dH (aS D_pb (hm hr) aU rfl (a7 (pv 0) (a7 (cU T.KQ rfl) aC)))) (fQ (by first|decide+kernel|kernel_rfl)) (fun _ _ _ _ _=>(pgN (i:=2) sc_wt.nd)) (fun _ _ _ _ _ hk=>(aS D_ct (hm hr) (HH (E':=fun c=>E c none H) hk) rfl (a7 (pv 2) aC))))
   (aA (cD (bU yY (bM bS (by rfl) T.len PySem.boot_len (a7 (pv 1) aC)) (cU T.pZ rfl) (c8 _)) (aD (dG hok PySem.F.excBase_Exception T.eG rfl)) bB)
   (aD (aQ (pv 1))))),?_⟩
 refine⟨_,rfl,a,ns,32,rfl,SqL.of ha,hl,fun p H1 sm fp ⟨xs,hp,pr⟩=>⟨p,rfl,⟨_,SqL.of hp⟩,fun D hD=>m4 (K:=K) (a:=p) (xs:=xs)
  (fun i H2=>a9 H1 H2/\∃ys zs,H2 D=some (.lst ys)/\Paired (T2 H2) ys zs/\((RM.parts 32 ns).take i).mapM RM.d8=some zs) ⟨a9.upd hD,[],[],a8,.nil,rfl⟩ (fun i H2 _ ⟨s2,_⟩=>s2.seq (SqL.of hp)) ?_ ?_⟩⟩
 ·rintro i x H2 hx ⟨s2,ys,zs,h2,py,hz⟩;obtain⟨row,pd,sj⟩:=pairs_at pr hx;have hm:=ay pd;have l1:ys.length<=4097:=by have:=RM.tE hz;have h3:=RM.pM 32 ns;rw[bu]at this;have:=pairs_len py;omega
  refine⟨rfl,?_⟩;refine⟨_,rfl,x,row,rfl,sj.mono s2,de (RM.iG hm) hl,fun z xf r H3 s3 t3=>?_,fun hn=>k2 ?_⟩
  ·have h3:=s3 _ _ h2;refine⟨ys,h3,few l1,a9.put (a9.trans s2 s3) hD,ys++[r],zs++[z],a8,b8 (t3.upd h3) (aK (fun _ _ q=>(q.mono s3).upd h3) py),RM.pQ hz pd xf⟩
  ·unfold RM.iX;rw[RM.pR hm hn];rfl
 ·rintro H2 ⟨s2,ys,zs,h2,py,hz⟩;rw[pairs_len pr,bg (au _)]at hz;have hc:RM.iX ns=(if zs.length<4 then none else some zs):=by unfold RM.iX;rw[hz];rfl
  have ly:=pairs_len py;refine⟨_,rfl,D,_,rfl,.inl (SqL.of h2),_,_,rfl,rfl,_,rfl,?_⟩;refine bY (fun c=>k2 ?_) (fun c=>?_)
  ·have c:=ba c;rw[hc,ah (by omega)]
  ·have c:¬zs.length<4:=fun z=>c (decide_eq_true (by omega))
   exact⟨_,rfl,k1 zs (by rw[hc,af c]) D H2 (a9.trans sm s2) (sm.free hD) ⟨D,ys,rfl,h2,py⟩⟩
abbrev s_wt2:Stmt:=(top 33)
theorem sc_wt2:aL ["t","rows","rest","row"] ["t"] (aH s_wt2):=fS
noncomputable def sp_wt2(K:W.Frag)(d:Adr):Sp:=fun vs H Q E=>∃(a:Addr)(ns:List Int),vs=[.ref a]/\SqL K H a (ns.map V.int)/\ns.length<=4096/\(∀z,RM.e9 ns=some z->∀r H',a9 H H'->LLT H' r z->Q r H')/\(RM.e9 ns=none->E (.ref d.bW) none H)
theorem ok_wt2(F:Fun K "walks_told" "walks_told" s_wt2 f fd)(T:Txt K mg base d)(D_pb:aP P w K mg base CX0 1 "parts_between" ["row","mark"] (sp_pb K d))(D_wt:aP P w K mg base CXf 4 "walk_told" ["row"] (sp_wt K d)):bI P w K mg base CXf 5 f fd ["t"] (sp_wt2 K d):=by
 refine okX F sc_wt2 (fun vs H Q E h=>by obtain⟨a,ns,rfl,_⟩:=h;rfl) (fun _ _ _ _ H _ Q E hr hok h=>?_);have hu:=bE hr;obtain⟨a,ns,rfl,hS,hl,k1,k2⟩:=h;refine⟨_,(aA (psN (i:=1) sc_wt2.nd (aS D_pb (hm hr) aU rfl (a7 (pv 0) (a7 (cU T.A0 rfl) aC))))
   (aA (psN (i:=2) sc_wt2.nd (B8 PySem.F.plainAttrs_list PySem.F.slot_list_pop PySem.F.type_list_pop BK (pv 1)))
   (aA (cD (PW.pt (yM (bU vN (bM bS (by rfl) T.len PySem.boot_len (a7 (pv 2) aC)) aM (c8 _)) (sQ (bU jV (bM bS (by rfl) T.len PySem.boot_len (a7 (pv 1) aC)) aM (c8 _))))) (aD (dG hok PySem.F.excBase_Exception T.eG rfl)) bB)
   (aD (aQ (MG hok (own:=[("row",3)]) rfl sc_wt2.nd (dH (pv 1)) (fQ (by first|decide+kernel|kernel_rfl)) (fun _ _ _ _ _=>(pgN (i:=3) sc_wt2.nd)) (fun _ _ _ _ _ hk=>(aS D_wt (hm hr) (HH (E':=fun c=>E c none H) hk) rfl (a7 (pv 3) aC))))))))),?_⟩
 refine⟨_,rfl,a,ns,10,rfl,hS,hl,fun p H1 sm fp ⟨xs,hp,pr⟩=>?_⟩;have lp:=RM.pM 10 ns;have lx:=pairs_len pr;have jn:RM.parts 10 ns≠[]:=RM.yS 10 ns;have l0:0<(RM.parts 10 ns).length:=fy.mpr jn;obtain⟨last,xh⟩:∃last,(RM.parts 10 ns)[(RM.parts 10 ns).length - 1]? =some last:=⟨_,bx (by omega)⟩
 obtain⟨y,hy,ly⟩:=iZ pr xh;have hgl:(RM.parts 10 ns).getLast?=some last:=by rw[List.getLast?_eq_getElem?];exact xh
 obtain⟨b,rfl,nb,hb⟩:=LLI.apart hp (ay hy) ly;refine⟨_,rfl,.inl ⟨rfl,_,SqL.of hp⟩,p,xs,.ref b,rfl,rfl,hp,by rw[lx];exact hy,?_⟩;have Af:(upd H1 p (.lst xs.dropLast)) b=some (.lst (last.map V.int)):=by rw[aB nb];exact hb
 have hp2:(upd H1 p (.lst xs.dropLast)) p=some (.lst xs.dropLast):=a8;have s2:a9 H (upd H1 p (.lst xs.dropLast)):=a9.put sm fp;have pr2:Paired (LI (upd H1 p (.lst xs.dropLast))) xs.dropLast (RM.parts 10 ns).dropLast:=by refine aK (fun v r ⟨h1,h2,h3⟩=>?_) (eY (lW pr));obtain⟨c,rfl,nc,hc⟩:=LLI.apart hp h1 h3;exact⟨c,rfl,by rw[aB nc];exact hc⟩
 have ld:xs.dropLast.length=(RM.parts 10 ns).dropLast.length:=pairs_len pr2;refine⟨_,rfl,b,_,rfl,.inl (SqL.of Af),_,_,rfl,rfl,_,rfl,?_⟩;refine bY (fun c=>?_) (fun c=>?_)
 ·have c:0<last.length:=by have:=ba c;rw[ai]at this;omega
  have hx:(RM.parts 10 ns).getLast?≠some []:=by rw[hgl];intro z;cases z;simp at c
  refine F4 (k2 ?_);unfold RM.e9;rw[ah (.inl hx)]
 have c:last=[]:=by
  apply fo;have:¬((0:Int)<((last.map V.int).length:Int)):=fun z=>c (decide_eq_true z)
  rw[ai]at this;omega
 refine⟨_,rfl,p,_,rfl,.inl (SqL.of hp2),rfl,_,rfl,?_⟩;refine bY (fun c2=>k2 ?_) (fun c2=>?_)
 ·have c2:xs.dropLast.length=0:=by have:=ba c2;simpa using this
  unfold RM.e9;rw[ah (.inr (fo (by omega)))]
 have c2:¬(RM.parts 10 ns).dropLast=[]:=fun z=>c2 (decide_eq_true (by rw[ld,z];rfl))
 have hw:RM.e9 ns=(RM.parts 10 ns).dropLast.mapM RM.iX:=by unfold RM.e9;rw[af (by rintro(z|z);exact z (by rw[hgl,c]);exact c2 z)]
 refine⟨_,rfl,p,rfl,⟨_,SqL.of hp2⟩,fun D hD=>m4 (K:=K) (a:=p) (xs:=xs.dropLast)
  (fun i H2=>a9 (upd H1 p (.lst xs.dropLast)) H2/\∃ys zs,H2 D=some (.lst ys)/\Paired (fun v z=>∃b,v=.ref b/\b≠D/\LT H2 (.ref b) z) ys zs/\((RM.parts 10 ns).dropLast.take i).mapM RM.iX=some zs) ⟨a9.upd hD,[],[],a8,.nil,rfl⟩ (fun i H2 _ ⟨s2,_⟩=>s2.seq (SqL.of hp2)) ?_ ?_⟩
 ·rintro i x H2 hx ⟨s3,ys,zs,h2,py,hz⟩;obtain⟨row,pd,sj⟩:=pairs_at pr2 hx;have hm:=ay pd;have l1:ys.length<=4097:=by
   have:=RM.tE hz;rw[bu]at this;have:=pairs_len py;have:(RM.parts 10 ns).dropLast.length<=(RM.parts 10 ns).length:=by rw[gj];omega
   omega
  refine⟨rfl,?_⟩;refine⟨_,rfl,x,row,rfl,sj.mono s3,de (RM.iG (nY hm)) hl,fun z xf r H3 s4 fr t3=>?_,fun hn=>k2 ?_⟩
  ·have h3:=s4 _ _ h2;have nr:r≠D:=fun z=>by rw[z,h2]at fr;cases fr
   refine⟨ys,h3,few l1,a9.put (a9.trans s3 s4) hD,ys++[.ref r],zs++[z],a8,b8 ⟨r,rfl,nr,t3.upd h3 nr⟩ (aK (fun _ _ ⟨b,e,n,q⟩=>⟨b,e,n,(q.mono s4).upd h3 n⟩) py),RM.pQ hz pd xf⟩
  ·rw[hw];exact RM.pR hm hn
 ·rintro H2 ⟨s3,ys,zs,h2,py,hz⟩;rw[ld,bg (au _)]at hz;exact k1 zs (by rw[hw,hz]) _ H2 (a9.trans s2 s3) ⟨D,ys,rfl,h2,aK (fun _ _ ⟨b,e,n,q⟩=>by rw[e];exact q) py⟩
abbrev s_far:Stmt:=(top 37)
theorem sc_far:aL ["walks","feet","walk","number","corner","before","y"] ["walks"] (aH s_far):=fS
noncomputable def sp_far(K:W.Frag)(d:Adr):Sp:=fun vs H Q _=>∃(v:V)(W:List Roof.Walk),vs=[v]/\LLT H v (RM.iWs W)/\RM.sV W/\∀a kvs H',a9 H H'->H a=none->D2 H' a kvs->(∀x y:Nat,((((x:Int),(y:Int)):PI)∈kvs.map (·.1))↔RM.dD W x y=true)->Q (.ref a) H'
theorem ok_far(F:Fun K "feet_across_rows" "feet_across_rows" s_far f fd)(T:Txt K mg base d):bI P w K mg base CX0 1 f fd ["walks"] (sp_far K d):=by
 refine F.ok sc_far (fun vs H Q E h=>by obtain⟨v,W,rfl,_⟩:=h;rfl) (fun _ _ _ _ H _ Q E hr h=>?_);have hu:=bE hr;obtain⟨v,W,rfl,⟨a,xs,rfl,ha,pr⟩,ok,k⟩:=h;have vx:=RM.K0 ok;refine⟨_,(aA (psN (i:=1) sc_far.nd d9)
   (aA (bO PassesOwn.never rfl (dH (pv 0)) (pgN (i:=2) sc_far.nd) (aD (bO PassesOwn.never rfl (JR rfl T.enumerate (a7 (pv 2) aC)) (kM rfl (bL (pgN (i:=3) sc_far.nd) (bL (pgN (i:=4) sc_far.nd) hJ))) (aA (psN (i:=5) sc_far.nd (bK jL (pv 2) (cK pN (pv 3) aM) (fun _ _=>rfl)))
   (aD (cD (bU jV (bK bG (pv 4) aM (fun _ _=>rfl)) (bK bG (pv 5) aM (fun _ _=>rfl)) (c8 _)) (aD (bO PassesOwn.never rfl (pK rfl T.range (a7 (bM (FW rfl) (by rfl) T.min (by rfl) (a7 (bK bG (pv 4) aM (fun _ _=>rfl)) (a7 (bK bG (pv 5) aM (fun _ _=>rfl)) aC))) (a7 (bM (FY rfl) (by rfl) T.max (by rfl) (a7 (bK bG (pv 4) aM (fun _ _=>rfl)) (a7 (bK bG (pv 5) aM (fun _ _=>rfl)) aC))) aC))) (pgN (i:=6) sc_far.nd) (aD (eV hu (pv 1) (cJ (a7 (bK bG (pv 4) aM (fun _ _=>rfl)) (a7 (pv 6) aC))) g8 rfl)))) bB))))))
   (aD (aQ (pv 1))))),?_⟩
 refine fun p hp=>?_
 have s1:a9 H (upd H p (.dT [])):=a9.upd hp;refine⟨_,rfl,a,rfl,⟨_,s1.seq (SqL.of ha)⟩,gU (K:=K) (a:=a) (xs:=xs) (fun i σ H2=>∃(kvs:List (PI×V))(v2 v3 v4 v5 v6:Option V),σ=[some (.ref a),some (.ref p),v2,v3,v4,v5,v6]/\a9 H H2/\D2 H2 p kvs/\RM.Tbl kvs (RM.jQ (RM.iWs W) i))
  ⟨[],none,none,none,none,none,rfl,s1,a8,RM.Tbl.nil.iff fun q=>(RM.A4 _ q).symm⟩ (fun i σ H2 _ ⟨_,_,_,_,_,_,_,s2,_⟩=>s2.seq (SqL.of ha)) ?_ ?_⟩
 ·rintro i y σ H2 hi ⟨kvs,v2,v3,v4,v5,v6,rfl,s2,hD,tb⟩;obtain⟨w,hw,b,ys,rfl,hb,vb⟩:=pairs_at pr hi;have hwm:=ay hw;have lw:=pairs_len vb;refine⟨_,rfl,b,ys,rfl,s2.seq (SqL.of hb),IL (K:=K) (a:=b) (xs:=ys) (fun k σ H3=>∃(kvs:List (PI×V))(v3 v4 v5 v6:Option V),σ=[some (.ref a),some (.ref p),some (.ref b),v3,v4,v5,v6]/\a9 H H3/\D2 H3 p kvs/\RM.Tbl kvs (RM.mF (RM.iWs W) i w k))
   ⟨kvs,v3,v4,v5,v6,rfl,s2,hD,tb.iff fun q=>(RM.CB _ _ _ q).symm⟩ (fun i σ H2 _ ⟨_,_,_,_,_,_,s2,_⟩=>s2.seq (SqL.of hb)) ?_ ?_⟩
  ·rintro j z σ H3 Tt hj ⟨kvs,v3,v4,v5,v6,rfl,s3,hD,tb⟩ hT;obtain⟨c,hc,ca,rfl,hca⟩:=pairs_at vb hj;have hjl:j<ys.length:=(aq.mp hj).1;have rl:RM.nL w.length j<w.length:=by unfold RM.nL;split<;>omega
   obtain⟨e,he⟩:∃e,w[RM.nL w.length j]? =some e:=⟨_,bx rl⟩
   obtain⟨ye,hye,ea,rfl,Co⟩:=iZ vb he;have s4:a9 H (upd H3 Tt (.tup [.int (j:Nat),.ref ca])):=a9.trans s3 (a9.upd hT);have o1:=vx w hwm c (ay hc);have o2:=vx w hwm e (ay he);have nT:p≠Tt:=aJ hD hT;have ka:D2 (upd H3 Tt (.tup [.int (j:Nat),.ref ca])) p kvs:=by unfold D2;rw[aB nT];exact hD
   refine⟨Tt,_,rfl,SqT.of a8,rfl,_,_,rfl,_,_,rfl,rfl,_,rfl,_,rfl,_,_,rfl,rfl,b,_,_,_,rfl,rfl,s4.seq (SqL.of hb),J8 hjl (by unfold RM.nL at hye;rw[lw];exact hye),?_⟩;generalize (upd H3 Tt (.tup [.int (j:Nat),.ref ca]))=H4 at s4 ka ⊢;refine⟨_,rfl,ca,_,_,_,rfl,rfl,SqT.of (s4 _ _ hca),aX (by decide) rfl,_,rfl,ea,_,_,_,rfl,rfl,SqT.of (s4 _ _ Co),aX (by decide) rfl,rfl,_,rfl,?_⟩;refine bY (fun cq=>?_) (fun cq=>?_)
   ·have cq:c.1=e.1:=by simpa using cq
    refine⟨_,rfl,ca,_,_,_,rfl,rfl,SqT.of (s4 _ _ hca),aX (by decide) rfl,_,rfl,ea,_,_,_,rfl,rfl,SqT.of (s4 _ _ Co),aX (by decide) rfl,_,_,rfl,_,rfl,ca,_,_,_,rfl,rfl,SqT.of (s4 _ _ hca),aX (by decide) rfl,_,rfl,ea,_,_,_,rfl,rfl,SqT.of (s4 _ _ Co),aX (by decide) rfl,_,_,rfl,_,_,rfl,⟨by split<;>omega,by split<;>omega,by split<;>omega,by split<;>omega⟩,?_⟩;have emin:(if e.2<c.2 then e.2 else c.2)=min c.2 e.2:=by split<;>omega
    have emax:(if e.2>c.2 then e.2 else c.2)=max c.2 e.2:=by split<;>omega
    rw[emin,emax];refine j6 (lo:=min c.2 e.2) (n:=(max c.2 e.2 - min c.2 e.2).toNat) (fun m σ H5=>∃(kvs:List (PI×V))(v6:Option V),σ=[some (.ref a),some (.ref p),some (.ref b),some (.int (j:Nat)),some (.ref ca),some (.ref ea),v6]/\a9 H H5/\D2 H5 p kvs/\RM.Tbl kvs (fun q=>RM.mF (RM.iWs W) i w j q\/(q.1=c.1/\min c.2 e.2<=q.2/\q.2<min c.2 e.2+m)))
     ⟨kvs,v6,rfl,s4,ka,tb.iff fun q=>⟨.inl,fun z=>z.elim id fun z=>by omega⟩⟩ ?_ ?_
    ·rintro m σ H5 hm ⟨kvs,v6,rfl,s5,kh,tb⟩;refine⟨_,rfl,_,rfl,ca,_,_,_,rfl,rfl,SqT.of (s5 _ _ hca),aX (by decide) rfl,_,rfl,(by show 2<=sizeLine;decide),fun t ht=>?_⟩;have nt:p≠t:=aJ kh ht;have hD6:D2 (upd H5 t (.tup [.int c.1,.int (min c.2 e.2+m)])) p kvs:=by unfold D2;rw[aB nt];exact kh
     have hl:kvs.length<=4225:=by
      rw[<- RM.L8];refine tb.len fun q z=>?_
      rcases z with z|z
      ·exact RM.FD vx hwm z
      ·exact RM.E1 (by omega) (by omega) (by omega) (by omega)
     refine⟨p,_,rfl,D2.put (p:=(c.1,min c.2 e.2+m)) hD6 a8 (.bl true) (few hl),RM.d5 kvs (c.1,min c.2 e.2+m) (.bl true),_,rfl,a9.put (a9.trans s5 (a9.upd ht)) hp,a8,(tb.put _ _).iff fun q=>?_⟩;constructor
     ·rintro((z|z)|z)
      ·exact .inl z
      ·exact .inr (by omega)
      ·subst z;exact .inr ⟨rfl,by simp only;omega,by simp only;omega⟩
     ·rintro(z|⟨z1,z2,z3⟩)
      ·exact .inl (.inl z)
      ·by_cases hq:q.2=min c.2 e.2+m
       ·exact .inr (Prod.ext z1 hq)
       ·exact .inl (.inr ⟨z1,z2,by omega⟩)
    ·rintro σ H5 ⟨kvs,v6,rfl,s5,kh,tb⟩;refine⟨kvs,_,_,_,_,rfl,s5,kh,tb.iff fun q=>?_⟩;rw[RM.tR];constructor
     ·rintro(z|⟨z1,z2,z3⟩)
      ·exact .inl z
      ·exact .inr ⟨c,e,hc,he,cq,z1.symm,z2,by omega⟩
     ·rintro(z|⟨c',e',h1,h2,z0,z1,z2,z3⟩)
      ·exact .inl z
      ·rw[hc]at h1;rw[he]at h2;cases h1;cases h2;exact .inr ⟨z1.symm,z2,by omega⟩
   ·have cq:¬c.1=e.1:=by simpa using cq
    refine⟨kvs,_,_,_,_,rfl,s4,ka,tb.iff fun q=>?_⟩;rw[RM.tR];constructor
    ·exact .inl
    ·rintro(z|⟨c',e',h1,h2,z0,z1,z2,z3⟩)
     ·exact z
     ·rw[hc]at h1;rw[he]at h2;cases h1;cases h2;exact absurd z0 cq
  ·rintro σ H3 ⟨kvs,v3,v4,v5,v6,rfl,s3,hD,tb⟩;refine⟨kvs,_,_,_,_,_,rfl,s3,hD,tb.iff fun q=>?_⟩;rw[lw];exact RM.FE hw q
 ·rintro σ H2 ⟨kvs,v2,v3,v4,v5,v6,rfl,s2,hD,tb⟩;refine⟨_,rfl,k p kvs H2 s2 hp hD fun x y=>?_⟩;rw[tb.2,pairs_len pr];exact RM.CA W x y
abbrev s_cw2:Stmt:=(top 38)
theorem sc_cw2:aL ["walks","feet","cells","y","inside","x"] ["walks"] (aH s_cw2):=fS
noncomputable def sp_cw2(K:W.Frag)(d:Adr):Sp:=fun vs H Q _=>∃(v:V)(W:List Roof.Walk),vs=[v]/\LLT H v (RM.iWs W)/\RM.sV W/\∀a H',a9 H H'->H a=none->D2 H' a (CS (RM.aR (RM.dD W)))->Q (.ref a) H'
theorem ok_cw2(F:Fun K "cells_within" "cells_within" s_cw2 f fd)(T:Txt K mg base d)(D_far:aP P w K mg base CX0 1 "feet_across_rows" ["walks"] (sp_far K d)):bI P w K mg base CX0 2 f fd ["walks"] (sp_cw2 K d):=by
 refine F.ok sc_cw2 (fun vs H Q E h=>by obtain⟨v,W,rfl,_⟩:=h;rfl) (fun _ _ _ _ H _ Q E hr h=>?_);have hu:=bE hr;obtain⟨v,W,rfl,hW,ok,k⟩:=h;refine⟨_,(aA (psN (i:=1) sc_cw2.nd (aS D_far (hm hr) aU rfl (a7 (pv 0) aC)))
   (aA (psN (i:=2) sc_cw2.nd d9)
   (aA (bO PassesOwn.never rfl (vF rfl T.range (a7 (cU T.dM rfl) aC)) (pgN (i:=3) sc_cw2.nd) (aA (psN (i:=4) sc_cw2.nd g8)
   (aD (bO PassesOwn.never rfl (vF rfl T.range (a7 (cU T.dM rfl) aC)) (pgN (i:=5) sc_cw2.nd) (aA (cD (dO (B9 hu (cJ (a7 (pv 5) (a7 (pv 3) aC))) (pv 1))) (aD (psN (i:=4) sc_cw2.nd (ME (pv 4)))) bB)
   (aD (cD (iD (pv 4) (fun _=>rfl)) (aD (eV hu (pv 2) (cJ (a7 (pv 5) (a7 (pv 3) aC))) g8 rfl)) bB)))))))
   (aD (aQ (pv 2)))))),?_⟩
 refine⟨_,rfl,v,W,rfl,hW,ok,fun f kvs H1 s1 hf hF Bi p hp=>?_⟩;generalize hFd:RM.dD W=F at Bi k;have s2:a9 H1 (upd H1 p (.dT [])):=a9.upd hp;refine⟨_,rfl,by decide,by decide,j6 (lo:=0) (n:=64) (fun y σ H2=>∃(v3 v4 v5:Option V),σ=[some v,some (.ref f),some (.ref p),v3,v4,v5]/\a9 H1 H2/\D2 H2 p (CS (RM.iY F y)))
  ⟨none,none,none,rfl,s2,a8⟩ ?_ ?_⟩
 ·rintro y σ H2 hy ⟨v3,v4,v5,rfl,s3,hD⟩;refine⟨_,rfl,by decide,by decide,j6 (lo:=0) (n:=64) (fun x σ H3=>∃(v5:Option V),σ=[some v,some (.ref f),some (.ref p),some (.int (0+(y:Nat))),some (.bl (if x=0 then false else RM.bZ F y (x - 1))),v5]/\a9 H1 H3/\D2 H3 p (CS (RM.iY F y++RM.mO F y x)))
   ⟨v5,rfl,s3,by rw[show RM.mO F y 0=[]from rfl,da];exact hD⟩ ?_ ?_⟩
  ·rintro x σ H3 hx ⟨v5,rfl,s3,hD⟩;refine⟨_,rfl,_,rfl,(by show 2<=sizeLine;decide),fun t ht=>?_⟩;have nt:p≠t:=aJ hD ht;have s4:a9 H1 (upd H3 t (.tup [.int (0+(x:Nat)),.int (0+(y:Nat))])):=a9.trans s3 (a9.upd ht);have ka:D2 (upd H3 t (.tup [.int (0+(x:Nat)),.int (0+(y:Nat))])) p (CS (RM.iY F y++RM.mO F y x)):=by unfold D2;rw[aB nt];exact hD
   refine⟨_,rfl,f,_,rfl,R2.get (p:=((0+(x:Int),0+(y:Int)):PI)) (D2.rd (s4 _ _ hF)) a8,_,rfl,?_⟩;generalize (upd H3 t (.tup [.int (0+(x:Nat)),.int (0+(y:Nat))]))=H4 at s4 ka ⊢;have hk:(RM.aN kvs ((0+(x:Int),0+(y:Int)):PI)).isSome=true↔F x y=true:=by rw[RM.aV,zero_add,zero_add];exact Bi x y
   have ze:=RM.zP F y x;refine bY (fun c=>?_) (fun c=>?_)
   ·have c:=hk.mp c;refine⟨_,rfl,_,rfl,?_⟩;have eI:(!(if x=0 then false else RM.bZ F y (x - 1)))=RM.bZ F y x:=by rw[ze,c];simp
    rw[eI];refine⟨_,rfl,_,rfl,?_⟩;refine bY (fun ci=>?_) (fun ci=>?_)
    ·refine⟨_,rfl,_,rfl,_,rfl,(by show 2<=sizeLine;decide),fun t ht=>?_⟩;have nt:p≠t:=aJ ka ht;have kh:D2 (upd H4 t (.tup [.int (0+(x:Nat)),.int (0+(y:Nat))])) p (CS (RM.iY F y++RM.mO F y x)):=by unfold D2;rw[aB nt];exact ka
     refine⟨p,_,rfl,D2.put (p:=((0+(x:Int),0+(y:Int)):PI)) kh a8 (.bl true) ?_,some (.int (0+(x:Nat))),by simp,a9.put (a9.trans s4 (a9.upd ht)) hp,?_⟩
     ·rw[n6,aj];have h1:=RM.pG F y;have h2:=RM.sL F y x;exact few (m:=5000) (by omega)
     ·unfold D2;rw[a8,zero_add,zero_add,show(((x:Int),(y:Int)):PI)=RM.iP (x,y)from rfl,E5,RM.lS,ah ci,dz];intro z;rcases aw.mp z with z|z
      ·have:=RM.v8 z;simp at this
      ·have:=RM.sJ z;simp at this
    ·refine⟨some (.int (0+(x:Nat))),by simp,s4,?_⟩;rw[RM.lS,af ci];exact ka
   ·have c:F x y=false:=by
     have c:¬F x y=true:=fun z=>c (hk.mpr z)
     simpa using c
    have eI:(if x=0 then false else RM.bZ F y (x - 1))=RM.bZ F y x:=by rw[ze,c];simp
    rw[eI];refine⟨_,rfl,_,rfl,?_⟩;refine bY (fun ci=>?_) (fun ci=>?_)
    ·refine⟨_,rfl,_,rfl,_,rfl,(by show 2<=sizeLine;decide),fun t ht=>?_⟩;have nt:p≠t:=aJ ka ht;have kh:D2 (upd H4 t (.tup [.int (0+(x:Nat)),.int (0+(y:Nat))])) p (CS (RM.iY F y++RM.mO F y x)):=by unfold D2;rw[aB nt];exact ka
     refine⟨p,_,rfl,D2.put (p:=((0+(x:Int),0+(y:Int)):PI)) kh a8 (.bl true) ?_,some (.int (0+(x:Nat))),by simp,a9.put (a9.trans s4 (a9.upd ht)) hp,?_⟩
     ·rw[n6,aj];have h1:=RM.pG F y;have h2:=RM.sL F y x;exact few (m:=5000) (by omega)
     ·unfold D2;rw[a8,zero_add,zero_add,show(((x:Int),(y:Int)):PI)=RM.iP (x,y)from rfl,E5,RM.lS,ah ci,dz];intro z;rcases aw.mp z with z|z
      ·have:=RM.v8 z;simp at this
      ·have:=RM.sJ z;simp at this
    ·refine⟨some (.int (0+(x:Nat))),by simp,s4,?_⟩;rw[RM.lS,af ci];exact ka
  ·rintro σ H3 ⟨v5,rfl,s3,hD⟩;refine⟨_,_,_,rfl,s3,?_⟩;rw[RM.sH];exact hD
 ·rintro σ H2 ⟨v3,v4,v5,rfl,s3,hD⟩;exact⟨_,rfl,k p H2 (a9.trans s1 s3) (s1.free hp) hD⟩
abbrev s_miap:Stmt:=(top 40)
theorem sc_miap:aL ["cell","cells","side","near","far"] ["cell","cells"] (aH s_miap):=fS
noncomputable def sp_miap(K:W.Frag)(d:Adr):Sp:=fun vs H Q _=>∃(v:V)(p:PI)(c:Addr)(C:List (Nat×Nat)),vs=[v,.ref c]/\T2 H v p/\R2 H c (CS C)/\∀H',a9 H H'->Q (.bl (RM.aT C p 0||(RM.aT C p 1||(RM.aT C p 2||RM.aT C p 3)))) H'
theorem ok_miap(F:Fun K "meets_in_a_point" "meets_in_a_point" s_miap f fd)(T:Txt K mg base d)(D_b:aP P w K mg base CX0 2 "beyond" ["place","direction"] (sp_b K d))(D_lo:aP P w K mg base CX0 1 "left_of" ["direction"] (sp_lo K d)):bI P w K mg base CX0 3 f fd ["cell","cells"] (sp_miap K d):=by
 refine F.ok sc_miap (fun vs H Q E h=>by obtain⟨v,p,c,C,rfl,_⟩:=h;rfl) (fun _ _ _ _ H _ Q E hr h=>?_);have hu:=bE hr;obtain⟨aALL_SIDES,aZ,c_ALL_SIDES⟩:=T.aZ;obtain⟨v,p,c,C,rfl,hv,hC,k⟩:=h;have yes:∀i,i<4->RM.aT C p i=true->(RM.aT C p 0||(RM.aT C p 1||(RM.aT C p 2||RM.aT C p 3)))=true:=by
  intro i hi e;have cs:i=0\/i=1\/i=2\/i=3:=by omega
  rcases cs with rfl|rfl|rfl|rfl<;>simp[e]
 refine⟨_,(aA (bO PassesOwn.never rfl (iE (eX aZ rfl)) (pgN (i:=2) sc_miap.nd) (aA (psN (i:=3) sc_miap.nd (aS D_b (hm hr) aU rfl (a7 (pv 0) (a7 (pv 2) aC))))
   (aA (psN (i:=4) sc_miap.nd (aS D_b (hm hr) aU rfl (a7 (pv 0) (a7 (aS D_lo (hm hr) aU rfl (a7 (pv 2) aC)) aC))))
   (aD (cD (PW.pt (kJ (dO (cG hu (pv 3) (pv 1))) (kJ (dO (cG hu (pv 4) (pv 1))) (lT (dO (B9 hu (aS D_b (hm hr) aU rfl (a7 (pv 3) (a7 (aS D_lo (hm hr) aU rfl (a7 (pv 2) aC)) aC))) (pv 1))))))) (aD (aQ g8)) bB)))))
   (aD (aQ g8))),?_⟩
 refine⟨_,rfl,⟨_,c_ALL_SIDES _⟩,gF (K:=K) (a:=aALL_SIDES) (xs:=[.int 0,.int 1,.int 2,.int 3]) (fun i σ H2=>∃(v2 v3 v4:Option V),σ=[some v,some (.ref c),v2,v3,v4]/\a9 H H2/\∀j,j<i->RM.aT C p j=false)
  ⟨none,none,none,rfl,(a9.refl _),by intro j hj;omega⟩ (fun i σ H2 _ _=>c_ALL_SIDES H2) ?_ ?_⟩
 ·rintro i x σ H2 hx ⟨v2,v3,v4,rfl,s2,old⟩;obtain⟨hi,rfl⟩:=lR hx;have Az:RM.aT C p i=false->∀j,j<i+1->RM.aT C p j=false:=fun e j hj=>by
   by_cases h:j=i
   ·rw[h];exact e
   ·exact old j (by omega)
  refine⟨_,rfl,_,rfl,v,p,i,rfl,(hv.mono s2).c,hi,fun n H3 s3 t3=>?_⟩;refine⟨_,rfl,_,rfl,_,rfl,v,p,(i+1)%4,by simp,(hv.mono (a9.trans s2 s3)).c,by omega,fun f H4 s4 t4=>?_⟩;have yd:a9 H H4:=a9.trans s2 (a9.trans s3 s4);obtain⟨na,rfl,nh⟩:=t3.mono s4;obtain⟨fa,rfl,hfa⟩:=t4;refine⟨_,rfl,_,rfl,c,_,rfl,R2.get (p:=RM.aI p i) (hC.mono yd) nh,_,rfl,?_⟩;rw[uB];refine bY (fun c1=>?_) (fun c1=>zK ?_)
  ·refine⟨_,rfl,_,rfl,c,_,rfl,R2.get (p:=RM.aI p ((i+1)%4)) (hC.mono yd) hfa,_,rfl,?_⟩;rw[uB];refine bY (fun c2=>?_) (fun c2=>zK ?_)
   ·refine⟨_,rfl,_,rfl,_,rfl,.ref na,RM.aI p i,(i+1)%4,by simp,T2.c ⟨na,rfl,nh⟩,by omega,fun g H5 s5 t5=>?_⟩;obtain⟨ga,rfl,hga⟩:=t5;refine⟨_,rfl,c,_,rfl,R2.get (p:=RM.aI (RM.aI p i) ((i+1)%4)) (hC.mono (a9.trans yd s5)) hga,_,rfl,?_⟩;rw[uB];refine bY (fun c3=>?_) (fun c3=>?_)
    ·have e:RM.aT C p i=true:=by unfold RM.aT;rw[c1,c2,c3];rfl
     have h:=k H5 (a9.trans yd s5);rw[yes i hi e]at h;exact h
    ·exact⟨_,_,_,rfl,a9.trans yd s5,Az (by unfold RM.aT;rw[not_true c3];simp)⟩
   ·exact⟨_,_,_,rfl,yd,Az (by unfold RM.aT;rw[not_true c2];simp)⟩
  ·exact⟨_,_,_,rfl,yd,Az (by unfold RM.aT;rw[not_true c1];simp)⟩
 ·rintro σ H2 ⟨v2,v3,v4,rfl,s2,old⟩;have h:=k H2 s2;rw[old 0 (by decide),old 1 (by decide),old 2 (by decide),old 3 (by decide)]at h;exact h
abbrev s_ij:Stmt:=(top 39)
theorem sc_ij:aL ["cells","waiting","reached","cell","side"] ["cells"] (aH s_ij):=fS
noncomputable def sp_ij(K:W.Frag)(d:Adr):Sp:=fun vs H Q _=>∃(c:Addr)(C:List (Nat×Nat))(c0:Nat×Nat)(r:List (Nat×Nat)),vs=[.ref c]/\R2 H c (CS C)/\C=c0::r/\C.Nodup/\C.length<=256/\∀H',a9 H H'->Q (.bl ((Roof.reach C C.length [c0] [c0]).length==C.length)) H'
theorem ok_ij(F:Fun K "is_joined" "is_joined" s_ij f fd)(T:Txt K mg base d)(D_b:aP P w K mg base CX0 2 "beyond" ["place","direction"] (sp_b K d)):bI P w K mg base CX0 3 f fd ["cells"] (sp_ij K d):=by
 refine F.ok sc_ij (fun vs H Q E h=>by obtain⟨c,C,c0,r,rfl,_⟩:=h;rfl) (fun _ _ _ _ H _ Q E hr h=>?_);have hu:=bE hr;obtain⟨aALL_SIDES,aZ,c_ALL_SIDES⟩:=T.aZ;obtain⟨c,C,c0,r,rfl,hC,eC,nd,hl,k⟩:=h;have hc0:c0∈C:=by rw[eC];exact bb
 have cl:(CS C).length=C.length:=n6 C;refine⟨_,(aA (psN (i:=1) sc_ij.nd (HE JM (vI (CN rfl) (by rfl) T.list (by rfl) (a7 (pv 0) aC)) JQ (JP aM)))
   (aA (psN (i:=2) sc_ij.nd d9)
   (aA (nK PassesOwn.never (sS (pv 1) (fun _=>rfl)) (aA (psN (i:=3) sc_ij.nd (B8 PySem.F.plainAttrs_list PySem.F.slot_list_pop PySem.F.type_list_pop BK (pv 1)))
   (aD (cD (PW.pt (kJ (dO (B9 hu (pv 3) (pv 0))) (lT (dO (cG hu (pv 3) (pv 2)))))) (aA (eV hu (pv 2) (pv 3) g8 rfl)
   (aD (bO PassesOwn.never rfl (iE (eX aZ rfl)) (pgN (i:=4) sc_ij.nd) (aD (cW (hO PySem.F.plainAttrs_list PySem.F.slot_list_append PySem.F.type_list_append cH (pv 1) (a7 (aS D_b (hm hr) aU rfl (a7 (pv 3) (a7 (pv 4) aC))) aC))))))) bB))))
   (aD (aQ (wY jV (bM j8 (by rfl) T.len PySem.boot_len (a7 (pv 2) aC)) (bM j8 (by rfl) T.len PySem.boot_len (a7 (pv 0) aC)) (c8 _))))))),?_⟩
 refine⟨_,rfl,c,_,rfl,hC,fun l qs qk hk=>⟨_,rfl,l,qs,rfl,SqL.of a8,fun p hp=>?_⟩⟩;have hk:=tH hk;obtain⟨q0,qr,rfl,t0⟩:∃q0 qr,qs=q0::qr/\T2 H q0 (RM.iP c0):=by
  rw[jU,eC,bh]at hk;cases hk with
  |cons t0 _=>exact⟨_,_,rfl,t0⟩
 rw[FQ];have s1:a9 H (upd H l (.lst (q0::qr))):=a9.upd qk;have s2:a9 H (upd (upd H l (.lst (q0::qr))) p (.lst ((q0::qr).take 1))):=a9.trans s1 (a9.upd hp);have hp2:(upd (upd H l (.lst (q0::qr))) p (.lst ((q0::qr).take 1))) p=some (.lst [q0]):=a8;have fp:H p=none:=s1.free hp;generalize (upd (upd H l (.lst (q0::qr))) p (.lst ((q0::qr).take 1)))=H1 at s2 hp2 ⊢;refine fun rd yy=>?_
 have npr:p≠rd:=aJ hp2 yy;have frd:H rd=none:=s2.free yy;dsimp only[jZ,GF];refine n8 (fun σ H2=>∃(xs:List V)(ws:List PI)(kvs:List (PI×V))(v3 v4:Option V),σ=[some (.ref c),some (.ref p),some (.ref rd),v3,v4]/\a9 H H2/\H2 p=some (.lst xs)/\Paired (T2 H2) xs ws/\D2 H2 rd kvs/\RM.Dfs C c0 (kvs.map (·.1)) ws/\xs.length<=1+4*kvs.length)
  (fun _ H2=>uI H2 p+5*(C.length+1 - mC H2 rd))
  ⟨[q0],[RM.iP c0],[],none,none,rfl,a9.trans s2 (a9.upd yy),by rw[aB npr];exact hp2,.cons (t0.mono (a9.trans s2 (a9.upd yy))) .nil,a8,RM.Dfs.first,by simp⟩ ?_ (fun _ _ _ _ f ⟨v,e,k,t,q⟩=>⟨v,e,k,t,f _ _ q⟩)
 rintro σ H2 ⟨xs,ws,kvs,v3,v4,rfl,s3,h1,pr,hD,dfs,len⟩;have hlr:=dfs.len;rw[ai]at hlr;refine⟨_,rfl,_,.inl ⟨_,SqL.of h1,rfl⟩,?_⟩;refine bY (fun cq=>?_) (fun cq=>?_)
 ·have jn:xs≠[]:=by intro z;rw[z]at cq;cases cq
  have hpos:0<xs.length:=fy.mpr jn;obtain⟨y,hy⟩:∃y,xs[xs.length - 1]? =some y:=⟨_,bx (by omega)⟩
  obtain⟨q,hq,ty⟩:=pairs_at pr hy;have lxw:=pairs_len pr;have ews:ws=ws.dropLast++[q]:=by
   have:ws≠[]:=by intro z;rw[z]at hq;cases hq
   have e:=(iu this).symm;rw[List.getLast_eq_getElem]at e;have e2:ws[ws.length - 1]'(by omega)=q:=by have:=(aq.mp (by rw[<- lxw];exact hq:ws[ws.length - 1]? =some q)).2;exact this
   rw[e2]at e;exact e
  refine⟨_,rfl,.inl ⟨rfl,_,SqL.of h1⟩,p,xs,y,rfl,rfl,h1,hy,?_⟩;have s4:a9 H (upd H2 p (.lst xs.dropLast)):=a9.put s3 fp;have vc:Paired (T2 (upd H2 p (.lst xs.dropLast))) xs.dropLast ws.dropLast:=aK (fun _ _ z=>z.upd h1) (eY pr);have ka:D2 (upd H2 p (.lst xs.dropLast)) rd kvs:=by unfold D2;rw[aB npr.symm];exact hD
  have Ap:T2 (upd H2 p (.lst xs.dropLast)) y q:=ty.upd h1;have h14:(upd H2 p (.lst xs.dropLast)) p=some (.lst xs.dropLast):=a8;have ml:uI H2 p=xs.length:=lZ h1;have mt:mC H2 rd=kvs.length:=zF hD;generalize (upd H2 p (.lst xs.dropLast))=H4 at s4 vc ka Ap h14 ⊢;rw[ews]at dfs;obtain⟨ya,rfl,vh⟩:=Ap;have ld:xs.dropLast.length=xs.length - 1:=gj ..;have skip:(q∉RM.iW C\/q∈kvs.map (·.1))->∃(nj:List V)(ws:List PI)(yn:List (PI×V))(v3 v4':Option V),([some (.ref c),some (.ref p),some (.ref rd),some (.ref ya),v4]:List (Option V))=[some (.ref c),some (.ref p),some (.ref rd),v3,v4']/\a9 H H4/\H4 p=some (.lst nj)/\Paired (T2 H4) nj ws/\D2 H4 rd yn/\RM.Dfs C c0 (yn.map (·.1)) ws/\nj.length<=1+4*yn.length:=
   fun z=>⟨xs.dropLast,ws.dropLast,kvs,some (.ref ya),v4,rfl,s4,h14,vc,ka,dfs.skip hc0 z,by omega⟩
  have less:uI H4 p+5*(C.length+1 - mC H4 rd)<uI H2 p+5*(C.length+1 - mC H2 rd):=by rw[ml,mt,lZ h14,zF ka,ld];omega
  refine⟨_,rfl,_,rfl,c,_,rfl,R2.get (p:=q) (hC.mono s4) vh,_,rfl,?_⟩;rw[uB];refine bY (fun c1=>?_) (fun c1=>zK ⟨skip (.inl (by simpa using c1)),less⟩);have c1:q∈RM.iW C:=by simpa using c1
  refine⟨_,rfl,_,rfl,rd,_,rfl,R2.get (p:=q) ka.rd vh,_,rfl,?_⟩;refine bY (fun c2=>?_) (fun c2=>?_)
  ·have c2:q∉kvs.map (·.1):=fun z=>by rw[(RM.aV q kvs).mpr z]at c2;cases c2
   refine⟨_,rfl,_,rfl,rd,_,rfl,D2.put ka vh (.bl true) (few (m:=256) (by omega)),?_⟩;rw[RM.fR _ c2];have hd5:=dfs.take c1 c2;have wm:H4 rd=some (.dT (kvF k2 kvs)):=ka;refine⟨_,rfl,⟨_,c_ALL_SIDES _⟩,gF (K:=K) (a:=aALL_SIDES) (xs:=[.int 0,.int 1,.int 2,.int 3]) (fun i σ H2=>∃(nj:List V)(v4:Option V),σ=[some (.ref c),some (.ref p),some (.ref rd),some (.ref ya),v4]/\a9 H H2/\H2 p=some (.lst nj)/\Paired (T2 H2) nj (ws.dropLast++([RM.aI q 0,RM.aI q 1,RM.aI q 2,RM.aI q 3].take i))/\D2 H2 rd (kvs++[(q,V.bl true)])/\T2 H2 (.ref ya) q)
    ⟨xs.dropLast,v4,rfl,a9.put s4 frd,by rw[aB npr];exact h14,by rw[take_zero,da];exact aK (fun _ _ z=>z.pA wm (by intro _ z;cases z)) vc,a8,T2.pA ⟨ya,rfl,vh⟩ wm (by intro _ z;cases z)⟩ (fun i σ H2 _ _=>c_ALL_SIDES H2) ?_ ?_⟩
   ·rintro i x σ H5 hx ⟨nj,v4,rfl,s5,h5,wy,kh,t5⟩;obtain⟨hi,rfl⟩:=lR hx;have l5:=pairs_len wy;rw[aj,bu,gj]at l5;refine⟨_,rfl,.inl ⟨rfl,_,SqL.of h5⟩,_,rfl,_,rfl,.ref ya,q,i,rfl,t5.c,hi,fun n H6 s6 t6=>?_⟩;have h6:=s6 _ _ h5;refine⟨p,nj,n,rfl,rfl,h6,few (m:=2000) (by omega),nj++[n],_,rfl,a9.put (a9.trans s5 s6) fp,a8,?_,by unfold D2;rw[aB npr.symm];exact s6 _ _ kh,(t5.mono s6).upd h6⟩;have e4:[RM.aI q 0,RM.aI q 1,RM.aI q 2,RM.aI q 3].take (i+1)=[RM.aI q 0,RM.aI q 1,RM.aI q 2,RM.aI q 3].take i++[RM.aI q i]:=by
     have cs:i=0\/i=1\/i=2\/i=3:=by omega
     rcases cs with rfl|rfl|rfl|rfl<;>rfl
    rw[e4,<- dz];exact b8 (t6.upd h6) (aK (fun _ _ z=>(z.mono s6).upd h6) wy)
   ·rintro σ H5 ⟨nj,v4,rfl,s5,h5,wy,kh,t5⟩;have l5:=pairs_len wy;rw[aj,bu,gj]at l5;have l6:([RM.aI q 0,RM.aI q 1,RM.aI q 2,RM.aI q 3].length)=4:=rfl;have l7:([V.int 0,V.int 1,V.int 2,V.int 3].length)=4:=rfl;have Ce:=hd5.len;rw[aj,ai]at Ce;simp only[bo,dv]at Ce l5;refine⟨⟨nj,_,kvs++[(q,V.bl true)],_,_,rfl,s5,h5,wy,kh,by rw[cf];exact hd5,by rw[aj];simp only[bo,dv];omega⟩,?_⟩;rw[ml,mt,lZ h5,zF kh,aj];simp only[bo,dv];omega
  ·have c2:q∈kvs.map (·.1):=by
    refine(RM.aV q kvs).mp ?_;cases e:(RM.aN kvs q).isSome with
    |true=>rfl
    |false=>rw[e]at c2;exact absurd rfl c2
   exact⟨skip (.inr c2),less⟩
 ·have e:xs=[]:=by
   cases xs with
   |nil=>rfl
   |cons _ _=>exact absurd rfl cq
  subst e;cases pr;refine⟨_,rfl,rd,_,rfl,hD.rd,_,rfl,c,_,rfl,hC.mono s3,rfl,?_⟩;have h:=k H2 s3;have e2:=dfs.done nd hc0;rw[ai]at e2;rw[<- e2]at h;refine cast (congrArg (fun b=>Q (V.bl b) H2) ?_) h;rw[f6,f6,cl,dh,decide_eq_true_iff,decide_eq_true_iff];constructor
  ·intro z;rw[z]
  ·intro z;have:=V.int.inj z;omega
abbrev s_ih:Stmt:=(top 41)
theorem sc_ih:aL ["cells","cell"] ["cells"] (aH s_ih):=fS
theorem FV(F:Nat->Nat->Bool):(RM.aR F).length<=4096:=by have:=RM.pG F 64;rw[RM.EI]at this;omega
theorem rB(F:Nat->Nat->Bool):(RM.aR F).Nodup:=(RM.mJ F).imp fun{a b} h e=>by rw[e,RM.cS]at h;omega
noncomputable def sp_ih(K:W.Frag)(d:Adr):Sp:=fun vs H Q _=>∃(c:Addr)(F:Nat->Nat->Bool),vs=[.ref c]/\D2 H c (CS (RM.aR F))/\∀H',a9 H H'->Q (.bl (Roof.isHouse (RM.aR F))) H'
theorem ok_ih(F:Fun K "is_house" "is_house" s_ih f fd)(T:Txt K mg base d)(D_miap:aP P w K mg base CX0 3 "meets_in_a_point" ["cell","cells"] (sp_miap K d))(D_ij:aP P w K mg base CX0 3 "is_joined" ["cells"] (sp_ij K d)):bI P w K mg base CX0 4 f fd ["cells"] (sp_ih K d):=by
 refine F.ok sc_ih (fun vs H Q E h=>by obtain⟨c,F,rfl,_⟩:=h;rfl) (fun _ _ _ _ H _ Q E hr h=>?_);have hu:=bE hr;obtain⟨c,F,rfl,hC,k⟩:=h;have jt:=FV F;have qj:=rB F;have Bt:=RM.sT (l:=RM.aR F);have ug:=@RM.tJ F;generalize RM.aR F=C at*;have Aj:(kvF k2 (CS C)).length=C.length:=by rw[f6,n6]
 refine⟨_,(aA (cD (PW.pt (yM (bU yY (bM j8 (by rfl) T.len PySem.boot_len (a7 (pv 0) aC)) aM (c8 _)) (sQ (bU vN (bM j8 (by rfl) T.len PySem.boot_len (a7 (pv 0) aC)) (cU T.oH rfl) (c8 _))))) (aD (aQ g8)) bB)
   (aA (cD (iD (bM (NI rfl) (by rfl) T.any (by rfl) (a7 (JW (DA (own:=[("cell",1)]) rfl sc_ih.nd (lU (pv 0)) (fQ (by first|decide+kernel|kernel_rfl)) (fun _ _ _ _ _=>(pgN (i:=1) sc_ih.nd)) (fun _ _ _ _ _=>wV) (fun _ _ _ _ _=>(aS D_miap (hm hr) aU rfl (a7 (pv 1) (a7 (pv 0) aC)))))) aC)) (fun _=>rfl)) (aD (aQ g8)) bB)
   (aD (aQ (aS D_ij (hm hr) aU rfl (a7 (pv 0) aC)))))),?_⟩
 refine⟨_,rfl,c,_,rfl,hC.rd,_,_,rfl,rfl,_,rfl,?_⟩;rw[Aj];refine bY (fun c1=>F4 ?_) (fun c1=>?_)
 ·have c1:C=[]:=fo (by have:=ba c1;omega);have h:=k H (a9.refl _);rw[c1,RM.zL]at h;exact h
 have c1:¬C.length<1:=fun z=>c1 (decide_eq_true (by omega))
 obtain⟨c0,r,eC⟩:∃c0 r,C=c0::r:=by
  cases C with
  |nil=>simp at c1
  |cons c0 r=>exact⟨c0,r,rfl⟩
 have ug:=ug eC;refine⟨_,rfl,c,_,rfl,hC.rd,_,_,rfl,rfl,_,rfl,?_⟩;rw[Aj];refine bY (fun c2=>?_) (fun c2=>?_)
 ·have c2:256<C.length:=by have:=ba c2;omega
  have h:=k H (a9.refl _);rw[ug,decide_eq_false (by omega)]at h;exact h
 have c2:C.length<=256:=by apply Nat.le_of_not_lt;intro z;exact c2 (decide_eq_true (by omega))
 refine⟨c,_,hC,trivial,fun od=>⟨_,rfl,c,od,rfl,.inr ⟨_,a8,fun D hD=>KC (d:=c) (od:=od) (kvs:=kvF k2 (CS C))
  (fun i H2=>a9 (upd H c (.frz od (.dT (kvF k2 (CS C))))) H2/\H2 D=some (.lst ((((RM.iW C).take i).map fun p=>RM.aT C p 0||(RM.aT C p 1||(RM.aT C p 2||RM.aT C p 3))).map V.bl))) ⟨a9.upd hD,a8⟩ (fun i H2 ⟨s2,_⟩=>s2 _ _ a8) ?_ ?_⟩⟩⟩
 ·rintro i kk vv q H2 hi hq ⟨s2,h2⟩;obtain⟨p,hp,rfl⟩:=pT hi;have hp2:(RM.iW C)[i]? =some p:=by have:=congrArg (Option.map Prod.fst) hp;rw[<- bf,jU]at this;exact this
  have ql:i<C.length:=by have:=(aq.mp hp2).1;simpa[RM.iW]using this
  refine⟨rfl,_,rfl,_,rfl,.ref q,p,c,C,rfl,⟨q,rfl,hq⟩,.inr ⟨od,s2 _ _ a8⟩,fun H3 s3=>⟨_,s3 _ _ h2,?_,a9.put (a9.trans s2 s3) hD,?_⟩⟩
  ·rw[ai,ai,bu];exact few (m:=256) (by omega)
  ·rw[a8,RM.take_snoc hp2];simp
 ·rintro H2 ⟨s2,h2⟩;have nD:D≠c:=(aJ (H:=upd H c (.frz od (.dT (kvF k2 (CS C))))) a8 hD).symm;refine⟨s2 _ _ a8,D,_,rfl,SqL.of (by rw[aB nD];exact h2),_,rfl,?_⟩;have s3:a9 H (upd H2 c (.dT (kvF k2 (CS C)))):=a9.unlock hC s2;have el:(kvF k2 (CS C)).length=(RM.iW C).length:=by rw[Aj];simp[RM.iW]
  rw[el,bg (au _)];have ea:(((RM.iW C).map fun p=>RM.aT C p 0||(RM.aT C p 1||(RM.aT C p 2||RM.aT C p 3))).any id)=Roof.pinched C:=by rw[Bt,any_map];rfl
  rw[ea];refine bY (fun c3=>?_) (fun c3=>?_)
  ·have h:=k _ s3;rw[ug,c3]at h;simp at h;exact h
  ·refine⟨_,rfl,c,C,c0,r,rfl,.inl a8,eC,qj,c2,fun H3 s4=>?_⟩;have h:=k _ (a9.trans s3 s4);rw[ug,not_true c3,decide_eq_true c2]at h;simpa using h
abbrev s_haw:Stmt:=(top 42)
theorem sc_haw:aL ["cells","headings","cell","side"] ["cells"] (aH s_haw):=fS
noncomputable def sp_haw(K:W.Frag)(d:Adr):Sp:=fun vs H Q _=>∃(c:Addr)(C:List (Nat×Nat)),vs=[.ref c]/\D2 H c (CS C)/\C.length<=256/\∀h H',a9 H H'->H h=none->D2 H' h (IV (RM.d3 (RM.iW C)))->Q (.ref h) H'
theorem ok_haw(F:Fun K "headings_along_walls" "headings_along_walls" s_haw f fd)(T:Txt K mg base d)(D_b:aP P w K mg base CX0 2 "beyond" ["place","direction"] (sp_b K d))(D_ss:aP P w K mg base CX0 2 "side_start" ["square","side"] (sp_ss K d))(D_lo:aP P w K mg base CX0 1 "left_of" ["direction"] (sp_lo K d)):bI P w K mg base CX0 3 f fd ["cells"] (sp_haw K d):=by
 refine F.ok sc_haw (fun vs H Q E h=>by obtain⟨c,C,rfl,_⟩:=h;rfl) (fun _ _ _ _ H _ Q E hr h=>?_);have hu:=bE hr;obtain⟨aALL_SIDES,aZ,c_ALL_SIDES⟩:=T.aZ;obtain⟨c,C,rfl,hC,hl,k⟩:=h;refine⟨_,(aA (psN (i:=1) sc_haw.nd d9)
   (aA (jF (bO PassesOwn.never rfl (lU (pv 0)) (pgN (i:=2) sc_haw.nd) (aD (bO PassesOwn.never rfl (iE (eX aZ rfl)) (pgN (i:=3) sc_haw.nd) (aD (cD (dO (cG hu (aS D_b (hm hr) aU rfl (a7 (pv 2) (a7 (pv 3) aC))) (pv 0))) (aD (eV hu (pv 1) (aS D_ss (hm hr) aU rfl (a7 (pv 2) (a7 (pv 3) aC))) (aS D_lo (hm hr) aU rfl (a7 (pv 3) aC)) rfl)) bB))))))
   (aD (aQ (pv 1))))),?_⟩
 refine fun h hh=>?_
 have nc:c≠h:=aJ hC hh;have kc:∀od,(upd H c (.frz od (.dT (kvF k2 (CS C))))) h=none:=fun od=>fH hC hh
 refine⟨c,.dT (kvF k2 (CS C)),by rw[aB nc];exact hC,trivial,fun od=>⟨_,rfl,c,od,rfl,.inr ⟨_,a8,kX (d:=c) (od:=od) (kvs:=kvF k2 (CS C))
  (fun i σ H2=>∃(v2 v3:Option V),σ=[some (.ref c),some (.ref h),v2,v3]/\a9 (upd H c (.frz od (.dT (kvF k2 (CS C))))) H2/\D2 H2 h (IV (RM.cN [] (RM.d7 (RM.iW C) i))))
  ⟨none,none,rfl,a9.both (a9.upd hh),by unfold D2;rw[aB nc.symm,a8];rfl⟩ (fun i σ H2 ⟨_,_,_,s2,_⟩=>s2 _ _ a8) ?_ ?_⟩⟩⟩
 ·rintro i kk vv q σ H2 hi hq ⟨v2,v3,rfl,s2,hD⟩;obtain⟨p,hp,rfl⟩:=pT hi;have hp2:(RM.iW C)[i]? =some p:=by have:=congrArg (Option.map Prod.fst) hp;rw[<- bf,jU]at this;exact this
  have ql:i<C.length:=by have:=(aq.mp hp2).1;simpa[RM.iW]using this
  refine⟨_,rfl,⟨_,c_ALL_SIDES _⟩,gF (K:=K) (a:=aALL_SIDES) (xs:=[.int 0,.int 1,.int 2,.int 3]) (fun j σ H3=>∃(v3:Option V),σ=[some (.ref c),some (.ref h),some (.ref q),v3]/\a9 (upd H c (.frz od (.dT (kvF k2 (CS C))))) H3/\T2 H3 (.ref q) p/\D2 H3 h (IV (RM.cN [] (RM.d7 (RM.iW C) i++RM.cR (RM.iW C) p j))))
   ⟨v3,rfl,s2,⟨q,rfl,hq⟩,by rw[show RM.cR (RM.iW C) p 0=[]from rfl,da];exact hD⟩ (fun i σ H2 _ _=>c_ALL_SIDES H2) ?_ ?_⟩
  ·rintro j x σ H3 hx ⟨v3,rfl,s3,tq,hD⟩;obtain⟨hj,rfl⟩:=lR hx;refine⟨_,rfl,_,rfl,.ref q,p,j,rfl,tq.c,hj,fun n H4 s4 t4=>?_⟩;obtain⟨na,rfl,nh⟩:=t4;refine⟨_,rfl,c,_,rfl,R2.get (kvs:=CS C) (p:=RM.aI p j) (.inr ⟨od,(a9.trans s3 s4) _ _ a8⟩) nh,_,rfl,?_⟩;rw[uB];have ze:=RM.rJ (RM.iW C) p hj;refine bY (fun c1=>?_) (fun c1=>?_)
   ·have c1:¬RM.aI p j∈RM.iW C:=by simpa using c1
    rw[af c1]at ze;refine⟨_,rfl,_,rfl,_,rfl,_,rfl,_,rfl,.ref q,p,j,rfl,(tq.mono s4).c,hj,fun n H5 s5 t5=>?_⟩;obtain⟨ma,rfl,hma⟩:=t5;have kh:D2 H5 h (IV (RM.cN [] (RM.d7 (RM.iW C) i++RM.cR (RM.iW C) p j))):=s5 _ _ (s4 _ _ hD);refine⟨h,_,rfl,D2.put kh hma _ ?_,_,rfl,a9.put (a9.trans s3 (a9.trans s4 s5)) (kc od),T2.pA (tq.mono (a9.trans s4 s5)) kh (by intro _ z;cases z),?_⟩
    ·rw[fZ];have h1:=RM.gH (RM.d7 (RM.iW C) i++RM.cR (RM.iW C) p j) [];have h2:=RM.zV (RM.iW C) i;have h3:=RM.lE (RM.iW C) p j;rw[aj]at h1;simp only[dv]at h1;exact few (m:=2000) (by omega)
    ·unfold D2;rw[a8,u7,ze,<- dz,RM.u5];rfl
   ·have c1:RM.aI p j∈RM.iW C:=by simpa using c1
    rw[ah c1,da]at ze;exact⟨_,rfl,a9.trans s3 s4,tq.mono s4,by rw[ze];exact s4 _ _ hD⟩
  ·rintro σ H3 ⟨v3,rfl,s3,tq,hD⟩;refine⟨_,_,rfl,s3,?_⟩;rw[RM.oB hp2];exact hD
 ·rintro σ H2 ⟨v2,v3,rfl,s2,hD⟩;have el:(kvF k2 (CS C)).length=(RM.iW C).length:=by rw[f6,n6];simp[RM.iW]
  rw[el,RM.zW]at hD;exact⟨s2 _ _ a8,_,rfl,k h _ (a9.unlock hC s2) hh (by unfold D2;rw[aB nc.symm];exact hD)⟩
abbrev s_wf:Stmt:=(top 43)
theorem sc_wf:aL ["start","headings","walked","corners","point","came","heading"] ["start","headings","walked"] (aH s_wf):=fS
noncomputable def sp_wf(K:W.Frag)(d:Adr):Sp:=fun vs H Q _=>∃(v:V)(hA wA:Addr)(hs:List (PI×Int))(wk:List PI)(s0:PI)(f:List (PI×Int)),vs=[v,.ref hA,.ref wA]/\T2 H v s0/\R2 H hA (IV hs)/\D2 H wA (KS wk)/\hA≠wA/\RM.mK (RM.aN hs) s0 f s0/\f≠[]/\(f.map (·.1)).Nodup/\(∀y∈f.map (·.1),y∉wk)/\wk.length+f.length<=5000/\∀r H',But wA H H'->H r=none->LT H' (.ref r) (RM.bJ none f)->D2 H' wA (KS (wk++f.map (·.1)))->Q (.ref r) H'
theorem ok_wf(F:Fun K "walk_from" "walk_from" s_wf f fd)(T:Txt K mg base d)(D_b:aP P w K mg base CX0 2 "beyond" ["place","direction"] (sp_b K d)):bI P w K mg base CX0 3 f fd ["start","headings","walked"] (sp_wf K d):=by
 refine F.ok sc_wf (fun vs H Q E h=>by obtain⟨v,hA,wA,hs,wk,s0,f,rfl,_⟩:=h;rfl) (fun _ _ _ _ H _ Q E hr h=>?_);have hu:=bE hr;obtain⟨v,hA,wA,hs,wk,s0,f,rfl,tv,hH,hW,nHW,Ax,fne,fnd,fnew,De,k⟩:=h;have hHb:∀H',But wA H H'->R2 H' hA (IV hs):=fun H' e=>by
  rcases hH with h|⟨o,h⟩
  ·exact .inl (e _ _ nHW h)
  ·exact .inr ⟨o,e _ _ nHW h⟩
 refine⟨_,(aA (psN (i:=3) sc_wf.nd (fF aC))
   (aA (psN (i:=4) sc_wf.nd (pv 0))
   (aA (psN (i:=5) sc_wf.nd MF)
   (aA (nK PassesOwn.never (dO (cG hu (pv 4) (pv 2))) (aA (eV hu (pv 2) (pv 4) g8 rfl)
   (aA (psN (i:=6) sc_wf.nd (lV hu (pv 1) (pv 4) (fun _ _=>rfl)))
   (aA (cD (bU LM (pv 6) (pv 5) (c8 _)) (aD (cW (hO PySem.F.plainAttrs_list PySem.F.slot_list_append PySem.F.type_list_append cH (pv 3) (a7 (pv 4) aC)))) bB)
   (aA (psN (i:=5) sc_wf.nd (pv 6))
   (aD (psN (i:=4) sc_wf.nd (aS D_b (hm hr) aU rfl (a7 (pv 4) (a7 (pv 6) aC))))))))))
   (aD (aQ (pv 3))))))),?_⟩
 refine⟨bz _,fun r yz=>⟨_,rfl,?_⟩⟩;have yh:r≠wA:=(aJ hW yz).symm;dsimp only[jZ,GF];refine n8 (fun σ H2=>∃(g rest:List (PI×Int))(q:PI)(vq:V)(came:Option Int)(xs:List V)(cs:List PI)(v6:Option V),σ=[some v,some (.ref hA),some (.ref wA),some (.ref r),some vq,some (match came with|none=>V.non|some h=>V.int h),v6]/\f=g++rest/\RM.mK (RM.aN hs) q rest s0/\T2 H2 vq q/\But wA H H2/\H2 r=some (.lst xs)/\Paired (T2 H2) xs cs/\cs++RM.bJ came rest=RM.bJ none f/\cs.length<=g.length/\D2 H2 wA (KS (wk++g.map (·.1))))
  (fun _ H2=>10000 - mC H2 wA)
  ⟨[],f,s0,v,none,[],[],none,rfl,rfl,Ax,tv.mono (a9.upd yz),a9.but (a9.upd yz),a8,.nil,rfl,au _,by unfold D2;rw[aB yh.symm,iy,da];exact hW⟩ ?_ (fun _ _ _ _ f ⟨v,e,w,e2,a,o,ex,g,b,eb,q⟩=>⟨v,e,w,e2,a,o,ex,g,b,eb,f _ _ q⟩)
 rintro σ H2 ⟨g,rest,q,vq,came,xs,cs,v6,rfl,hf,pq,⟨qa,rfl,qw⟩,b2,h2,pr,Ae,lcs,hD⟩;refine⟨_,rfl,_,rfl,wA,_,rfl,R2.get (p:=q) hD.rd qw,_,rfl,?_⟩;rw[JC];cases pq with
 |nil=>
  have vx:s0∈wk++g.map (·.1):=by
   rw[da]at hf;subst hf;refine bc _ ?_;cases Ax with
   |nil=>exact absurd rfl fne
   |cons _ _ _ _=>simp
  refine bY (fun c1=>?_) (fun c1=>?_)
  ·exact absurd vx (lX c1)
  ·rw[da]at hf;subst hf;have Ae:cs=RM.bJ none f:=by rw[<- Ae];simp[RM.bJ]
   subst Ae;exact⟨_,rfl,k r H2 b2 yz ⟨r,xs,rfl,h2,pr⟩ hD⟩
 | @cons _ _ hd rest' hq h0 h4 pn=>
  have Bu:q∉wk++g.map (·.1):=by
   intro z;rcases aw.mp z with z|z
   ·exact fnew q (by rw[hf];simp) z
   ·rw[hf,cf,cn]at fnd;exact fnd.2.2 q z q (by simp) rfl
  refine bY (fun c1=>?_) (fun c1=>absurd (j3 c1) Bu);have jt:(wk++g.map (·.1)).length<=5000:=by rw[hf]at De;simp only[aj,bo,ai]at De ⊢;omega
  refine⟨_,rfl,_,rfl,wA,_,rfl,D2.put hD qw (.bl true) (by rw[CU];exact few jt),?_⟩;rw[LJ Bu];have Ah:H2 wA=some (.dT (kvF k2 (KS (wk++g.map (·.1))))):=hD;have zq:T2 (upd H2 wA (.dT (kvF k2 (KS (wk++g.map (·.1)++[q]))))) (.ref qa) q:=T2.pA ⟨qa,rfl,qw⟩ Ah (by intro _ z;cases z);have b3:But wA H (upd H2 wA (.dT (kvF k2 (KS (wk++g.map (·.1)++[q]))))):=b2.here;have h3:(upd H2 wA (.dT (kvF k2 (KS (wk++g.map (·.1)++[q]))))) r=some (.lst xs):=by rw[aB yh];exact h2
  have oj:Paired (T2 (upd H2 wA (.dT (kvF k2 (KS (wk++g.map (·.1)++[q])))))) xs cs:=aK (fun _ _ z=>z.pA Ah (by intro _ z;cases z)) pr;have lh:D2 (upd H2 wA (.dT (kvF k2 (KS (wk++g.map (·.1)++[q]))))) wA (KS (wk++(g++[(q,hd)]).map (·.1))):=by unfold D2;rw[a8];simp
  have m2:mC H2 wA=(wk++g.map (·.1)).length:=by rw[zF hD,CU]
  generalize (upd H2 wA (.dT (kvF k2 (KS (wk++g.map (·.1)++[q])))))=H3 at zq b3 h3 oj lh ⊢;obtain⟨_,e,qw⟩:=zq;cases e;have dg:lP H3 hA (.ref qa) (some (.int hd)):=by have dg:=(hHb H3 b3).get (p:=q) qw;rw[iS,hq]at dg;exact dg
  refine⟨_,rfl,_,rfl,hA,_,rfl,dg,?_⟩;have Bq:f=g++[(q,hd)]++rest':=by rw[hf];simp
  have fin:∀(xs:List V)(cs:List PI)(H4:Hp),But wA H H4->H4 r=some (.lst xs)->Paired (T2 H4) xs cs->T2 H4 (.ref qa) q->D2 H4 wA (KS (wk++(g++[(q,hd)]).map (·.1)))->cs++RM.bJ (some hd) rest'=RM.bJ none f->cs.length<=g.length+1->∀(vn:V)(H5:Hp),a9 H4 H5->T2 H5 vn (RM.aI q hd.toNat) ->
   (∃(g rest:List (PI×Int))(q:PI)(vq:V)(came:Option Int)(xs:List V)(cs:List PI)(v6:Option V),([some v,some (.ref hA),some (.ref wA),some (.ref r),some vn,some (.int hd),some (.int hd)]:List (Option V))=[some v,some (.ref hA),some (.ref wA),some (.ref r),some vq,some (match came with|none=>V.non|some h=>V.int h),v6]/\f=g++rest/\RM.mK (RM.aN hs) q rest s0/\T2 H5 vq q/\But wA H H5/\H5 r=some (.lst xs)/\Paired (T2 H5) xs cs/\cs++RM.bJ came rest=RM.bJ none f/\cs.length<=g.length/\D2 H5 wA (KS (wk++g.map (·.1))))/\10000 - mC H5 wA<10000 - mC H2 wA:=by
   intro xs cs H4 b4 h4 vc t4 ka e4 l4 vn H5 s5 t5;refine⟨⟨g++[(q,hd)],rest',_,vn,some hd,xs,cs,_,rfl,Bq,pn,t5,b4.trans (a9.but s5),s5 _ _ h4,aK (fun _ _ z=>z.mono s5) vc,e4,by rw[aj];exact l4,s5 _ _ ka⟩,?_⟩;have kh:D2 H5 wA (KS (wk++(g++[(q,hd)]).map (·.1))):=s5 _ _ ka;rw[m2,zF kh,CU];simp only[aj,ai,bo,dv]at jt ⊢;omega
  have lcs5:cs.length<=5000:=by rw[aj,ai]at jt;omega
  have lx:=pairs_len oj;cases came with
  |none=>refine⟨_,rfl,_,rfl,rfl,_,rfl,F4 ?_⟩;refine⟨_,rfl,.inl ⟨rfl,_,SqL.of h3⟩,_,rfl,r,xs,.ref qa,rfl,rfl,h3,few (m:=5000) (by omega),?_⟩;refine⟨_,rfl,_,rfl,_,rfl,.ref qa,q,hd.toNat,congrArg (fun z=>[V.ref qa,V.int z]) (gi h0).symm,T2.c ((T2.upd (D:=r) ⟨qa,rfl,qw⟩ h3)),by omega,fun vn H5 s5 t5=>?_⟩;refine fin (xs++[.ref qa]) (cs++[q]) _ (b3.put yz) a8 (b8 (T2.upd (D:=r) ⟨qa,rfl,qw⟩ h3) (aK (fun _ _ z=>z.upd h3) oj)) (T2.upd (D:=r) ⟨qa,rfl,qw⟩ h3) (by unfold D2;rw[aB yh.symm];exact lh) ?_ (by rw[aj];simp;omega) vn H5 s5 t5;rw[<- Ae];simp[RM.bJ]
  |some cm=>
   refine⟨_,rfl,_,rfl,rfl,_,rfl,?_⟩;refine bY (fun c2=>?_) (fun c2=>?_)
   ·have c2:¬hd=cm:=by intro z;rw[z]at c2;simp at c2
    refine⟨_,rfl,.inl ⟨rfl,_,SqL.of h3⟩,_,rfl,r,xs,.ref qa,rfl,rfl,h3,few (m:=5000) (by omega),?_⟩;refine⟨_,rfl,_,rfl,_,rfl,.ref qa,q,hd.toNat,congrArg (fun z=>[V.ref qa,V.int z]) (gi h0).symm,T2.c ((T2.upd (D:=r) ⟨qa,rfl,qw⟩ h3)),by omega,fun vn H5 s5 t5=>?_⟩;refine fin (xs++[.ref qa]) (cs++[q]) _ (b3.put yz) a8 (b8 (T2.upd (D:=r) ⟨qa,rfl,qw⟩ h3) (aK (fun _ _ z=>z.upd h3) oj)) (T2.upd (D:=r) ⟨qa,rfl,qw⟩ h3) (by unfold D2;rw[aB yh.symm];exact lh) ?_ (by rw[aj];simp;omega) vn H5 s5 t5;rw[<- Ae];simp[RM.bJ,c2]
   ·have c2:hd=cm:=by
     have:decide (V.int hd=V.int cm)=true:=by
      cases e:decide (V.int hd=V.int cm)with
      |true=>rfl
      |false=>rw[e]at c2;exact absurd rfl c2
     exact V.int.inj (ba this)
    subst c2;refine⟨_,rfl,_,rfl,_,rfl,.ref qa,q,hd.toNat,congrArg (fun z=>[V.ref qa,V.int z]) (gi h0).symm,T2.c ⟨qa,rfl,qw⟩,by omega,fun vn H5 s5 t5=>?_⟩;refine fin xs cs _ b3 h3 oj ⟨qa,rfl,qw⟩ lh ?_ (by omega) vn H5 s5 t5;rw[<- Ae];simp[RM.bJ]
abbrev s_wr:Stmt:=(top 44)
theorem sc_wr:aL ["cells","headings","walks","walked","point"] ["cells"] (aH s_wr):=fS
theorem rV{K:W.Frag}{d:Adr}{H:Hp}{as:List Addr}{ps:List PI}(h:Paired (T2 H) (as.map V.ref) ps):∀a∈as,∀H2,a9 H H2->sp_br K d [.ref a] H2 (fun r H3=>a9 H2 H3/\∃b,r=.ref b/\H3 b=some (.tup ((fT H a).map V.int))) E0:=by intro a ha H2 s2;have t:=(yT h a ha).mono s2;refine⟨.ref a,pairOf H a,rfl,t.c,fun r H3 s3 ⟨b,e,hb⟩=>⟨s3,b,e,hb⟩⟩
noncomputable def sp_wr(K:W.Frag)(d:Adr):Sp:=fun vs H Q _=>∃(c:Addr)(C:List (Nat×Nat)),vs=[.ref c]/\D2 H c (CS C)/\C.length<=256/\Roof.pinched C=false/\∀r H',a9 H H'->LLT H' (.ref r) (RM.iWs (Roof.walksOf C))->Q (.ref r) H'
theorem ok_wr(F:Fun K "walks_round" "walks_round" s_wr f fd)(T:Txt K mg base d)(D_haw:aP P w K mg base CX0 3 "headings_along_walls" ["cells"] (sp_haw K d))(D_br:aP P w K mg base CX0 1 "by_row" ["place"] (sp_br K d))(D_wf:aP P w K mg base CX0 3 "walk_from" ["start","headings","walked"] (sp_wf K d)):bI P w K mg base CX0 5 f fd ["cells"] (sp_wr K d):=by
 refine F.ok sc_wr (fun vs H Q E h=>by obtain⟨c,C,rfl,_⟩:=h;rfl) (fun _ _ _ _ H _ Q E hr h=>?_);have hu:=bE hr;obtain⟨c,C,rfl,hC,hl,qx,k⟩:=h;refine⟨_,(aA (psN (i:=1) sc_wr.nd (aS D_haw (hm hr) aU rfl (a7 (pv 0) aC)))
   (aA (psN (i:=2) sc_wr.nd (fF aC))
   (aA (psN (i:=3) sc_wr.nd d9)
   (aA (bO PassesOwn.never rfl (dH (yP rfl D_br (hm hr) rfl T.sorted rfl (a7 (pv 1) aC))) (pgN (i:=4) sc_wr.nd) (aD (cD (dO (cG hu (pv 4) (pv 3))) (aD (cW (hO PySem.F.plainAttrs_list PySem.F.slot_list_append PySem.F.type_list_append cH (pv 2) (a7 (aS D_wf (hm hr) aU rfl (a7 (pv 4) (a7 (pv 1) (a7 (pv 3) aC)))) aC)))) bB)))
   (aD (aQ (pv 2))))))),?_⟩
 refine⟨_,rfl,c,C,rfl,hC,hl,fun h H1 s1 hh hH=>?_⟩;refine⟨bz _,fun w hw=>fun wk hwk=>?_⟩;have nhw:w≠wk:=aJ a8 hwk;have fwk:H1 wk=none:=(a9.upd hw).free hwk;have s2:a9 H1 (upd (upd H1 w (.lst [])) wk (.dT [])):=a9.trans (a9.upd hw) (a9.upd hwk);refine⟨_,rfl,h,_,rfl,R2.mono s2 hH.rd,fun as hk=>?_⟩;have qy:=tH hk;rw[y6]at qy;refine⟨fT (upd (upd H1 w (.lst [])) wk (.dT [])),fun a _=>by unfold fT;exact cons_ne_nil _ _,rV qy,fun L out H2 hL pm pw s3 h2=>?_⟩;obtain⟨ys,pr,yp,yr⟩:=kH qy pm pw;have ey:=RM.uF qx yp yr;subst ey;have nLw:L≠w:=(aJ (by rw[aB nhw,a8]) hL).symm;have nLk:L≠wk:=(aJ a8 hL).symm;have prT:∀{i:Nat}{v:V},(out.map V.ref)[i]? =some v->∃q,(RM.c9 C)[i]? =some q/\T2 H1 v (RM.iP q)\/(RM.c9 C)[i]? =some q/\T2 (upd (upd H1 w (.lst [])) wk (.dT [])) v (RM.iP q):=fun{i v} hv=>by
  obtain⟨z,hz,t⟩:=pairs_at pr hv;unfold RM.iW at hz;rw[bf]at hz;cases e:(RM.c9 C)[i]? with
  |none=>rw[e]at hz;cases hz
  |some q=>rw[e]at hz;cases hz;exact⟨q,.inr ⟨rfl,t⟩⟩
 have w2:(upd (upd H1 w (.lst [])) wk (.dT [])) w=some (.lst []):=by rw[aB nhw,a8]
 have k2':(upd (upd H1 w (.lst [])) wk (.dT [])) wk=some (.dT []):=a8;generalize hHa:(upd (upd H1 w (.lst [])) wk (.dT []))=Ha at*;refine⟨L,rfl,⟨_,SqL.of h2⟩,gU (K:=K) (a:=L) (xs:=out.map V.ref) (fun i σ H3=>∃(seen:List Roof.Point)(ws:List Roof.Walk)(xs:List V)(v4:Option V),σ=[some (.ref c),some (.ref h),some (.ref w),some (.ref wk),v4]/\a9 H1 H3/\(∀a p,T2 Ha (.ref a) p->T2 H3 (.ref a) p)/\H3 L=some (.lst (out.map V.ref))/\H3 w=some (.lst xs)/\Paired (fun v z=>∃b,v=V.ref b/\b≠w/\LT H3 (.ref b) z) xs (RM.iWs ws)/\D2 H3 wk (KS (RM.iW seen))/\RM.f9 C seen i ws/\ws.length<=i)
  ⟨[],[],[],none,rfl,a9.trans s2 s3,fun a p t=>t.mono s3,h2,s3 _ _ w2,.nil,s3 _ _ k2',RM.f9.start C,au _⟩ (fun i σ H3 _ ⟨_,_,_,_,_,_,_,h3,_⟩=>SqL.of h3) ?_ ?_⟩
 ·rintro i v σ H3 hv ⟨seen,ws,xs,v4,rfl,s4,tup,hL3,hw3,vb,lh,st,lws⟩;obtain⟨q,hq,t⟩:∃q,(RM.c9 C)[i]? =some q/\T2 Ha v (RM.iP q):=by
   obtain⟨q,z|z⟩:=prT hv
   ·exact⟨q,z.1,z.2.mono s2⟩
   ·exact⟨q,z⟩
  obtain⟨a,rfl,ha⟩:=t;obtain⟨_,e,Ct⟩:=tup a _ ⟨a,rfl,ha⟩;cases e;have ql:i<out.length:=by have:=(aq.mp hv).1;simpa using this
  refine⟨_,rfl,_,rfl,wk,_,rfl,R2.get (p:=RM.iP q) lh.rd Ct,_,rfl,?_⟩;rw[JC];refine bY (fun c1=>?_) (fun c1=>?_)
  ·have c1:q∉seen:=fun z=>lX c1 (RM.cZ.mpr z)
   obtain⟨f,f1,f2,f3,f4,ny,w',e1,e2,nv⟩:=st.next qx hq c1;have nhk:h≠wk:=aJ hH fwk;have ls:=nv.len qx;have el:(RM.iW ny).length=ny.length:=by simp[RM.iW]
   refine⟨_,rfl,.inl ⟨rfl,_,SqL.of hw3⟩,_,rfl,_,rfl,_,rfl,.ref a,h,wk,RM.d3 (RM.iW C),RM.iW seen,RM.iP q,f,rfl,⟨a,rfl,Ct⟩,R2.mono s4 hH.rd,lh,nhk,f1,f2,f3,f4,?_,fun r H4 b4 zz lt4 ka=>?_⟩
   ·have:(RM.iW seen++f.map (·.1)).length<=4*256:=by rw[<- e1,el];omega
    rw[aj,ai]at this;omega
   ·have hw4:H4 w=some (.lst xs):=b4 _ _ nhw hw3;have yh:r≠w:=fun z=>by rw[z,hw3]at zz;cases zz
    have zm:H3 wk=some (.dT (kvF k2 (KS (RM.iW seen)))):=lh;have lx:=pairs_len vb;have lws2:xs.length<=1024:=by
     have h1:(RM.iWs ws).length=ws.length:=by simp[RM.iWs]
     have h2:out.length=(RM.c9 C).length:=by have:=pairs_len pr;simpa[RM.iW]using this
     have h3:(RM.c9 C).length<=4*C.length:=by have a1:=RM.oA (RM.iW C);have a2:=yp.length_eq;simp only[RM.iW,ai]at a1 a2;omega
     omega
    have T4:∀{v:V}{p:PI},T2 H3 v p->T2 (upd H4 w (.lst (xs++[.ref r]))) v p:=fun t=>(t.but b4 zm (by intro _ z;cases z)).upd hw4
    refine⟨w,xs,.ref r,rfl,rfl,hw4,few lws2,ny,ws++[w'],xs++[.ref r],_,rfl,a9.put (But.same b4 s4 fwk) hw,fun a p t=>T4 (tup a p t),by rw[aB nLw];exact b4 _ _ nLk hL3,a8,?_,by unfold D2;rw[aB nhw.symm,e1];exact ka,nv,by rw[aj];simp;omega⟩;have e3:RM.iWs (ws++[w'])=RM.iWs ws++[RM.bJ none f]:=by simp[RM.iWs,e2]
    rw[e3];refine b8 ⟨r,rfl,yh,lt4.upd hw4 yh⟩ (aK (fun v z ⟨b,e,nb,b0,ys,eb,hb,py⟩=>⟨b,e,nb,?_⟩) vb);cases eb;have nbk:b≠wk:=fE hb zm (by intro z;cases z);exact LT.upd ⟨b,ys,rfl,b4 _ _ nbk hb,aK (fun _ _ t=>t.but b4 zm (by intro _ z;cases z)) py⟩ hw4 nb
  ·have c1:q∈seen:=RM.cZ.mp (j3 c1);exact⟨seen,ws,xs,_,rfl,s4,tup,hL3,hw3,vb,lh,st.skip hq c1,by omega⟩
 ·rintro σ H3 ⟨seen,ws,xs,v4,rfl,s4,tup,hL3,hw3,vb,lh,st,lws⟩;have h2:(out.map V.ref).length=(RM.c9 C).length:=by have:=pairs_len pr;simpa[RM.iW]using this
  rw[h2]at st;have e:=st.done;subst e;exact⟨_,rfl,k w H3 (a9.trans s1 s4) ⟨w,xs,rfl,hw3,aK (fun v z ⟨b,e,nb,t⟩=>by rw[e];exact t) vb⟩⟩
abbrev s_ht:Stmt:=(top 45)
theorem sc_ht:aL ["t","walks","cells"] ["t"] (aH s_ht):=fS
theorem KJ{a b:List Roof.Walk}(h:RM.iWs a=RM.iWs b):a=b:=RM.map_inj (fun x _ y _ q=>RM.map_inj (fun p _ p' _ r=>fW r) q) h
theorem iL{F:Nat->Nat->Bool}(h:Roof.isHouse (RM.aR F)=true):(RM.aR F).length<=256/\Roof.pinched (RM.aR F)=false/\RM.aR F≠[]:=by
 cases e:RM.aR F with
 |nil=>rw[e]at h;cases h
 |cons c r=>have h2:=RM.tJ e;rw[h]at h2;rw[e]at h2;simp only[Bool.true_eq,cg,decide_eq_true_iff,fj]at h2;exact⟨h2.1,h2.2.1,cons_ne_nil _ _⟩
noncomputable def sp_ht(K:W.Frag)(d:Adr):Sp:=fun vs H Q E=>∃(a:Addr)(ns:List Int),vs=[.ref a]/\SqL K H a (ns.map V.int)/\ns.length<=4096/\RM.inB ns/\(∀F,Roof.houseOf (RoofBNeutral.text ns)=some (RM.aR F)->Roof.isHouse (RM.aR F)=true->∀r H',a9 H H'->H r=none->D2 H' r (CS (RM.aR F))->Q (.ref r) H')/\(Roof.houseOf (RoofBNeutral.text ns)=none->E (.ref d.bW) none H)
theorem ok_ht(F:Fun K "house_told" "house_told" s_ht f fd)(T:Txt K mg base d)(D_wt2:aP P w K mg base CXf 5 "walks_told" ["t"] (sp_wt2 K d))(D_cw2:aP P w K mg base CX0 2 "cells_within" ["walks"] (sp_cw2 K d))(D_wr:aP P w K mg base CX0 5 "walks_round" ["cells"] (sp_wr K d))(D_ih:aP P w K mg base CX0 4 "is_house" ["cells"] (sp_ih K d)):bI P w K mg base CXf 6 f fd ["t"] (sp_ht K d):=by
 refine okX F sc_ht (fun vs H Q E h=>by obtain⟨a,ns,rfl,_⟩:=h;rfl) (fun _ _ _ _ H _ Q E hr hok h=>?_);have hu:=bE hr;obtain⟨a,ns,rfl,hS,hl,hB,k1,k2⟩:=h;refine⟨_,(aA (psN (i:=1) sc_ht.nd (aS D_wt2 (hm hr) (yR hok) rfl (a7 (pv 0) aC)))
   (aA (psN (i:=2) sc_ht.nd (aS D_cw2 (hm hr) aU rfl (a7 (pv 1) aC)))
   (aA (cD (PW.pt (yM (GW (iD (aS D_ih (hm hr) aU rfl (a7 (pv 2) aC)) (fun _=>rfl))) (sQ (bU (MK hr.units) (aS D_wr (hm hr) aU rfl (a7 (pv 2) aC)) (pv 1) (c8 _))))) (aD (dG hok PySem.F.excBase_Exception T.eG rfl)) bB)
   (aD (aQ (pv 2)))))),?_⟩
 refine⟨_,rfl,a,ns,rfl,hS,hl,fun z hz v H1 s1 llt=>?_,fun hn=>k2 (RM.C4 hB hn)⟩;obtain⟨W,oW,rfl,_⟩:=RM.qI hz;have hh:=RM.C3 hB oW hz;have okp:RM.sV W:=fun w hw=>(oW.2 w hw).2
 refine⟨_,rfl,v,W,rfl,llt,okp,fun c H2 s2 hc hD=>?_⟩;have ug:Roof.houseOf (RoofBNeutral.text ns)=(if Roof.isHouse (RM.aR (RM.dD W))=true/\Roof.walksOf (RM.aR (RM.dD W))=W then some (RM.aR (RM.dD W))else none):=hh;generalize RM.dD W=F at hD ug;refine⟨_,rfl,c,F,rfl,hD,fun H3 s3=>⟨_,rfl,?_⟩⟩;refine bY (fun c1=>F4 (k2 ?_)) (fun c1=>?_)
 ·rw[ug,af];intro z;rw[z.1]at c1;cases c1
 have c1:Roof.isHouse (RM.aR F)=true:=by
  cases e:Roof.isHouse (RM.aR F)with
  |true=>rfl
  |false=>rw[e]at c1;exact absurd rfl c1
 obtain⟨mz,qx,jn⟩:=iL c1;have lh:D2 H3 c (CS (RM.aR F)):=s3 _ _ hD;refine⟨_,rfl,c,RM.aR F,rfl,lh,mz,qx,fun r H4 s4 llt4=>?_⟩;refine⟨_,rfl,dWs (RM.iWs (Roof.walksOf (RM.aR F))),dWs (RM.iWs W),LR llt4,LR (llt.mono (a9.trans s2 (a9.trans s3 s4))),uY _,uY _,_,rfl,?_⟩;rw[NA];refine bY (fun c2=>k2 ?_) (fun c2=>?_)
 ·rw[ug,af];intro z;exact lX c2 (by rw[z.2])
 ·have e:Roof.walksOf (RM.aR F)=W:=KJ (j3 c2);exact⟨_,rfl,k1 F (by rw[ug,ah ⟨c1,e⟩]) c1 c H4 (a9.trans s1 (a9.trans s2 (a9.trans s3 s4))) (s1.free hc) (s4 _ _ lh)⟩
abbrev s_hco:Stmt:=(top 59)
theorem sc_hco:aL ["cells","found","cell","quarter"] ["cells"] (aH s_hco):=fS
noncomputable def sp_hco(K:W.Frag)(d:Adr):Sp:=fun vs H Q _=>∃(c:Addr)(C:List (Nat×Nat)),vs=[.ref c]/\D2 H c (CS C)/\C.Nodup/\(∀x∈C,x.1<64/\x.2<64)/\C.length<=256/\∀r H',a9 H H'->H r=none->LT H' (.ref r) ((Roof.halvesOf C).map RM.hP)->Q (.ref r) H'
theorem ok_hco(F:Fun K "half_cells_of" "half_cells_of" s_hco f fd)(T:Txt K mg base d)(D_m:aP P w K mg base CX0 1 "moved" ["place","step"] (sp_m K d))(D_br:aP P w K mg base CX0 1 "by_row" ["place"] (sp_br K d)):bI P w K mg base CX0 5 f fd ["cells"] (sp_hco K d):=by
 refine F.ok sc_hco (fun vs H Q E h=>by obtain⟨c,C,rfl,_⟩:=h;rfl) (fun _ _ _ _ H _ Q E hr h=>?_);have hu:=bE hr;obtain⟨rh,mV,c_QUARTERS⟩:=T.mV;obtain⟨c,C,rfl,hC,nd,bd,hl,k⟩:=h;refine⟨_,(aA (psN (i:=1) sc_hco.nd (fF aC))
   (aA (jF (bO PassesOwn.never rfl (lU (pv 0)) (pgN (i:=2) sc_hco.nd) (aD (bO PassesOwn.never rfl (iE (eX mV rfl)) (pgN (i:=3) sc_hco.nd) (aD (cW (hO PySem.F.plainAttrs_list PySem.F.slot_list_append PySem.F.type_list_append cH (pv 1) (a7 (aS D_m (hm hr) aU rfl (a7 (cJ (a7 (cK BE aM (bK bG (pv 2) aM (fun _ _=>rfl))) (a7 (cK BE aM (bK bG (pv 2) aM (fun _ _=>rfl))) aC))) (a7 (pv 3) aC))) aC))))))))
   (aD (aQ (HC D_br (hm hr) rfl T.sorted rfl (a7 (pv 1) aC)))))),?_⟩
 obtain⟨qs,rj,wx⟩:=c_QUARTERS;refine⟨bz _,fun f hf=>?_⟩;have nc:c≠f:=aJ hC hf;have kc:∀od,(upd H c (.frz od (.dT (kvF k2 (CS C))))) f=none:=fun od=>fH hC hf
 refine⟨c,.dT (kvF k2 (CS C)),by rw[aB nc];exact hC,trivial,fun od=>⟨_,rfl,c,od,rfl,.inr ⟨_,a8,kX (d:=c) (od:=od) (kvs:=kvF k2 (CS C))
  (fun i σ H2=>∃(xs:List V)(v2 v3:Option V),σ=[some (.ref c),some (.ref f),v2,v3]/\a9 (upd H c (.frz od (.dT (kvF k2 (CS C))))) H2/\H2 f=some (.lst xs)/\Paired (T2 H2) xs (RM.eU ((RM.iW C).take i)))
  ⟨[],none,none,rfl,a9.both (a9.upd hf),by rw[aB nc.symm,a8],.nil⟩ (fun i σ H2 ⟨_,_,_,_,s2,_⟩=>s2 _ _ a8) ?_ ?_⟩⟩⟩
 ·rintro i kk vv q σ H2 hi hq ⟨xs,v2,v3,rfl,s2,h2,pr⟩;obtain⟨p,hp,rfl⟩:=pT hi;have hp2:(RM.iW C)[i]? =some p:=by have:=congrArg (Option.map Prod.fst) hp;rw[<- bf,jU]at this;exact this
  have ql:i<C.length:=by have:=tO hp2;simpa[RM.iW]using this
  refine⟨_,rfl,⟨_,rj _⟩,gF (K:=K) (a:=rh) (xs:=qs) (fun j σ H3=>∃(xs:List V)(v3:Option V),σ=[some (.ref c),some (.ref f),some (.ref q),v3]/\a9 (upd H c (.frz od (.dT (kvF k2 (CS C))))) H3/\T2 H3 (.ref q) p/\H3 f=some (.lst xs)/\Paired (T2 H3) xs (RM.eU ((RM.iW C).take i)++(RM.vC p).take j))
   ⟨xs,v3,rfl,s2,⟨q,rfl,hq⟩,h2,by rw[take_zero,da];exact pr⟩ (fun i σ H2 _ _=>rj H2) ?_ ?_⟩
  ·rintro j x σ H3 hx ⟨xs,v3,rfl,s3,tq,h3,pr⟩;obtain⟨z,hz,cz⟩:=pairs_at wx hx;have lx:=pairs_len pr;rw[aj,RM.B4,bu,bu]at lx;have lq:(RM.vC p).length=4:=rfl;obtain⟨_,e,Br⟩:=id tq;cases e;refine⟨_,rfl,.inl ⟨rfl,_,SqL.of h3⟩,_,rfl,q,_,_,_,rfl,rfl,SqT.of Br,aX (by decide) rfl,_,_,rfl,rfl,.inl ⟨by decide,by decide⟩,_,rfl,q,_,_,_,rfl,rfl,SqT.of Br,aX (by decide) rfl,_,_,rfl,rfl,.inl ⟨by decide,by decide⟩,(by show 2<=sizeLine;decide),fun t ht=>?_⟩;have s4:a9 H3 (upd H3 t (.tup [.int (2*p.1),.int (2*p.2)])):=a9.upd ht;refine⟨_,rfl,.ref t,x,(2*p.1,2*p.2),z,rfl,T2.c ⟨t,rfl,a8⟩,cz _,fun n H5 s5 t5=>?_⟩;have h5:=s5 _ _ (s4 _ _ h3);have wu:=a9.trans s4 s5;refine⟨f,xs,n,rfl,rfl,h5,few (m:=2000) (by omega),xs++[n],_,rfl,a9.put (a9.trans s3 wu) (kc od),(tq.mono wu).upd h5,a8,?_⟩;rw[RM.EL p hz,<- dz];exact b8 (t5.upd h5) (aK (fun _ _ y=>(y.mono wu).upd h5) pr)
  ·rintro σ H3 ⟨xs,v3,rfl,s3,tq,h3,pr⟩;refine⟨xs,_,_,rfl,s3,h3,?_⟩;rw[RM.yL hp2];have e:qs.length=4:=pairs_len wx;rw[e]at pr;exact pr
 ·rintro σ H2 ⟨xs,v2,v3,rfl,s2,h2,pr⟩;have el:(kvF k2 (CS C)).length=(RM.iW C).length:=by rw[f6,n6];simp[RM.iW]
  rw[el,bg (au _)]at pr;have s3:a9 H (upd H2 c (.dT (kvF k2 (CS C)))):=a9.unlock hC s2;have h3:(upd H2 c (.dT (kvF k2 (CS C)))) f=some (.lst xs):=by rw[aB nc.symm];exact h2
  have Ai:H2 c=some (.frz od (.dT (kvF k2 (CS C)))):=s2 _ _ a8;have oj:Paired (T2 (upd H2 c (.dT (kvF k2 (CS C))))) xs (RM.eU (RM.iW C)):=aK (fun _ _ z=>z.pA Ai (by intro _ z;cases z)) pr;refine⟨Ai,?_⟩;generalize (upd H2 c (.dT (kvF k2 (CS C))))=H3 at s3 h3 oj ⊢;obtain⟨as,rfl⟩:=D0 oj;refine⟨_,rfl,f,as,fT H3,rfl,SqL.of h3,fun a _=>by unfold fT;exact cons_ne_nil _ _,rV oj,fun L out H4 hL pm pw s4 h4=>?_⟩;obtain⟨ys,py,yp,yr⟩:=kH oj pm pw;have ey:=RM.uK nd bd yp yr;subst ey;exact k L H4 (a9.trans s3 s4) (s3.free hL) ⟨L,_,rfl,h4,aK (fun _ _ z=>z.mono s4) py⟩
abbrev s_id:Stmt:=(top 60)
theorem sc_id:aL ["half","layer","step"] ["half","layer"] (aH s_id):=fS
noncomputable def sp_id(K:W.Frag)(d:Adr):Sp:=fun vs H Q _=>∃(v:V)(p:PI)(l:Addr)(L:List PI),vs=[v,.ref l]/\T2 H v p/\R2 H l (KS L)/\∀H',a9 H H'->Q (.bl ((RM.cM p).all fun q=>L.contains q)) H'
theorem ok_id(F:Fun K "is_deeper" "is_deeper" s_id f fd)(T:Txt K mg base d)(D_m:aP P w K mg base CX0 1 "moved" ["place","step"] (sp_m K d)):bI P w K mg base CX0 2 f fd ["half","layer"] (sp_id K d):=by
 refine F.ok sc_id (fun vs H Q E h=>by obtain⟨v,p,l,L,rfl,_⟩:=h;rfl) (fun _ _ _ _ H _ Q E hr h=>?_);have hu:=bE hr;obtain⟨aHALVES_ABOUT,gT,c_HALVES_ABOUT⟩:=T.gT;obtain⟨v,p,l,L,rfl,hv,hL,k⟩:=h;refine⟨_,(aA (bO PassesOwn.never rfl (iE (eX gT rfl)) (pgN (i:=2) sc_id.nd) (aD (cD (dO (cG hu (aS D_m (hm hr) aU rfl (a7 (pv 0) (a7 (pv 2) aC))) (pv 1))) (aD (aQ g8)) bB)))
   (aD (aQ g8))),?_⟩
 obtain⟨qs,rj,wx⟩:=c_HALVES_ABOUT;have e8:qs.length=8:=pairs_len wx;refine⟨_,rfl,⟨_,rj _⟩,gF (K:=K) (a:=aHALVES_ABOUT) (xs:=qs) (fun j σ H2=>∃(v2:Option V),σ=[some v,some (.ref l),v2]/\a9 H H2/\∀m,m<j->∀q,(RM.cM p)[m]? =some q->q∈L)
  ⟨none,rfl,a9.refl _,by intro m hm;omega⟩ (fun i σ H2 _ _=>rj H2) ?_ ?_⟩
 ·rintro j x σ H2 hx ⟨v2,rfl,s2,old⟩;obtain⟨z,hz,cz⟩:=pairs_at wx hx;have ha:=RM.CT p hz;refine⟨_,rfl,_,rfl,v,x,p,z,rfl,(hv.mono s2).c,cz _,fun n H3 s3 t3=>?_⟩;obtain⟨na,rfl,nh⟩:=t3;refine⟨_,rfl,l,_,rfl,R2.get (hL.mono (a9.trans s2 s3)) nh,_,rfl,?_⟩;rw[JC];refine bY (fun c1=>?_) (fun c1=>?_)
  ·have c1:=lX c1;have h:=k H3 (a9.trans s2 s3);have e:((RM.cM p).all fun q=>L.contains q)=false:=by rw[jb];intro z;rw[fi]at z;have:=z _ (ay ha);exact c1 (by simpa using this)
   rw[e]at h;exact h
  ·have c1:=j3 c1;refine⟨_,rfl,a9.trans s2 s3,fun m hm q hq=>?_⟩;by_cases e:m=j
   ·subst e;rw[ha]at hq;cases hq;exact c1
   ·exact old m (by omega) q hq
 ·rintro σ H2 ⟨v2,rfl,s2,old⟩;have h:=k H2 s2;have e:((RM.cM p).all fun q=>L.contains q)=true:=by rw[fi];intro q hq;obtain⟨m,hm⟩:=fe.mp hq;have jr:=tO hm;have hl8:(RM.cM p).length=8:=rfl;have:=old m (by rw[e8];omega) q hm;simpa using this
  rw[e]at h;exact h
abbrev s_do:Stmt:=(top 61)
theorem sc_do:aL ["cells","depths","layer","depth","half","layer_above"] ["cells"] (aH s_do):=fS
noncomputable def sp_do(K:W.Frag)(d:Adr):Sp:=fun vs H Q _=>∃(c:Addr)(C:List (Nat×Nat)),vs=[.ref c]/\D2 H c (CS C)/\C.Nodup/\(∀x∈C,x.1<64/\x.2<64)/\C.length<=256/\C≠[]/\∀r H',a9 H H'->H r=none->D2 H' r (IV (RM.bT (Roof.halvesOf C)))->Q (.ref r) H'
theorem ok_do(F:Fun K "depths_of" "depths_of" s_do f fd)(T:Txt K mg base d)(D_hco:aP P w K mg base CX0 5 "half_cells_of" ["cells"] (sp_hco K d))(D_id:aP P w K mg base CX0 2 "is_deeper" ["half","layer"] (sp_id K d)):bI P w K mg base CX0 6 f fd ["cells"] (sp_do K d):=by
 refine F.ok sc_do (fun vs H Q E h=>by obtain⟨c,C,rfl,_⟩:=h;rfl) (fun _ _ _ _ H _ Q E hr h=>?_);have hu:=bE hr;obtain⟨c,C,rfl,hC,nd,bd,hl,jn,k⟩:=h;have hok:=RM.bD bd;have hhl:=RM.iN C;have hlhs:((Roof.halvesOf C).map RM.hP).length<=1024:=by rw[ai];omega
 have qj:((Roof.halvesOf C).map RM.hP).Nodup:=RM.dJ ((RM.iM nd bd).imp fun{a b} h e=>by omega) fun x hx y hy e=>RM.pY (hok x hx) (hok y hy) e
 have hend:∀n,64<=n->RM.aO ((Roof.halvesOf C).map RM.hP) n=[]:=fun n hn=>by rw[RM.cY hok,RM.eD hok hn];rfl
 have hdep:∀n,0<n->RM.aO ((Roof.halvesOf C).map RM.hP) n=[]->RM.iQ ((Roof.halvesOf C).map RM.hP) n=RM.bT (Roof.halvesOf C):=fun n h0 e=>RM.CK hok h0 e
 have hne0:RM.aO ((Roof.halvesOf C).map RM.hP) 0≠[]:=by
  intro z;have:((Roof.halvesOf C).map RM.hP).length=0:=by rw[show(Roof.halvesOf C).map RM.hP=[]from z];rfl
  rw[ai,hhl]at this;exact jn (fo (by omega))
 refine⟨_,(aA (psN (i:=1) sc_do.nd d9)
   (aA (psN (i:=2) sc_do.nd (aS D_hco (hm hr) aU rfl (a7 (pv 0) aC)))
   (aA (psN (i:=3) sc_do.nd aM)
   (aA (nK PassesOwn.never (sS (pv 2) (fun _=>rfl)) (aA (bO PassesOwn.never rfl (dH (pv 2)) (pgN (i:=4) sc_do.nd) (aD (eV hu (pv 1) (pv 4) (pv 3) rfl)))
   (aA (B6 (i:=5) sc_do.nd rfl (Or.inr rfl) (vI (CO rfl (C1 hr)) (by rfl) T.dict (by rfl) (a7 (DA (own:=[("half",4)]) rfl sc_do.nd (dH (pv 2)) (fQ (by first|decide+kernel|kernel_rfl)) (fun _ _ _ _ _=>(pgN (i:=4) sc_do.nd)) (fun _ _ _ _ _=>wV) (fun _ _ _ _ _=>(cJ (a7 (pv 4) (a7 g8 aC))))) aC)))
   (aA (GX (i:=2) (own:=[("half",4)]) rfl sc_do.nd rfl rfl (by exact wN rfl rfl rfl rfl) (dH (pv 2)) (fQ (by first|decide+kernel|kernel_rfl)) (fun _ _ _ _ _=>(pgN (i:=4) sc_do.nd)) (fun _ _ _ _ _=>(D6 (iD (aS D_id (hm hr) aU rfl (a7 (pv 4) (a7 (pv 5) aC))) (fun _=>rfl)))) (fun _ _ _ _ _=>(pv 4)))
   (aD (GY (i:=3) sc_do.nd rfl (Or.inl rfl) aM IF))))))
   (aD (aQ (pv 1))))))),?_⟩
 refine fun d0 Ad=>?_
 have nc:c≠d0:=aJ hC Ad;refine⟨_,rfl,c,C,rfl,by unfold D2;rw[aB nc];exact hC,nd,bd,hl,fun r H1 s1 fr lt=>?_⟩;generalize (Roof.halvesOf C).map RM.hP=hs at*;have s01:a9 H H1:=a9.trans (a9.upd Ad) s1;have hD1:D2 H1 d0 []:=s1 _ _ a8;dsimp only[jZ,GF,B0,tC];refine n8 (fun σ H2=>∃(n:Nat)(la:Addr)(v4 v5:Option V),σ=[some (.ref c),some (.ref d0),some (.ref la),some (.int (n:Int)),v4,v5]/\a9 H H2/\LT H2 (.ref la) (RM.aO hs n)/\D2 H2 d0 (IV (RM.iQ hs n)))
  (fun σ _=>100 - cnt σ 3)
  ⟨0,r,none,none,rfl,s01,lt,hD1⟩ ?_ (fun _ _ _ _ f ⟨v,e,k,t,q⟩=>⟨v,e,k,t,f _ _ q⟩)
 rintro σ H2 ⟨n,la,v4,v5,rfl,s2,⟨_,xs,e,tu,pr⟩,hD⟩;cases e;have lx:=pairs_len pr;have lL:(RM.aO hs n).length<=hs.length:=by
  have vm:∀n,(RM.aO hs n).Nodup:=fun n=>by
   induction n with
   |zero=>exact qj
   |succ n ih=>exact ih.filter _
  exact RM.bX (vm n) fun p hp=>RM.mS hs n p hp
 have vm:(RM.aO hs n).Nodup:=by
  clear hD pr lx lL;induction n with
  |zero=>exact qj
  |succ n ih=>exact ih.filter _
 refine⟨_,rfl,_,.inl ⟨_,SqL.of tu,rfl⟩,?_⟩;refine bY (fun cq=>?_) (fun cq=>?_)
 ·have hn64:n<64:=by apply Nat.lt_of_not_le;intro z;rw[hend n z]at pr;cases pr;cases cq
  have ldT:(RM.iQ hs n).length<=1024:=by
   unfold RM.iQ;split
   ·simp
   ·rw[ai];exact hlhs
  have nla:la≠d0:=fE tu hD (by intro z;cases z);refine⟨_,rfl,la,rfl,⟨_,SqL.of tu⟩,gU (K:=K) (a:=la) (xs:=xs) (fun i σ H3=>∃(v4:Option V),σ=[some (.ref c),some (.ref d0),some (.ref la),some (.int (n:Int)),v4,v5]/\But d0 H2 H3/\D2 H3 d0 (IV (RM.cN (RM.iQ hs n) (((RM.aO hs n).take i).map fun p=>(p,(n:Int))))))
   ⟨v4,rfl,But.refl _ _,hD⟩ (fun i σ H3 _ ⟨_,_,b3,_⟩=>SqL.of (b3 _ _ nla tu)) ?_ ?_⟩
  ·rintro i x σ H3 hx ⟨v4,rfl,b3,lh⟩;obtain⟨p,hp,tp⟩:=pairs_at pr hx;obtain⟨a,rfl,ha⟩:=tp.SY b3 hD;refine⟨_,rfl,_,rfl,_,rfl,d0,_,rfl,D2.put lh ha _ ?_,_,rfl,b3.here,?_⟩
   ·rw[fZ];have h1:=RM.gH (((RM.aO hs n).take i).map fun p=>(p,(n:Int))) (RM.iQ hs n);rw[ai,bu]at h1;exact few (m:=5000) (de h1 (by omega))
   ·unfold D2;rw[a8,u7,<- RM.u5,RM.take_snoc hp,cf];rfl
  ·rintro σ H3 ⟨v4,rfl,b3,lh⟩;rw[lx,bg (au _),RM.AE qj]at lh;have vp:H3 la=some (.lst xs):=b3 _ _ nla tu;have oj:Paired (T2 H3) xs (RM.aO hs n):=aK (fun _ _ z=>z.SY b3 hD) pr;have s3:a9 H H3:=But.same b3 s2 Ad;refine⟨_,rfl,la,rfl,⟨_,SqL.of vp⟩,fun D hD0=>m4 (K:=K) (a:=la) (xs:=xs)
    (fun i H4=>a9 H3 H4/\∃ps:List Addr,H4 D=some (.lst (ps.map V.ref))/\Paired (fun p (q:PI)=>∃a,H4 p=some (.tup [.ref a,.bl true])/\H4 a=some (.tup [.int q.1,.int q.2])) ps ((RM.aO hs n).take i)) ⟨a9.upd hD0,[],a8,.nil⟩ (fun i H4 _ ⟨s4,_⟩=>s4.seq (SqL.of vp)) ?_ ?_⟩
   ·rintro i x H4 hx ⟨s4,ps,h4,pp⟩;obtain⟨p,hp,tp⟩:=pairs_at oj hx;obtain⟨a,rfl,ha⟩:=tp.mono s4;have lp:=pairs_len pp;rw[bu]at lp;have ql:=tO hp;refine⟨rfl,_,rfl,(by show 2<=sizeLine;decide),fun t ht=>?_⟩;have s5:a9 H4 (upd H4 t (.tup [.ref a,.bl true])):=a9.upd ht;have h5:=s5 _ _ h4;have kT:∀b ys,(upd H4 t (.tup [.ref a,.bl true])) b=some (.tup ys)->(upd (upd H4 t (.tup [.ref a,.bl true])) D (.lst (ps.map V.ref++[.ref t]))) b=some (.tup ys):=fun b ys e=>by rw[aB (fE e h5 (by intro z;cases z))];exact e
    refine⟨_,h5,by rw[ai];exact few (m:=2000) (by omega),a9.put (a9.trans s4 s5) hD0,ps++[t],by rw[a8,cf];rfl,?_⟩;rw[RM.take_snoc hp];exact b8 (R:=fun p' (q:PI)=>∃a',(upd (upd H4 t (.tup [.ref a,.bl true])) D (.lst (ps.map V.ref++[.ref t]))) p'=some (.tup [.ref a',.bl true])/\(upd (upd H4 t (.tup [.ref a,.bl true])) D (.lst (ps.map V.ref++[.ref t]))) a'=some (.tup [.int q.1,.int q.2]))
     ⟨a,kT _ _ a8,kT _ _ (s5 _ _ ha)⟩ (aK (fun p' q ⟨a',e1,e2⟩=>⟨a',kT _ _ (s5 _ _ e1),kT _ _ (s5 _ _ e2)⟩) pp)
   ·rintro H4 ⟨s4,ps,h4,pp⟩;rw[lx,bg (au _)]at pp;have pk:Paired (fun p (kv:List Key×V)=>∃q,H4 p=some (.tup [.ref q,kv.2])/\H4 q=some (.tup (kv.1.map kV))) ps (kvF k2 (KS (RM.aO hs n))):=by
     clear vp oj lx lL vm lh tu pr hD h4;generalize RM.aO hs n=L at pp;induction pp with
     |nil=>exact .nil
     |cons h _ ih=>exact .cons h ih
    refine⟨D,ps,_,rfl,SqL.of h4,pk,fun ab ub=>?_⟩;rw[EM vm];have s5:a9 H4 (upd H4 ab (.dT (kvF k2 (KS (RM.aO hs n))))):=a9.upd ub;have hA5:D2 (upd H4 ab (.dT (kvF k2 (KS (RM.aO hs n))))) ab (KS (RM.aO hs n)):=a8;have wu:a9 H3 (upd H4 ab (.dT (kvF k2 (KS (RM.aO hs n))))):=a9.trans s4 s5;generalize (upd H4 ab (.dT (kvF k2 (KS (RM.aO hs n)))))=H5 at s5 hA5 wu ⊢;have Cg:=wu _ _ vp;refine⟨_,rfl,la,rfl,⟨_,SqL.of Cg⟩,fun D2' Dc=>m4 (K:=K) (a:=la) (xs:=xs)
     (fun i H6=>a9 H5 H6/\∃ys,H6 D2'=some (.lst ys)/\Paired (T2 H6) ys (((RM.aO hs n).take i).filter fun p=>(RM.cM p).all fun q=>(RM.aO hs n).contains q)) ⟨a9.upd Dc,[],a8,.nil⟩ (fun i H6 _ ⟨s6,_⟩=>s6.seq (SqL.of Cg)) ?_ ?_⟩
    ·rintro i x H6 hx ⟨s6,ys,h6,py⟩;obtain⟨p,hp,tp⟩:=pairs_at oj hx;have tp6:=tp.mono (a9.trans wu s6);have ly:=pairs_len py;have lf:=dk (fun p=>(RM.cM p).all fun q=>(RM.aO hs n).contains q) ((RM.aO hs n).take i);rw[bu]at lf;refine⟨rfl,_,rfl,_,rfl,x,p,ab,RM.aO hs n,rfl,tp6,R2.mono s6 hA5.rd,fun H7 s7=>⟨_,rfl,?_⟩⟩;have h7:=s7 _ _ h6;refine bY (fun c1=>?_) (fun c1=>?_)
     ·refine⟨_,rfl,ys,h7,few (m:=2000) (de (ie ly) (de lf (by omega))),a9.put (a9.trans s6 s7) Dc,ys++[x],a8,?_⟩;rw[RM.take_snoc hp,fk,List.filter_cons_of_pos (by exact c1),List.filter_nil];exact b8 ((tp6.mono s7).upd h7) (aK (fun _ _ z=>(z.mono s7).upd h7) py)
     ·refine⟨a9.trans s6 s7,ys,h7,?_⟩;rw[RM.take_snoc hp,fk,List.filter_cons_of_neg (by exact c1),List.filter_nil,da];exact aK (fun _ _ z=>z.mono s7) py
    ·rintro H6 ⟨s6,ys,h6,py⟩;rw[lx,bg (au _)]at py;have s36:a9 H3 H6:=a9.trans wu s6;refine⟨_,rfl,_,_,rfl,rfl,⟨n+1,D2',_,_,rfl,a9.trans s3 s36,⟨D2',ys,rfl,h6,py⟩,s36 _ _ lh⟩,?_⟩;show 100 - ((n:Int)+1).toNat<100 - ((n:Int)).toNat
     omega
 ·have e:xs=[]:=by
   cases xs with
   |nil=>rfl
   |cons _ _=>exact absurd rfl cq
  subst e;have en:RM.aO hs n=[]:=by
   cases h:RM.aO hs n with
   |nil=>rfl
   |cons _ _=>rw[h]at pr;cases pr
  have n0:0<n:=by apply Nat.pos_of_ne_zero;intro z;subst z;exact hne0 en
  rw[hdep n n0 en]at hD;exact⟨_,rfl,k d0 H2 s2 Ad hD⟩
abbrev s_ho:Stmt:=(top 62)
theorem sc_ho:aL ["point","depths","step"] ["point","depths"] (aH s_ho):=fS
noncomputable def sp_ho(K:W.Frag)(d:Adr):Sp:=fun vs H Q _=>∃(v:V)(p:PI)(dA:Addr)(h:List Nat),vs=[v,.ref dA]/\T2 H v p/\R2 H dA (IV (RM.bT h))/\∀m H',a9 H H'->m∈RM.c7 h p->(∀x∈RM.c7 h p,m<=x)->Q (.int m) H'
theorem ok_ho(F:Fun K "height_over" "height_over" s_ho f fd)(T:Txt K mg base d)(D_m:aP P w K mg base CX0 1 "moved" ["place","step"] (sp_m K d)):bI P w K mg base CX0 2 f fd ["point","depths"] (sp_ho K d):=by
 refine F.ok sc_ho (fun vs H Q E h=>by obtain⟨v,p,dA,h,rfl,_⟩:=h;rfl) (fun _ _ _ _ H _ Q E hr h=>?_);have hu:=bE hr;obtain⟨aHALVES_AT_A_POINT,dQ,c_HALVES_AT_A_POINT⟩:=T.dQ;obtain⟨v,p,dA,h,rfl,hv,hA,k⟩:=h;refine⟨_,(aD (aQ (bM (NH rfl) (by rfl) T.min (by rfl) (a7 (DA (own:=[("step",2)]) rfl sc_ho.nd (iE (eX dQ rfl)) (fQ (by first|decide+kernel|kernel_rfl)) (fun _ _ _ _ _=>(pgN (i:=2) sc_ho.nd)) (fun _ _ _ _ _=>wV) (fun _ _ _ _ _=>(cK eB (HF hu (pv 1) (aS D_m (hm hr) aU rfl (a7 (pv 0) (a7 (pv 2) aC))) (LL G9 aM) ⟨rfl,rfl,rfl,rfl⟩) aM))) aC)))),?_⟩;obtain⟨qs,rj,wx⟩:=c_HALVES_AT_A_POINT;have e4:qs.length=4:=pairs_len wx;refine⟨_,rfl,⟨_,rj _⟩,fun D hD=>MQ (K:=K) (a:=aHALVES_AT_A_POINT) (xs:=qs)
  (fun i H2=>a9 H H2/\H2 D=some (.lst (((RM.c7 h p).take i).map V.int))) ⟨a9.upd hD,a8⟩ (fun i H2 _ _=>rj H2) ?_ ?_⟩
 ·rintro i x H2 hx ⟨s2,h2⟩;obtain⟨z,hz,cz⟩:=pairs_at wx hx;have hat:=RM.LD h p hz;refine⟨rfl,_,rfl,dA,rfl,.inr ⟨_,hA.mono s2⟩,_,rfl,_,rfl,v,x,p,z,rfl,(hv.mono s2).c,cz _,fun n H3 s3 t3=>?_⟩;obtain⟨na,rfl,nh⟩:=t3;have h3:=s3 _ _ h2;have eg:(RM.aN (IV (RM.bT h)) (p.1+z.1,p.2+z.2)).getD (V.int (-1))=V.int (RM.bQ h (p.1+z.1,p.2+z.2)):=by rw[iS,<- RM.IW];cases RM.aN (RM.bT h) (p.1+z.1,p.2+z.2)<;>rfl
  refine⟨_,rfl,_,R2.get (p:=(p.1+z.1,p.2+z.2)) (hA.mono (a9.trans s2 s3)) nh,RM.bQ h (p.1+z.1,p.2+z.2),1,eg,rfl,_,h3,?_,a9.put (a9.trans s2 s3) hD,?_⟩
  ·rw[ai,bu];have:(RM.c7 h p).length=4:=rfl;exact few (m:=10) (by omega)
  ·rw[a8,RM.take_snoc hat];simp
 ·rintro H2 ⟨s2,h2⟩;rw[e4]at h2;have h2:H2 D=some (.lst ((RM.c7 h p).map V.int)):=h2;exact⟨D,RM.c7 h p,rfl,SqL.of h2,by show 0<4;decide,fun m hm ph=>k m H2 s2 hm ph⟩
abbrev s_ho2:Stmt:=(top 63)
theorem sc_ho2:aL ["depths","heights","half","side","point"] ["depths"] (aH s_ho2):=fS
noncomputable def sp_ho2(K:W.Frag)(d:Adr):Sp:=fun vs H Q _=>∃(dA:Addr)(h:List Nat),vs=[.ref dA]/\D2 H dA (IV (RM.bT h))/\(∀r∈h,RM.okR r)/\h.length<=1024/\∀r ht H',a9 H H'->H r=none->D2 H' r (IV ht)->RM.AO h ht->Q (.ref r) H'
theorem ok_ho2(F:Fun K "heights_of" "heights_of" s_ho2 f fd)(T:Txt K mg base d)(D_ss:aP P w K mg base CX0 2 "side_start" ["square","side"] (sp_ss K d))(D_ho:aP P w K mg base CX0 2 "height_over" ["point","depths"] (sp_ho K d)):bI P w K mg base CX0 3 f fd ["depths"] (sp_ho2 K d):=by
 refine F.ok sc_ho2 (fun vs H Q E h=>by obtain⟨dA,h,rfl,_⟩:=h;rfl) (fun _ _ _ _ H _ Q E hr h=>?_);have hu:=bE hr;obtain⟨aALL_SIDES,aZ,c_ALL_SIDES⟩:=T.aZ;obtain⟨dA,h,rfl,hA,hok,hl,k⟩:=h;refine⟨_,(aA (psN (i:=1) sc_ho2.nd d9)
   (aA (jF (bO PassesOwn.never rfl (lU (pv 0)) (pgN (i:=2) sc_ho2.nd) (aD (bO PassesOwn.never rfl (iE (eX aZ rfl)) (pgN (i:=3) sc_ho2.nd) (aA (psN (i:=4) sc_ho2.nd (aS D_ss (hm hr) aU rfl (a7 (pv 2) (a7 (pv 3) aC))))
   (aD (cD (dO (cG hu (pv 4) (pv 1))) (aD (eV hu (pv 1) (pv 4) (aS D_ho (hm hr) aU rfl (a7 (pv 4) (a7 (pv 0) aC))) rfl)) bB)))))))
   (aD (aQ (pv 1))))),?_⟩
 refine fun f hf=>?_
 have nc:dA≠f:=aJ hA hf;have kc:∀od,(upd H dA (.frz od (.dT (kvF k2 (IV (RM.bT h)))))) f=none:=fun od=>fH hA hf
 have Di:(IV (RM.bT h)).map (·.1)=h.map RM.hP:=by rw[y6];unfold RM.bT;rw[RM.kO]
 refine⟨dA,.dT (kvF k2 (IV (RM.bT h))),by rw[aB nc];exact hA,trivial,fun od=>⟨_,rfl,dA,od,rfl,.inr ⟨_,a8,kX (d:=dA) (od:=od) (kvs:=kvF k2 (IV (RM.bT h)))
  (fun i σ H2=>∃(ht:List (PI×Int))(v2 v3 v4:Option V),σ=[some (.ref dA),some (.ref f),v2,v3,v4]/\a9 (upd H dA (.frz od (.dT (kvF k2 (IV (RM.bT h)))))) H2/\D2 H2 f (IV ht)/\RM.gB h ht i 0)
  ⟨[],none,none,none,rfl,a9.both (a9.upd hf),by unfold D2;rw[aB nc.symm,a8];rfl,RM.gB.start h⟩ (fun i σ H2 ⟨_,_,_,_,_,s2,_⟩=>s2 _ _ a8) ?_ ?_⟩⟩⟩
 ·rintro i kk vv q σ H2 hi hq ⟨ht,v2,v3,v4,rfl,s2,hD,pre⟩;obtain⟨p,hp,rfl⟩:=pT hi;have hp2:(h.map RM.hP)[i]? =some p:=by have:=congrArg (Option.map Prod.fst) hp;rw[<- bf,Di]at this;exact this
  obtain⟨r,hr,rfl⟩:∃r,h[i]? =some r/\p=RM.hP r:=by
   rw[bf]at hp2;cases e:h[i]? with
   |none=>rw[e]at hp2;cases hp2
   |some r=>rw[e]at hp2;exact⟨r,rfl,(Option.some.inj hp2).symm⟩
  have ql:=tO hr;refine⟨_,rfl,⟨_,c_ALL_SIDES _⟩,gF (K:=K) (a:=aALL_SIDES) (xs:=[.int 0,.int 1,.int 2,.int 3]) (fun j σ H3=>∃(ht:List (PI×Int))(v3 v4:Option V),σ=[some (.ref dA),some (.ref f),some (.ref q),v3,v4]/\a9 (upd H dA (.frz od (.dT (kvF k2 (IV (RM.bT h)))))) H3/\T2 H3 (.ref q) (RM.hP r)/\D2 H3 f (IV ht)/\RM.gB h ht i j)
   ⟨ht,v3,v4,rfl,s2,⟨q,rfl,hq⟩,hD,pre⟩ (fun i σ H2 _ _=>c_ALL_SIDES H2) ?_ ?_⟩
  ·rintro j x σ H3 hx ⟨ht,v3,v4,rfl,s3,tq,hD,pre⟩;obtain⟨hj,rfl⟩:=lR hx;refine⟨_,rfl,_,rfl,.ref q,RM.hP r,j,rfl,tq.c,hj,fun n H4 s4 t4=>?_⟩;obtain⟨na,rfl,nh⟩:=t4;have ka:D2 H4 f (IV ht):=s4 _ _ hD;refine⟨_,rfl,_,rfl,f,_,rfl,R2.get (p:=RM.aF (RM.hP r) j) ka.rd nh,_,rfl,?_⟩;rw[JE];refine bY (fun c1=>?_) (fun c1=>?_)
   ·refine⟨_,rfl,_,rfl,.ref na,RM.aF (RM.hP r) j,dA,h,rfl,⟨na,rfl,nh⟩,.inr ⟨od,(a9.trans s3 s4) _ _ a8⟩,fun m H5 s5 hm ph=>?_⟩;have em:=RM.DP hok (ay hr) hm ph;subst em;have kh:D2 H5 f (IV ht):=s5 _ _ ka;have lp:=pre.len;refine⟨_,rfl,_,rfl,f,_,rfl,D2.put kh (s5 _ _ nh) _ (by rw[fZ];exact few (m:=5000) (by omega)),_,_,_,rfl,a9.put (a9.trans s3 (a9.trans s4 s5)) (kc od),T2.pA (tq.mono (a9.trans s4 s5)) kh (by intro _ z;cases z),?_,pre.put hr⟩;unfold D2;rw[a8,u7]
   ·have c1:(RM.aN ht (RM.aF (RM.hP r) j)).isSome=true:=by
     cases e:(RM.aN ht (RM.aF (RM.hP r) j)).isSome with
     |true=>rfl
     |false=>rw[e]at c1;exact absurd rfl c1
    exact⟨ht,_,_,rfl,a9.trans s3 s4,tq.mono s4,ka,pre.keep hr c1⟩
  ·rintro σ H3 ⟨ht,v3,v4,rfl,s3,tq,hD,pre⟩;exact⟨ht,_,_,_,rfl,s3,hD,pre.next⟩
 ·rintro σ H2 ⟨ht,v2,v3,v4,rfl,s2,hD,pre⟩;have el:(kvF k2 (IV (RM.bT h))).length=h.length:=by rw[f6,fZ];unfold RM.bT;rw[ai,ai]
  rw[el]at pre;exact⟨s2 _ _ a8,_,rfl,k f ht _ (a9.unlock hA s2) hf (by unfold D2;rw[aB nc.symm];exact hD) pre.done⟩
abbrev s_fo2:Stmt:=(top 66)
theorem sc_fo2:aL ["half","side","depth","heights","start_is_low","end_is_low"] ["half","side","depth","heights"] (aH s_fo2):=fS
noncomputable def sp_fo2(K:W.Frag)(d:Adr):Sp:=fun vs H Q _=>∃(v:V)(r s0:Nat)(h:List Nat)(hA:Addr)(ht:List (PI×Int)),vs=[v,.int (s0:Nat),.int (RM.bQ h (RM.hP r)),.ref hA]/\T2 H v (RM.hP r)/\s0<4/\r∈h/\R2 H hA (IV ht)/\RM.AO h ht/\∀H',a9 H H'->Q (.int (RM.xR h ((RM.hP r).1,(RM.hP r).2,(s0:Int)))) H'
theorem ok_fo2(F:Fun K "facing_of" "facing_of" s_fo2 f fd)(T:Txt K mg base d)(D_ss:aP P w K mg base CX0 2 "side_start" ["square","side"] (sp_ss K d))(D_se:aP P w K mg base CX0 3 "side_end" ["square","side"] (sp_se K d))(D_lo:aP P w K mg base CX0 1 "left_of" ["direction"] (sp_lo K d))(D_ro:aP P w K mg base CX0 1 "right_of" ["direction"] (sp_ro K d))(D_o:aP P w K mg base CX0 1 "opposite" ["direction"] (sp_o K d)):bI P w K mg base CX0 4 f fd ["half","side","depth","heights"] (sp_fo2 K d):=by
 refine F.ok sc_fo2 (fun vs H Q E h=>by obtain⟨v,r,s0,h,hA,ht,rfl,_⟩:=h;rfl) (fun _ _ _ _ H _ Q E hr h=>?_);have hu:=bE hr;obtain⟨v,r,s0,h,hA,ht,rfl,hv,hs,hrm,hT,ok,k⟩:=h;have g1:=ok.all r hrm s0 hs;have ec:RM.aF (RM.hP r) ((s0+1)%4)=RM.aF (RM.hP r) (s0+1):=by unfold RM.aF;rw[mod_mod]
 have g2:RM.aN ht (RM.aF (RM.hP r) (s0+1))=some (RM.hgt h (RM.aF (RM.hP r) (s0+1))):=by rw[<- ec];exact ok.all r hrm ((s0+1)%4) (by omega)
 have ef:RM.xR h ((RM.hP r).1,(RM.hP r).2,(s0:Int))=RM.IS s0 (RM.hgt h (RM.aF (RM.hP r) s0)) (RM.hgt h (RM.aF (RM.hP r) (s0+1))) (RM.bQ h (RM.hP r)):=by unfold RM.xR;simp
 rw[ef]at k;generalize RM.hgt h (RM.aF (RM.hP r) s0)=u at*;generalize RM.hgt h (RM.aF (RM.hP r) (s0+1))=w at*;generalize RM.bQ h (RM.hP r)=dd at*;refine⟨_,(aA (psN (i:=4) sc_fo2.nd (wY jV (lV hu (pv 3) (aS D_ss (hm hr) aU rfl (a7 (pv 0) (a7 (pv 1) aC))) (fun _ _=>rfl)) (pv 2) (c8 _)))
   (aA (psN (i:=5) sc_fo2.nd (wY jV (lV hu (pv 3) (aS D_se (hm hr) aU rfl (a7 (pv 0) (a7 (pv 1) aC))) (fun _ _=>rfl)) (pv 2) (c8 _)))
   (aA (cD (PW.pt (kJ (iD (pv 4) (fun _=>rfl)) (lT (iD (pv 5) (fun _=>rfl))))) (aD (aQ (pv 1))) bB)
   (aA (cD (iD (pv 5) (fun _=>rfl)) (aD (aQ (aS D_lo (hm hr) aU rfl (a7 (pv 1) aC)))) bB)
   (aA (cD (iD (pv 4) (fun _=>rfl)) (aD (aQ (aS D_ro (hm hr) aU rfl (a7 (pv 1) aC)))) bB)
   (aD (aQ (aS D_o (hm hr) aU rfl (a7 (pv 1) aC))))))))),?_⟩
 refine⟨_,rfl,_,rfl,_,rfl,v,RM.hP r,s0,rfl,hv.c,hs,fun n H1 s1 t1=>?_⟩;obtain⟨na,rfl,nh⟩:=t1;have d1:lP H1 hA (.ref na) (some (.int u)):=by have:=(hT.mono s1).get (p:=RM.aF (RM.hP r) s0) nh;rw[iS,g1]at this;exact this
 refine⟨hA,_,rfl,d1,_,rfl,rfl,?_⟩;refine⟨_,rfl,_,rfl,_,rfl,v,RM.hP r,s0,rfl,(hv.mono s1).c,hs,fun n H2 s2 t2=>?_⟩;obtain⟨ma,rfl,hma⟩:=t2;have d2:lP H2 hA (.ref ma) (some (.int w)):=by have:=(hT.mono (a9.trans s1 s2)).get (p:=RM.aF (RM.hP r) (s0+1)) hma;rw[iS,g2]at this;exact this
 refine⟨hA,_,rfl,d2,_,rfl,rfl,?_⟩;have k:=k H2 (a9.trans s1 s2);unfold RM.IS at k;have du:decide (V.int u=V.int dd)=true↔u=dd:=by rw[decide_eq_true_iff];exact⟨V.int.inj,fun z=>by rw[z]⟩
 have dw:decide (V.int w=V.int dd)=true↔w=dd:=by rw[decide_eq_true_iff];exact⟨V.int.inj,fun z=>by rw[z]⟩
 by_cases cu:u=dd
 ·by_cases cw:w=dd
  ·rw[ah ⟨cu,cw⟩]at k;rw[du.mpr cu,dw.mpr cw];exact⟨_,rfl,_,rfl,_,rfl,_,rfl,_,rfl,k⟩
  ·rw[af (fun z=>cw z.2),af cw,ah cu]at k;have e2:decide (V.int w=V.int dd)=false:=by rw[jb];exact fun z=>cw (dw.mp z)
   rw[du.mpr cu,e2];exact⟨_,rfl,_,rfl,_,rfl,_,rfl,_,rfl,_,rfl,_,rfl,_,rfl,_,rfl,_,rfl,k⟩
 ·by_cases cw:w=dd
  ·rw[af (fun z=>cu z.1),ah cw]at k;have e1:decide (V.int u=V.int dd)=false:=by rw[jb];exact fun z=>cu (du.mp z)
   rw[e1,dw.mpr cw];exact⟨_,rfl,_,rfl,_,rfl,_,rfl,_,rfl,_,rfl,k⟩
  ·rw[af (fun z=>cu z.1),af cw,af cu]at k;have e1:decide (V.int u=V.int dd)=false:=by rw[jb];exact fun z=>cu (du.mp z)
   have e2:decide (V.int w=V.int dd)=false:=by rw[jb];exact fun z=>cw (dw.mp z)
   rw[e1,e2];exact⟨_,rfl,_,rfl,_,rfl,_,rfl,_,rfl,_,rfl,_,rfl,_,rfl,k⟩
abbrev s_fo3:Stmt:=(top 67)
theorem sc_fo3:aL ["depths","heights","facings","half","depth","side"] ["depths","heights"] (aH s_fo3):=fS
theorem L5{h:List Nat}{i:Nat}{p:PI}{v:V}(hp:(IV (RM.bT h))[i]? =some (p,v)):∃r,h[i]? =some r/\p=RM.hP r/\v=.int (RM.bQ h (RM.hP r)):=by
 unfold IV RM.bT at hp;rw[bf,bf,bf]at hp;cases e:h[i]? with
 |none=>rw[e]at hp;cases hp
 |some r=>rw[e]at hp;cases hp;exact⟨r,rfl,rfl,rfl⟩
noncomputable def sp_fo3(K:W.Frag)(d:Adr):Sp:=fun vs H Q _=>∃(dA hA:Addr)(h:List Nat)(ht:List (PI×Int)),vs=[.ref dA,.ref hA]/\D2 H dA (IV (RM.bT h))/\D2 H hA (IV ht)/\dA≠hA/\RM.AO h ht/\(h.map RM.hP).Nodup/\h.length<=1024/\∀r H',a9 H H'->H r=none->D3 H' r (IV (RM.dZ h))->Q (.ref r) H'
theorem ok_fo3(F:Fun K "facings_of" "facings_of" s_fo3 f fd)(T:Txt K mg base d)(D_fo2:aP P w K mg base CX0 4 "facing_of" ["half","side","depth","heights"] (sp_fo2 K d)):bI P w K mg base CX0 5 f fd ["depths","heights"] (sp_fo3 K d):=by
 refine F.ok sc_fo3 (fun vs H Q E h=>by obtain⟨dA,hA,h,ht,rfl,_⟩:=h;rfl) (fun _ _ _ _ H _ Q E hr h=>?_);have hu:=bE hr;obtain⟨aALL_SIDES,aZ,c_ALL_SIDES⟩:=T.aZ;obtain⟨dA,hA,h,ht,rfl,hD,hT,nAT,ok,qj,hl,k⟩:=h;refine⟨_,(aA (psN (i:=2) sc_fo3.nd d9)
   (aA (jF (bO PassesOwn.never rfl (vG (pv 0)) (kM rfl (bL (pgN (i:=3) sc_fo3.nd) (bL (pgN (i:=4) sc_fo3.nd) hJ))) (aD (bO PassesOwn.never rfl (iE (eX aZ rfl)) (pgN (i:=5) sc_fo3.nd) (aD (eV hu (pv 2) (cJ (a7 (bK bG (pv 3) aM (fun _ _=>rfl)) (a7 (bK bG (pv 3) aM (fun _ _=>rfl)) (a7 (pv 5) aC)))) (aS D_fo2 (hm hr) aU rfl (a7 (pv 3) (a7 (pv 5) (a7 (pv 4) (a7 (pv 1) aC))))) rfl))))))
   (aD (aQ (pv 2))))),?_⟩
 refine fun f hf=>?_
 have nc:dA≠f:=aJ hD hf;have kc:∀od,(upd H dA (.frz od (.dT (kvF k2 (IV (RM.bT h)))))) f=none:=fun od=>fH hD hf
 have Bh:∀od,D2 (upd H dA (.frz od (.dT (kvF k2 (IV (RM.bT h)))))) hA (IV ht):=fun od=>by unfold D2;rw[aB nAT.symm];exact hT
 refine⟨dA,.dT (kvF k2 (IV (RM.bT h))),by rw[aB nc];exact hD,trivial,fun od=>⟨_,rfl,dA,od,_,rfl,a8,vX (d:=dA) (od:=od) (kvs:=kvF k2 (IV (RM.bT h)))
  (fun i σ H2=>∃(v3 v4 v5:Option V),σ=[some (.ref dA),some (.ref hA),some (.ref f),v3,v4,v5]/\a9 (upd H dA (.frz od (.dT (kvF k2 (IV (RM.bT h)))))) H2/\D3 H2 f (IV ((RM.gP ((h.map RM.hP).take i)).map fun t=>(t,RM.xR h t))))
  ⟨none,none,none,rfl,a9.both (a9.upd hf),by unfold D3;rw[aB nc.symm,a8];rfl⟩ (fun i σ H2 ⟨_,_,_,_,s2,_⟩=>s2 _ _ a8) ?_ ?_⟩⟩
 ·rintro i kk vv q T2' σ H2 hi hq xp ⟨v3,v4,v5,rfl,s2,hF⟩;obtain⟨p,hp,rfl⟩:=pT hi;obtain⟨r,hr',rfl,rfl⟩:=L5 hp;have hp2:(h.map RM.hP)[i]? =some (RM.hP r):=by rw[bf,hr'];rfl
  have ql:=tO hr';have s3:a9 H2 (upd H2 T2' (.tup [.ref q,.int (RM.bQ h (RM.hP r))])):=a9.upd xp;refine⟨T2',_,rfl,SqT.of a8,rfl,_,_,rfl,_,_,rfl,rfl,?_⟩;have hF3:D3 (upd H2 T2' (.tup [.ref q,.int (RM.bQ h (RM.hP r))])) f _:=s3 _ _ hF;have Br:=s3 _ _ hq;have yf:=a9.trans s2 s3;generalize (upd H2 T2' (.tup [.ref q,.int (RM.bQ h (RM.hP r))]))=H3 at s3 hF3 Br yf ⊢;refine⟨_,rfl,⟨_,c_ALL_SIDES _⟩,gF (K:=K) (a:=aALL_SIDES) (xs:=[.int 0,.int 1,.int 2,.int 3]) (fun j σ H4=>∃(v5:Option V),σ=[some (.ref dA),some (.ref hA),some (.ref f),some (.ref q),some (.int (RM.bQ h (RM.hP r))),v5]/\a9 (upd H dA (.frz od (.dT (kvF k2 (IV (RM.bT h)))))) H4/\T2 H4 (.ref q) (RM.hP r)/\D3 H4 f (IV ((RM.gP ((h.map RM.hP).take i)++(RM.wL (RM.hP r)).take j).map fun t=>(t,RM.xR h t))))
   ⟨v5,rfl,yf,⟨q,rfl,Br⟩,by rw[take_zero,da];exact hF3⟩ (fun i σ H2 _ _=>c_ALL_SIDES H2) ?_ ?_⟩
  ·rintro j x σ H4 hx ⟨v5,rfl,s4,tq,hF⟩;obtain⟨hj,rfl⟩:=lR hx;refine⟨_,rfl,_,rfl,_,rfl,_,rfl,.ref q,r,j,h,hA,ht,rfl,tq,hj,ay hr',R2.mono s4 (Bh od).rd,ok,fun H5 s5=>?_⟩;obtain⟨_,e,hq5⟩:=tq.mono s5;cases e;refine⟨_,rfl,_,rfl,q,_,_,_,rfl,rfl,SqT.of hq5,aX (by decide) rfl,_,rfl,q,_,_,_,rfl,rfl,SqT.of hq5,aX (by decide) rfl,_,rfl,(by show 3<=sizeLine;decide),fun t su=>?_⟩;have s6:a9 H5 (upd H5 t (.tup [.int (RM.hP r).1,.int (RM.hP r).2,.int (j:Int)])):=a9.upd su;have Cz:D3 (upd H5 t (.tup [.int (RM.hP r).1,.int (RM.hP r).2,.int (j:Int)])) f (IV ((RM.gP ((h.map RM.hP).take i)++(RM.wL (RM.hP r)).take j).map fun t=>(t,RM.xR h t))):=s6 _ _ (s5 _ _ hF);refine⟨f,_,rfl,D3.put (p:=((RM.hP r).1,(RM.hP r).2,(j:Int))) Cz a8 _ ?_,_,rfl,a9.put (a9.trans s4 (a9.trans s5 s6)) (kc od),T2.pA (tq.mono (a9.trans s5 s6)) Cz (by intro _ z;cases z),?_⟩
   ·rw[fZ,ai,aj,bu];have h1:=RM.EF (h.map RM.hP) i;rw[ai]at h1;have h2:(RM.wL (RM.hP r)).length=4:=rfl;exact few (m:=5000) (by omega)
   ·unfold D3;rw[a8,u7,RM.fR,RM.EH (RM.hP r) hj]
    ·simp
    ·rw[RM.kO];exact RM.EG qj hp2 hj
  ·rintro σ H4 ⟨v5,rfl,s4,tq,hF⟩;refine⟨_,_,_,rfl,s4,?_⟩;rw[RM.AY hp2];exact hF
 ·rintro σ H2 ⟨v3,v4,v5,rfl,s2,hF⟩;have el:(kvF k2 (IV (RM.bT h))).length=(h.map RM.hP).length:=by rw[f6,fZ];unfold RM.bT;rw[ai]
  rw[el,bg (au _)]at hF;exact⟨s2 _ _ a8,_,rfl,k f _ (a9.unlock hD s2) hf (by unfold D3;rw[aB nc.symm];exact hF)⟩
abbrev s_ta:Stmt:=(top 68)
theorem sc_ta:aL ["triangle","across","i","j","side"] ["triangle"] (aH s_ta):=fS
noncomputable def sp_ta(K:W.Frag)(d:Adr):Sp:=fun vs H Q _=>∃(v:V)(t:PI3),vs=[v]/\T3 H v t/\0<=t.2.2/\t.2.2<4/\∀r H',a9 H H'->T3 H' r ((RM.aI (t.1,t.2.1) t.2.2.toNat).1,(RM.aI (t.1,t.2.1) t.2.2.toNat).2,(t.2.2+2)%4)->Q r H'
theorem ok_ta(F:Fun K "triangle_across" "triangle_across" s_ta f fd)(T:Txt K mg base d)(D_b:aP P w K mg base CX0 2 "beyond" ["place","direction"] (sp_b K d))(D_o:aP P w K mg base CX0 1 "opposite" ["direction"] (sp_o K d)):bI P w K mg base CX0 3 f fd ["triangle"] (sp_ta K d):=by
 refine F.ok sc_ta (fun vs H Q E h=>by obtain⟨v,t,rfl,_⟩:=h;rfl) (fun _ _ _ _ H _ Q E hr h=>?_);have hu:=bE hr;obtain⟨v,t,rfl,⟨a,rfl,ha⟩,h0,h4,k⟩:=h;refine⟨_,(aA (B7 (pv 0) (kM rfl (bL (pgN (i:=2) sc_ta.nd) (bL (pgN (i:=3) sc_ta.nd) (bL (pgN (i:=4) sc_ta.nd) hJ)))))
   (aA (psN (i:=1) sc_ta.nd (aS D_b (hm hr) aU rfl (a7 (cJ (a7 (pv 2) (a7 (pv 3) aC))) (a7 (pv 4) aC))))
   (aD (aQ (cJ (a7 (bK bG (pv 1) aM (fun _ _=>rfl)) (a7 (bK bG (pv 1) aM (fun _ _=>rfl)) (a7 (aS D_o (hm hr) aU rfl (a7 (pv 4) aC)) aC)))))))),?_⟩
 refine⟨_,rfl,a,_,rfl,SqT.of ha,rfl,_,_,rfl,_,_,rfl,_,_,rfl,rfl,?_⟩;refine⟨_,rfl,_,rfl,(by show 2<=sizeLine;decide),fun b hb=>?_⟩;have s1:a9 H (upd H b (.tup [.int t.1,.int t.2.1])):=a9.upd hb;refine⟨_,rfl,.ref b,(t.1,t.2.1),t.2.2.toNat,congrArg (fun z=>[V.ref b,V.int z]) (gi h0).symm,T2.c ⟨b,rfl,a8⟩,by omega,fun n H2 s2 t2=>?_⟩;obtain⟨na,rfl,nh⟩:=t2;refine⟨_,rfl,na,_,_,_,rfl,rfl,SqT.of nh,aX (by decide) rfl,_,rfl,na,_,_,_,rfl,rfl,SqT.of nh,aX (by decide) rfl,_,rfl,_,rfl,(by show 3<=sizeLine;decide),fun c hc=>?_⟩;exact k _ _ (a9.trans s1 (a9.trans s2 (a9.upd hc))) ⟨c,rfl,a8⟩
abbrev s_tol:Stmt:=(top 69)
theorem sc_tol:aL ["triangle","i","j","side"] ["triangle"] (aH s_tol):=fS
noncomputable def sp_tol(K:W.Frag)(d:Adr):Sp:=fun vs H Q _=>∃(v:V)(t:PI3),vs=[v]/\T3 H v t/\∀r H',a9 H H'->T3 H' r (t.1,t.2.1,(t.2.2+1)%4)->Q r H'
theorem ok_tol(F:Fun K "triangle_on_left" "triangle_on_left" s_tol f fd)(T:Txt K mg base d)(D_lo:aP P w K mg base CX0 1 "left_of" ["direction"] (sp_lo K d)):bI P w K mg base CX0 2 f fd ["triangle"] (sp_tol K d):=by
 refine F.ok sc_tol (fun vs H Q E h=>by obtain⟨v,t,rfl,_⟩:=h;rfl) (fun _ _ _ _ H _ Q E hr h=>?_);have hu:=bE hr;obtain⟨v,t,rfl,⟨a,rfl,ha⟩,k⟩:=h;refine⟨_,(aA (B7 (pv 0) (kM rfl (bL (pgN (i:=1) sc_tol.nd) (bL (pgN (i:=2) sc_tol.nd) (bL (pgN (i:=3) sc_tol.nd) hJ)))))
   (aD (aQ (cJ (a7 (pv 1) (a7 (pv 2) (a7 (aS D_lo (hm hr) aU rfl (a7 (pv 3) aC)) aC))))))),?_⟩
 refine⟨_,rfl,a,_,rfl,SqT.of ha,rfl,_,_,rfl,_,_,rfl,_,_,rfl,rfl,?_⟩;refine⟨_,rfl,_,rfl,_,rfl,_,rfl,(by show 3<=sizeLine;decide),fun c hc=>?_⟩;exact k _ _ (a9.upd hc) ⟨c,rfl,a8⟩
abbrev s_tor:Stmt:=(top 70)
theorem sc_tor:aL ["triangle","i","j","side"] ["triangle"] (aH s_tor):=fS
noncomputable def sp_tor(K:W.Frag)(d:Adr):Sp:=fun vs H Q _=>∃(v:V)(t:PI3),vs=[v]/\T3 H v t/\∀r H',a9 H H'->T3 H' r (t.1,t.2.1,(t.2.2+3)%4)->Q r H'
theorem ok_tor(F:Fun K "triangle_on_right" "triangle_on_right" s_tor f fd)(T:Txt K mg base d)(D_ro:aP P w K mg base CX0 1 "right_of" ["direction"] (sp_ro K d)):bI P w K mg base CX0 2 f fd ["triangle"] (sp_tor K d):=by
 refine F.ok sc_tor (fun vs H Q E h=>by obtain⟨v,t,rfl,_⟩:=h;rfl) (fun _ _ _ _ H _ Q E hr h=>?_);have hu:=bE hr;obtain⟨v,t,rfl,⟨a,rfl,ha⟩,k⟩:=h;refine⟨_,(aA (B7 (pv 0) (kM rfl (bL (pgN (i:=1) sc_tor.nd) (bL (pgN (i:=2) sc_tor.nd) (bL (pgN (i:=3) sc_tor.nd) hJ)))))
   (aD (aQ (cJ (a7 (pv 1) (a7 (pv 2) (a7 (aS D_ro (hm hr) aU rfl (a7 (pv 3) aC)) aC))))))),?_⟩
 refine⟨_,rfl,a,_,rfl,SqT.of ha,rfl,_,_,rfl,_,_,rfl,_,_,rfl,rfl,?_⟩;refine⟨_,rfl,_,rfl,_,rfl,_,rfl,(by show 3<=sizeLine;decide),fun c hc=>?_⟩;exact k _ _ (a9.upd hc) ⟨c,rfl,a8⟩
abbrev s_nf:Stmt:=(top 71)
theorem sc_nf:aL ["first","number","facings","numbers","facing","waiting","triangle"] ["first","number","facings","numbers"] (aH s_nf):=fS
noncomputable def sp_nf(K:W.Frag)(d:Adr):Sp:=fun vs H Q _=>∃(v:V)(n:Int)(fA nA:Addr)(fac jv:List (PI3×Int))(t0:PI3),vs=[v,.int n,.ref fA,.ref nA]/\T3 H v t0/\R3 H fA (IV fac)/\D3 H nA (IV jv)/\fA≠nA/\(∀t z,RM.aN fac t=some z->0<=t.2.2/\t.2.2<4)/\(RM.aN fac t0).isSome=true/\RM.aN jv t0=none/\fac.length<=4096/\(jv.map (·.1)).Nodup/\(∀t∈jv.map (·.1),t∈fac.map (·.1))/\∀(N:List PI3)(H':Hp),But nA H H'->D3 H' nA (IV (jv++N.map fun p=>(p,n)))->N.Nodup->(∀p,p∈N↔RM.Rch (RM.okT (RM.aN fac) t0) RM.nbP (RM.isN (RM.aN jv)) t0 p)->Q .non H'
theorem ok_nf(F:Fun K "number_face" "number_face" s_nf f fd)(T:Txt K mg base d)(D_tol:aP P w K mg base CX0 2 "triangle_on_left" ["triangle"] (sp_tol K d))(D_tor:aP P w K mg base CX0 2 "triangle_on_right" ["triangle"] (sp_tor K d))(D_ta:aP P w K mg base CX0 3 "triangle_across" ["triangle"] (sp_ta K d)):bI P w K mg base CX0 4 f fd ["first","number","facings","numbers"] (sp_nf K d):=by
 refine F.ok sc_nf (fun vs H Q E h=>by obtain⟨v,n,fA,nA,fac,jv,t0,rfl,_⟩:=h;rfl) (fun _ _ _ _ H _ Q E hr h=>?_);have hu:=bE hr;obtain⟨v,n,fA,nA,fac,jv,t0,rfl,⟨a0,rfl,ha0⟩,hF,hN,nFN,Bp,h0s,h0n,jt,nnd,nsub,k⟩:=h;obtain⟨fz,hfz⟩:∃fz,RM.aN fac t0=some fz:=by
  cases e:RM.aN fac t0 with
  |none=>rw[e]at h0s;cases h0s
  |some z=>exact⟨z,rfl⟩
 have hFb:∀H',But nA H H'->R3 H' fA (IV fac):=fun H' e=>by
  rcases hF with h|⟨o,h⟩
  ·exact .inl (e _ _ nFN h)
  ·exact .inr ⟨o,e _ _ nFN h⟩
 have d0:lP H fA (.ref a0) (some (.int fz)):=by have:=hF.get (p:=t0) ha0;rw[iS,hfz]at this;exact this
 refine⟨_,(aA (psN (i:=4) sc_nf.nd (lV hu (pv 2) (pv 0) (fun _ _=>rfl)))
   (aA (psN (i:=5) sc_nf.nd (fF (a7 (pv 0) aC)))
   (aD (nK PassesOwn.never (sS (pv 5) (fun _=>rfl)) (aA (psN (i:=6) sc_nf.nd (B8 PySem.F.plainAttrs_list PySem.F.slot_list_pop PySem.F.type_list_pop BK (pv 5)))
   (aD (cD (PW.pt (kJ (bU jV (HG hu (pv 2) (pv 6) ⟨rfl,rfl,rfl,rfl⟩) (pv 4) (c8 _)) (lT (dO (cG hu (pv 6) (pv 3)))))) (aA (eV hu (pv 3) (pv 6) (pv 1) rfl)
   (aA (cW (hO PySem.F.plainAttrs_list PySem.F.slot_list_append PySem.F.type_list_append cH (pv 5) (a7 (aS D_tol (hm hr) aU rfl (a7 (pv 6) aC)) aC)))
   (aA (cW (hO PySem.F.plainAttrs_list PySem.F.slot_list_append PySem.F.type_list_append cH (pv 5) (a7 (aS D_tor (hm hr) aU rfl (a7 (pv 6) aC)) aC)))
   (aD (cW (hO PySem.F.plainAttrs_list PySem.F.slot_list_append PySem.F.type_list_append cH (pv 5) (a7 (aS D_ta (hm hr) aU rfl (a7 (pv 6) aC)) aC))))))) bB))))))),?_⟩
 refine⟨_,rfl,_,rfl,fA,_,rfl,d0,_,rfl,(by show 1<=sizeLine;decide),fun w hw=>?_⟩;have Ba:w≠nA:=(aJ hN hw).symm;have s1:a9 H (upd H w (.lst [.ref a0])):=a9.upd hw;dsimp only[jZ,GF,B0,tC];refine n8 (fun σ H2=>∃(xs:List V)(ws N:List PI3)(v6:Option V),σ=[some (.ref a0),some (.int n),some (.ref fA),some (.ref nA),some (.int fz),some (.ref w),v6]/\But nA H H2/\H2 w=some (.lst xs)/\Paired (T3 H2) xs ws/\D3 H2 nA (IV (jv++N.map fun p=>(p,n)))/\RM.gI (RM.okT (RM.aN fac) t0) RM.nbP (RM.isN (RM.aN jv)) t0 N ws/\N.Nodup/\(∀p∈N,(RM.aN fac p).isSome=true/\RM.aN jv p=none)/\xs.length<=1+3*N.length)
  (fun _ H2=>uI H2 w+4*(10000 - mC H2 nA))
  ⟨[.ref a0],[t0],[],none,rfl,a9.but s1,a8,.cons ⟨a0,rfl,s1 _ _ ha0⟩ .nil,by rw[iy,da];exact s1 _ _ hN,RM.gI.first,nodup_nil,fun p hp=>(by cases hp),by simp⟩ ?_ (fun _ _ _ _ f ⟨v,e,k,t,q⟩=>⟨v,e,k,t,f _ _ q⟩)
 rintro σ H2 ⟨xs,ws,N,v6,rfl,b2,h2,pr,hD,sr,Nnd,Nin,lxs⟩;have xb:(jv++N.map fun p=>(p,n)).map (·.1)=jv.map (·.1)++N:=by rw[cf];congr 1;rw[fh];exact map_id N
 have tot:jv.length+N.length<=4096:=by
  have hnd2:(jv.map (·.1)++N).Nodup:=by rw[cn];exact⟨nnd,Nnd,fun a ha b hb e=>RM.m9.mp (Nin b hb).2 (e▸ha)⟩
  have:=RM.bX hnd2 (b:=fac.map (·.1)) fun p hp=>by
   rcases aw.mp hp with hp|hp
   ·exact nsub p hp
   ·exact(RM.aV p fac).mp (Nin p hp).1
  rw[aj,ai,ai]at this;omega
 refine⟨_,rfl,_,.inl ⟨_,SqL.of h2,rfl⟩,?_⟩;refine bY (fun cq=>?_) (fun cq=>?_)
 ·have jn:xs≠[]:=by intro z;rw[z]at cq;cases cq
  have hpos:0<xs.length:=fy.mpr jn;obtain⟨y,hy⟩:∃y,xs[xs.length - 1]? =some y:=⟨_,bx (by omega)⟩
  obtain⟨q,hq,ty⟩:=pairs_at pr hy;have ews:=KD (pairs_len pr).symm hq;refine⟨_,rfl,.inl ⟨rfl,_,SqL.of h2⟩,w,xs,y,rfl,rfl,h2,hy,?_⟩;have b4:But nA H (upd H2 w (.lst xs.dropLast)):=b2.put hw;have vc:Paired (T3 (upd H2 w (.lst xs.dropLast))) xs.dropLast ws.dropLast:=aK (fun _ _ z=>z.upd h2) (eY pr);have ka:D3 (upd H2 w (.lst xs.dropLast)) nA (IV (jv++N.map fun p=>(p,n))):=by unfold D3;rw[aB Ba.symm];exact hD
  have Ap:T3 (upd H2 w (.lst xs.dropLast)) y q:=ty.upd h2;have h4:(upd H2 w (.lst xs.dropLast)) w=some (.lst xs.dropLast):=a8;have ml:uI H2 w=xs.length:=lZ h2;have mt:mC H2 nA=jv.length+N.length:=by rw[HY hD,fZ,aj,ai]
  generalize (upd H2 w (.lst xs.dropLast))=H4 at b4 vc ka Ap h4 ⊢;rw[ews]at sr;obtain⟨ya,rfl,vh⟩:=Ap;have ld:xs.dropLast.length=xs.length - 1:=gj ..;have less:uI H4 w+4*(10000 - mC H4 nA)<uI H2 w+4*(10000 - mC H2 nA):=by rw[ml,mt,lZ h4,HY ka,fZ,aj,ai,ld];omega
  have o0:RM.okT (RM.aN fac) t0 t0:=rfl;have u0:¬RM.isN (RM.aN jv) t0:=by unfold RM.isN;rw[h0n];intro z;cases z
  have skip:(¬RM.okT (RM.aN fac) t0 q\/RM.isN (RM.aN jv) q\/q∈N)->∃(nj:List V)(ws' N':List PI3)(v6':Option V),([some (.ref a0),some (.int n),some (.ref fA),some (.ref nA),some (.int fz),some (.ref w),some (.ref ya)]:List (Option V))=[some (.ref a0),some (.int n),some (.ref fA),some (.ref nA),some (.int fz),some (.ref w),v6']/\But nA H H4/\H4 w=some (.lst nj)/\Paired (T3 H4) nj ws'/\D3 H4 nA (IV (jv++N'.map fun p=>(p,n)))/\RM.gI (RM.okT (RM.aN fac) t0) RM.nbP (RM.isN (RM.aN jv)) t0 N' ws'/\N'.Nodup/\(∀p∈N',(RM.aN fac p).isSome=true/\RM.aN jv p=none)/\nj.length<=1+3*N'.length:=
   fun z=>⟨xs.dropLast,ws.dropLast,N,some (.ref ya),rfl,b4,h4,vc,ka,sr.pop o0 u0 z,Nnd,Nin,by omega⟩
  have gq:=(hFb H4 b4).get (p:=q) vh;rw[iS]at gq;cases eq:RM.aN fac q with
  |none=>rw[eq]at gq;refine⟨_,rfl,fA,rfl,.inr ⟨_,hFb H4 b4⟩,_,rfl,_,gq,_,rfl,rfl,_,rfl,?_⟩;refine⟨skip (.inl fun z=>?_),less⟩;have z:RM.aN fac q=RM.aN fac t0:=z;rw[eq,hfz]at z;cases z
  |some z=>
   rw[eq]at gq;refine⟨_,rfl,fA,rfl,.inr ⟨_,hFb H4 b4⟩,_,rfl,_,gq,_,rfl,rfl,_,rfl,?_⟩;refine bY (fun c1=>?_) (fun c1=>zK ⟨skip (.inl fun z'=>c1 (decide_eq_true ?_)),less⟩)
   ·have c1:z=fz:=V.int.inj (ba c1);have okq:RM.okT (RM.aN fac) t0 q:=by
     show RM.aN fac q=RM.aN fac t0
     rw[eq,hfz,c1]
    refine⟨_,rfl,_,rfl,nA,_,rfl,R3.get (p:=q) ka.rd vh,_,rfl,?_⟩;rw[JE];refine bY (fun c2=>?_) (fun c2=>?_)
    ·have c2:q∉ (jv++N.map fun p=>(p,n)).map (·.1):=fun z=>by rw[(RM.aV q _).mpr z]at c2;cases c2
     have c3:q∉jv.map (·.1)/\q∉N:=by rw[xb]at c2;exact⟨fun z=>c2 (cc _ z),fun z=>c2 (bc _ z)⟩
     have nq:=RM.m9.mpr c3.1;have uq:¬RM.isN (RM.aN jv) q:=by unfold RM.isN;rw[nq];intro z;cases z
     have sr5:=sr.push okq uq;obtain⟨sd0,sd4⟩:=Bp q z eq;refine⟨_,rfl,_,rfl,_,rfl,nA,_,rfl,D3.put ka vh _ (by rw[fZ,aj,ai];exact few (m:=5000) (by omega)),?_⟩;rw[u7,RM.fR _ c2];have eN:jv++N.map (fun p=>(p,n))++[(q,n)]=jv++(N++[q]).map fun p=>(p,n):=by simp
     rw[eN];have wm:H4 nA=some (.dT (kvF k3 (IV (jv++N.map fun p=>(p,n))))):=ka;have tK:∀{v:V}{p:PI3},T3 H4 v p->T3 (upd H4 nA (.dT (kvF k3 (IV (jv++(N++[q]).map fun p=>(p,n)))))) v p:=fun t=>t.pA wm (by intro _ z;cases z)
     have b5:But nA H (upd H4 nA (.dT (kvF k3 (IV (jv++(N++[q]).map fun p=>(p,n)))))):=b4.here;have h5:(upd H4 nA (.dT (kvF k3 (IV (jv++(N++[q]).map fun p=>(p,n)))))) w=some (.lst xs.dropLast):=by rw[aB Ba];exact h4
     have wy:=aK (fun _ _ t=>tK t) vc;have ty5:=tK ⟨ya,rfl,vh⟩;have kh:D3 (upd H4 nA (.dT (kvF k3 (IV (jv++(N++[q]).map fun p=>(p,n)))))) nA (IV (jv++(N++[q]).map fun p=>(p,n))):=a8;generalize (upd H4 nA (.dT (kvF k3 (IV (jv++(N++[q]).map fun p=>(p,n))))))=H5 at b5 h5 wy ty5 kh ⊢;refine⟨_,rfl,.inl ⟨rfl,_,SqL.of h5⟩,_,rfl,.ref ya,q,rfl,ty5,fun r1 H6 s6 t6=>?_⟩;have h6:=s6 _ _ h5;refine⟨w,xs.dropLast,r1,rfl,rfl,h6,few (m:=20000) (by omega),?_⟩;have b7:But nA H (upd H6 w (.lst (xs.dropLast++[r1]))):=(b5.trans (a9.but s6)).put hw;have pr7:Paired (T3 (upd H6 w (.lst (xs.dropLast++[r1])))) (xs.dropLast++[r1]) (ws.dropLast++[(q.1,q.2.1,(q.2.2+1)%4)]):=b8 (t6.upd h6) (aK (fun _ _ t=>(t.mono s6).upd h6) wy);have ty7:T3 (upd H6 w (.lst (xs.dropLast++[r1]))) (.ref ya) q:=(ty5.mono s6).upd h6;have Ag:D3 (upd H6 w (.lst (xs.dropLast++[r1]))) nA (IV (jv++(N++[q]).map fun p=>(p,n))):=by unfold D3;rw[aB Ba.symm];exact s6 _ _ kh
     have h7:(upd H6 w (.lst (xs.dropLast++[r1]))) w=some (.lst (xs.dropLast++[r1])):=a8;generalize (upd H6 w (.lst (xs.dropLast++[r1])))=H7 at b7 pr7 ty7 Ag h7 ⊢;refine⟨_,rfl,.inl ⟨rfl,_,SqL.of h7⟩,_,rfl,.ref ya,q,rfl,ty7,fun r2 H8 s8 t8=>?_⟩;have h8:=s8 _ _ h7;refine⟨w,_,r2,rfl,rfl,h8,few (m:=20000) (by rw[aj];simp;omega),?_⟩;have b9:But nA H (upd H8 w (.lst (xs.dropLast++[r1]++[r2]))):=(b7.trans (a9.but s8)).put hw;have pr9:=b8 (t8.upd (o:=.lst (xs.dropLast++[r1]++[r2])) h8) (aK (fun _ _ t=>(t.mono s8).upd h8) pr7);have ty9:T3 (upd H8 w (.lst (xs.dropLast++[r1]++[r2]))) (.ref ya) q:=(ty7.mono s8).upd h8;have um:D3 (upd H8 w (.lst (xs.dropLast++[r1]++[r2]))) nA (IV (jv++(N++[q]).map fun p=>(p,n))):=by unfold D3;rw[aB Ba.symm];exact s8 _ _ Ag
     have h9:(upd H8 w (.lst (xs.dropLast++[r1]++[r2]))) w=some (.lst (xs.dropLast++[r1]++[r2])):=a8;generalize (upd H8 w (.lst (xs.dropLast++[r1]++[r2])))=H9 at b9 pr9 ty9 um h9 ⊢;refine⟨_,rfl,.inl ⟨rfl,_,SqL.of h9⟩,_,rfl,.ref ya,q,rfl,ty9,sd0,sd4,fun r3 HA sA tA=>?_⟩;have hA:=sA _ _ h9;have hDA:D3 (upd HA w (.lst (xs.dropLast++[r1]++[r2]++[r3]))) nA (IV (jv++(N++[q]).map fun p=>(p,n))):=by unfold D3;rw[aB Ba.symm];exact sA _ _ um
     refine⟨w,_,r3,rfl,rfl,hA,few (m:=20000) (by rw[aj,aj];simp;omega),⟨_,_,N++[q],_,rfl,(b9.trans (a9.but sA)).put hw,a8,b8 (tA.upd hA) (aK (fun _ _ t=>(t.mono sA).upd hA) pr9),hDA,?_,?_,?_,?_⟩,?_⟩
     ·have e:ws.dropLast++RM.nbP q=ws.dropLast++[(q.1,q.2.1,(q.2.2+1)%4)]++[(q.1,q.2.1,(q.2.2+3)%4)]++[((RM.aI (q.1,q.2.1) q.2.2.toNat).1,(RM.aI (q.1,q.2.1) q.2.2.toNat).2,(q.2.2+2)%4)]:=by unfold RM.nbP;simp
      rw[e]at sr5;exact sr5
     ·rw[cn];exact⟨Nnd,by simp,fun a ha b hb e=>c3.2 (by simp at hb;rw[<- hb,<- e];exact ha)⟩
     ·intro p hp;rcases aw.mp hp with hp|hp
      ·exact Nin p hp
      ·have:p=q:=by simpa using hp
       rw[this];exact⟨by rw[eq];rfl,nq⟩
     ·simp only[aj,bo,dv];omega
     ·rw[ml,mt,lZ a8,HY hDA,fZ];simp only[aj,ai,bo,dv];omega
    ·have c2:q∈jv.map (·.1)++N:=by
      rw[<- xb];refine(RM.aV q _).mp ?_;cases e:(RM.aN (jv++N.map fun p=>(p,n)) q).isSome with
      |true=>rfl
      |false=>rw[e]at c2;exact absurd rfl c2
     refine⟨skip (.inr ?_),less⟩;rcases aw.mp c2 with z|z
     ·exact .inl ((RM.aV q jv).mpr z)
     ·exact .inr z
   ·have z':RM.aN fac q=RM.aN fac t0:=z';rw[eq,hfz]at z';rw[Option.some.inj z'];rfl
 ·have e:xs=[]:=by
   cases xs with
   |nil=>rfl
   |cons _ _=>exact absurd rfl cq
  subst e;cases pr;exact k N H2 b2 hD Nnd fun p=>sr.done p
abbrev s_no:Stmt:=(top 72)
theorem sc_no:aL ["facings","numbers","count","triangle"] ["facings"] (aH s_no):=fS
noncomputable def sp_no(K:W.Frag)(d:Adr):Sp:=fun vs H Q _=>∃(fA:Addr)(h:List Nat),vs=[.ref fA]/\D3 H fA (IV (RM.dZ h))/\(∀r∈h,RM.okR r)/\h.length<=1024/\∀r Ns H',a9 H H'->H r=none->D3 H' r (IV (RM.aE 0 Ns))->RM.Numbering h (Roof.trianglesOf h).length Ns->Q (.ref r) H'
theorem ok_no(F:Fun K "numbers_of" "numbers_of" s_no f fd)(T:Txt K mg base d)(D_nf:aP P w K mg base CX0 4 "number_face" ["first","number","facings","numbers"] (sp_nf K d)):bI P w K mg base CX0 5 f fd ["facings"] (sp_no K d):=by
 refine F.ok sc_no (fun vs H Q E h=>by obtain⟨fA,h,rfl,_⟩:=h;rfl) (fun _ _ _ _ H _ Q E hr h=>?_);have hu:=bE hr;obtain⟨fA,h,rfl,hF,hok,hl,k⟩:=h;have tl:=RM.yE h;have jr:(Roof.trianglesOf h).length<Roof.NONE:=by unfold Roof.NONE;omega
 have fl:(RM.dZ h).length<=4096:=by have:=congrArg List.length (RM.m7 h);rw[ai,ai]at this;omega
 refine⟨_,(aA (psN (i:=1) sc_no.nd d9)
   (aA (psN (i:=2) sc_no.nd aM)
   (aA (jF (bO PassesOwn.never rfl (lU (pv 0)) (pgN (i:=3) sc_no.nd) (aD (cD (dO (cG hu (pv 3) (pv 1))) (aA (cW (aS D_nf (hm hr) aU rfl (a7 (pv 3) (a7 (pv 2) (a7 (pv 0) (a7 (pv 1) aC))))))
   (aD (GY (i:=2) sc_no.nd rfl (Or.inl rfl) aM IF))) bB))))
   (aD (aQ (pv 1)))))),?_⟩
 refine fun f hf=>?_
 have nc:fA≠f:=aJ hF hf;have kc:∀od,(upd H fA (.frz od (.dT (kvF k3 (IV (RM.dZ h)))))) f=none:=fun od=>fH hF hf
 refine⟨fA,.dT (kvF k3 (IV (RM.dZ h))),by rw[aB nc];exact hF,trivial,fun od=>⟨_,rfl,fA,od,rfl,.inr ⟨_,a8,kX (d:=fA) (od:=od) (kvs:=kvF k3 (IV (RM.dZ h)))
  (fun i σ H2=>∃(Ns:List (List PI3))(v3:Option V),σ=[some (.ref fA),some (.ref f),some (.int (Ns.length:Nat)),v3]/\a9 (upd H fA (.frz od (.dT (kvF k3 (IV (RM.dZ h)))))) H2/\D3 H2 f (IV (RM.aE 0 Ns))/\RM.Numbering h i Ns)
  ⟨[],none,rfl,a9.both (a9.upd hf),by unfold D3;rw[aB nc.symm,a8];rfl,RM.Numbering.start hok⟩ (fun i σ H2 ⟨_,_,_,s2,_⟩=>s2 _ _ a8) ?_ ?_⟩⟩⟩
 ·rintro i kk vv q σ H2 hi hq ⟨Ns,v3,rfl,s2,hD,R⟩;obtain⟨t,ht,rfl⟩:=HZ hi;obtain⟨tn,htn,rfl⟩:∃tn,(Roof.trianglesOf h)[i]? =some tn/\t=RM.tP tn:=by
   have:=congrArg (Option.map Prod.fst) ht;rw[<- bf,y6,RM.m7,bf]at this;cases e:(Roof.trianglesOf h)[i]? with
   |none=>rw[e]at this;cases this
   |some tn=>rw[e]at this;exact⟨tn,rfl,(Option.some.inj this).symm⟩
  have hm:=ay htn;refine⟨_,rfl,_,rfl,f,_,rfl,R3.get (p:=RM.tP tn) hD.rd hq,_,rfl,?_⟩;rw[JE];refine bY (fun c1=>?_) (fun c1=>?_)
  ·have c1:RM.aN (RM.aE 0 Ns) (RM.tP tn)=none:=by
    cases e:RM.aN (RM.aE 0 Ns) (RM.tP tn)with
    |none=>rfl
    |some z=>rw[e]at c1;cases c1
   obtain⟨lab,firsts,O,_,_⟩:=R.ex;have vx:=RM.DT hok tn hm;refine⟨_,rfl,_,rfl,_,rfl,_,rfl,.ref q,(Ns.length:Int),fA,f,RM.dZ h,RM.aE 0 Ns,RM.tP tn,rfl,⟨q,rfl,hq⟩,.inr ⟨od,s2 _ _ a8⟩,hD,nc,fun t z e=>RM.FJ e,by rw[vx];rfl,c1,fl,by rw[RM.bA];exact O.nd,fun t ht=>by rw[RM.bA]at ht;rw[RM.m7];exact O.sub t ht,fun N H3 b3 lh nd3 hN=>?_⟩;have s3:a9 (upd H fA (.frz od (.dT (kvF k3 (IV (RM.dZ h)))))) H3:=But.same b3 s2 (kc od);refine⟨_,rfl,_,_,rfl,rfl,Ns++[N],some (.ref q),?_,s3,by rw[RM.j0];exact lh,R.face hok (fun t ht=>RM.DT hok t ht) (fun p hp=>RM.A8 h p hp) jr htn c1 hN nd3⟩;have el:((Ns++[N]).length:Int)=(Ns.length:Int)+1:=by rw[aj];simp
   rw[el];rfl
  ·have c1:(RM.aN (RM.aE 0 Ns) (RM.tP tn)).isSome=true:=by
    cases e:(RM.aN (RM.aE 0 Ns) (RM.tP tn)).isSome with
    |true=>rfl
    |false=>rw[e]at c1;exact absurd rfl c1
   exact⟨Ns,_,rfl,s2,hD,R.skip htn c1⟩
 ·rintro σ H2 ⟨Ns,v3,rfl,s2,hD,R⟩;have el:(kvF k3 (IV (RM.dZ h))).length=(Roof.trianglesOf h).length:=by have:=congrArg List.length (RM.m7 h);rw[ai,ai]at this;rw[f6,fZ,this]
  rw[el]at R;exact⟨s2 _ _ a8,_,rfl,k f Ns _ (a9.unlock hF s2) hf (by unfold D3;rw[aB nc.symm];exact hD) R⟩
abbrev s_fo:Stmt:=(top 73)
theorem sc_fo:aL ["numbers","faces","triangle","number"] ["numbers"] (aH s_fo):=fS
noncomputable def sp_fo(K:W.Frag)(d:Adr):Sp:=fun vs H Q _=>∃(nA:Addr)(Ns:List (List PI3)),vs=[.ref nA]/\D3 H nA (IV (RM.aE 0 Ns))/\(∀N∈Ns,N≠[])/\(RM.aE 0 Ns).length<=4096/\∀r H',a9 H H'->H r=none->LLS H' r Ns->Q (.ref r) H'
theorem ok_fo(F:Fun K "faces_of" "faces_of" s_fo f fd)(T:Txt K mg base d):bI P w K mg base CX0 1 f fd ["numbers"] (sp_fo K d):=by
 refine F.ok sc_fo (fun vs H Q E h=>by obtain⟨nA,Ns,rfl,_⟩:=h;rfl) (fun _ _ _ _ H _ Q E hr h=>?_);have hu:=bE hr;obtain⟨nA,Ns,rfl,hN,jn,hl,k⟩:=h;refine⟨_,(aA (psN (i:=1) sc_fo.nd (fF aC))
   (aA (jF (bO PassesOwn.never rfl (vG (pv 0)) (kM rfl (bL (pgN (i:=2) sc_fo.nd) (bL (pgN (i:=3) sc_fo.nd) hJ))) (aA (cD (bU jV (pv 3) (bM bS (by rfl) T.len PySem.boot_len (a7 (pv 1) aC)) (c8 _)) (aD (cW (hO PySem.F.plainAttrs_list PySem.F.slot_list_append PySem.F.type_list_append cH (pv 1) (a7 (fF aC) aC)))) bB)
   (aD (cW (hO PySem.F.plainAttrs_list PySem.F.slot_list_append PySem.F.type_list_append cH (bK jL (pv 1) (pv 3) (fun _ _=>rfl)) (a7 (pv 2) aC)))))))
   (aD (aQ (pv 1))))),?_⟩
 refine⟨bz _,fun f hf=>?_⟩;have nc:nA≠f:=aJ hN hf;have kc:∀od,(upd H nA (.frz od (.dT (kvF k3 (IV (RM.aE 0 Ns)))))) f=none:=fun od=>fH hN hf
 refine⟨nA,.dT (kvF k3 (IV (RM.aE 0 Ns))),by rw[aB nc];exact hN,trivial,fun od=>⟨_,rfl,nA,od,_,rfl,a8,vX (d:=nA) (od:=od) (kvs:=kvF k3 (IV (RM.aE 0 Ns)))
  (fun i σ H2=>∃(bs:List Addr)(Fs:List (List PI3))(v2 v3:Option V),σ=[some (.ref nA),some (.ref f),v2,v3]/\a9 (upd H nA (.frz od (.dT (kvF k3 (IV (RM.aE 0 Ns)))))) H2/\H2 f=some (.lst (bs.map V.ref))/\Paired (LS H2) bs Fs/\(f::bs).Nodup/\(∀b∈bs,(upd H nA (.frz od (.dT (kvF k3 (IV (RM.aE 0 Ns)))))) b=none)/\RM.qG Ns i Fs)
  ⟨[],[],none,none,rfl,a9.both (a9.upd hf),by rw[aB nc.symm,a8];rfl,.nil,by simp,fun b hb=>(by cases hb),RM.qG.start Ns⟩ (fun i σ H2 ⟨_,_,_,_,_,s2,_⟩=>s2 _ _ a8) ?_ ?_⟩⟩
 ·rintro i kk vv q T' σ H2 hi hq hT' ⟨bs,Fs,v2,v3,rfl,s2,hf2,pr,nd,fr,pre⟩;obtain⟨t,ht,rfl⟩:=HZ hi;obtain⟨m,hm,rfl⟩:∃m,(RM.aE 0 Ns)[i]? =some (t,m)/\vv=.int m:=by
   unfold IV at ht;rw[bf]at ht;cases e:(RM.aE 0 Ns)[i]? with
   |none=>rw[e]at ht;cases ht
   |some x=>rw[e]at ht;cases ht;exact⟨x.2,rfl,rfl⟩
  have s3:a9 H2 (upd H2 T' (.tup [.ref q,.int m])):=a9.upd hT';refine⟨T',_,rfl,SqT.of a8,rfl,_,_,rfl,_,_,rfl,rfl,?_⟩;have yf:=a9.trans s2 s3;have uh:=s3 _ _ hf2;have zq:T3 (upd H2 T' (.tup [.ref q,.int m])) (.ref q) t:=⟨q,rfl,s3 _ _ hq⟩;have oj:=aK (fun _ _ z=>LS.mono s3 z) pr;generalize (upd H2 T' (.tup [.ref q,.int m]))=H3 at s3 yf uh zq oj ⊢;have ql:=tO hm;have lb:=pairs_len pr;have lFs:Fs.length<=4096:=by have h1:=RM.kZ pre.ne;have h2:=congrArg List.length (RM.bA Fs 0);rw[ai,pre.eq,bu]at h2;omega
  have fin:∀(H5:Hp)(cs:List Addr)(b:Addr)(F:List (List PI3))(L:List PI3),a9 (upd H nA (.frz od (.dT (kvF k3 (IV (RM.aE 0 Ns)))))) H5->H5 f=some (.lst ((cs++[b]).map V.ref))->Paired (LS H5) cs F->LS H5 b L->(f::(cs++[b])).Nodup->(∀c∈cs++[b],(upd H nA (.frz od (.dT (kvF k3 (IV (RM.aE 0 Ns)))))) c=none)->T3 H5 (.ref q) t->m=(F.length:Int)->RM.qG Ns (i+1) (F++[L++[t]]) ->
    ∃ys,H5 b=some (.lst ys)/\ys.length<=4096/\((cs++[b]).map V.ref)[m.toNat]? =some (.ref b)/\∃(bs:List Addr)(Fs:List (List PI3))(v2 v3:Option V),([some (.ref nA),some (.ref f),some (.ref q),some (.int m)]:List (Option V))=[some (.ref nA),some (.ref f),v2,v3]/\a9 (upd H nA (.frz od (.dT (kvF k3 (IV (RM.aE 0 Ns)))))) (upd H5 b (.lst (ys++[.ref q])))/\(upd H5 b (.lst (ys++[.ref q]))) f=some (.lst (bs.map V.ref))/\Paired (LS (upd H5 b (.lst (ys++[.ref q])))) bs Fs/\(f::bs).Nodup/\(∀b∈bs,(upd H nA (.frz od (.dT (kvF k3 (IV (RM.aE 0 Ns)))))) b=none)/\RM.qG Ns (i+1) Fs:=by
   intro H5 cs b F L s5 hf5 pF pL nd5 fr5 tq5 em qv;obtain⟨ys,hb5,py⟩:=pL;have hat:((cs++[b]).map V.ref)[m.toNat]? =some (.ref b):=by
    have e1:m.toNat=F.length:=by omega
    have e2:=pairs_len pF;rw[e1,<- e2,cf,dj (by simp)];simp
   have ly:=pairs_len py;have lL:L.length<=4096:=by have h2:=congrArg List.length qv.eq;have h3:=congrArg List.length (RM.bA (F++[L++[t]]) 0);rw[ai]at h3;rw[bu]at h2;rw[gw,aj]at h3;simp at h3;omega
   have ndp:=dc.mp nd5;have nbf:b≠f:=fun z=>ndp.1 (z▸bc _ bb)
   have ncb:∀c∈cs,c≠b:=fun c hc=>(cn.mp ndp.2).2.2 c hc b bb
   refine⟨ys,hb5,by omega,hat,cs++[b],F++[L++[t]],_,_,rfl,a9.put s5 (fr5 b (bc _ bb)),by rw[aB nbf.symm];exact hf5,?_,nd5,fr5,qv⟩;exact b8 ⟨ys++[.ref q],a8,b8 (tq5.upd hb5) (aK (fun _ _ z=>z.upd hb5) py)⟩ (aK (fun c G ⟨hc,_,z⟩=>z.upd hb5 (ncb c hc)) (lW pF))
  refine⟨_,rfl,_,rfl,f,_,rfl,.inl (SqL.of uh),rfl,_,rfl,?_⟩;rw[ai,lb];rcases pre.step jn hm with⟨em,qv⟩|⟨F,L,eF,em,qv⟩
  ·refine bY (fun c1=>?_) (fun c1=>absurd (decide_eq_true (by rw[em])) c1);refine⟨_,rfl,.inl ⟨rfl,_,SqL.of uh⟩,bz _,fun l qk=>?_⟩;have s4:a9 H3 (upd H3 l (.lst [])):=a9.upd qk;have hf4:=s4 _ _ uh;have nlf:l≠f:=fun z=>by rw[z,uh]at qk;cases qk
   refine⟨f,_,.ref l,rfl,rfl,hf4,by rw[ai,lb];exact few (m:=4096) lFs,?_⟩;have nlb:∀b∈bs,b≠l:=fun b hb z=>by obtain⟨j,hj⟩:=fe.mp hb;obtain⟨_,_,⟨ys,hy,_⟩⟩:=pairs_at oj hj;rw[z,qk]at hy;cases hy
   have nbf:∀b∈bs,b≠f:=fun b hb z=>(dc.mp nd).1 (z▸hb)
   have eb:bs.map V.ref++[V.ref l]=(bs++[l]).map V.ref:=by simp
   rw[eb];have hf5:(upd (upd H3 l (.lst [])) f (.lst ((bs++[l]).map V.ref))) f=some (.lst ((bs++[l]).map V.ref)):=a8;obtain⟨ys,y1,y2,y3,y4⟩:=fin (upd (upd H3 l (.lst [])) f (.lst ((bs++[l]).map V.ref))) bs l Fs [] (a9.put (a9.trans yf s4) (kc od)) hf5 (aK (fun b F ⟨hb,_,z⟩=>(LS.mono s4 z).upd hf4 (nbf b hb)) (lW oj)) ⟨[],by rw[aB nlf,a8],.nil⟩ (by
     rw[dc]at nd ⊢;refine⟨fun z=>?_,?_⟩
     ·rcases aw.mp z with z|z
      ·exact nd.1 z
      ·exact nlf (fm.mp z).symm
     ·rw[cn];exact⟨nd.2,by simp,fun a ha b hb e=>nlb a ha (by simp at hb;rw[e,hb])⟩) (by
     intro c hc;rcases aw.mp hc with hc|hc
     ·exact fr c hc
     ·have:c=l:=by simpa using hc
      rw[this];exact yf.free qk) ((zq.mono s4).upd hf4) em qv
   exact⟨_,rfl,_,rfl,f,_,_,_,rfl,rfl,SqL.of hf5,aX (by omega) y3,.inl ⟨rfl,_,SqL.of y1⟩,_,rfl,l,ys,.ref q,rfl,rfl,y1,few y2,y4⟩
  ·refine bY (fun c1=>?_) (fun c1=>?_)
   ·have c1:=V.int.inj (ba c1);rw[eF,aj]at c1;simp at c1;omega
   ·subst eF;obtain⟨cs,b,eb,p1,p2⟩:=qP oj;subst eb;obtain⟨ys,y1,y2,y3,y4⟩:=fin _ cs b F L yf uh p1 p2 nd fr zq em qv;exact⟨_,rfl,_,rfl,f,_,_,_,rfl,rfl,SqL.of uh,aX (by omega) y3,.inl ⟨rfl,_,SqL.of y1⟩,_,rfl,b,ys,.ref q,rfl,rfl,y1,few y2,y4⟩
 ·rintro σ H2 ⟨bs,Fs,v2,v3,rfl,s2,hf2,pr,nd,fr,pre⟩;have el:(kvF k3 (IV (RM.aE 0 Ns))).length=(RM.aE 0 Ns).length:=by rw[f6,fZ]
  rw[el]at pre;have e:=pre.done jn;subst e;have hN2:H2 nA=some (.frz od (.dT (kvF k3 (IV (RM.aE 0 Fs))))):=s2 _ _ a8;refine⟨hN2,_,rfl,k f _ (a9.unlock hN s2) hf ⟨bs,by rw[aB nc.symm];exact hf2,aK (fun b F ⟨xs,h1,h2⟩=>⟨xs,?_,aK (fun _ _ z=>z.pA hN2 (by intro _ z;cases z)) h2⟩) pr⟩⟩;rw[aB (fE h1 hN2 (by intro z;cases z))];exact h1
abbrev s_i:Stmt:=(inClass (top 65) 0)
theorem sc_i:aL ["self","cells"] ["self","cells"] (aH s_i):=fS
structure mY(C:List (Nat×Nat))(R:Addr)(H:Hp)(x:Addr)(cA dA hA fA nA gA:Addr)(ht:List (PI×Int))(Ns:List (List PI3)):Prop where
 ins:∃dx fs,H x=some (.ins R dx fs)/\fs.lookup ("cells" : Str)=some (.ref cA)/\fs.lookup ("depths" : Str)=some (.ref dA)/\fs.lookup ("heights" : Str)=some (.ref hA)/\fs.lookup ("facings" : Str)=some (.ref fA)/\fs.lookup ("numbers" : Str)=some (.ref nA)/\fs.lookup ("faces" : Str)=some (.ref gA)
 cells:D2 H cA (CS C)
 NC:D2 H dA (IV (RM.bT (Roof.halvesOf C)))
 KN:D2 H hA (IV ht)
 hok:RM.AO (Roof.halvesOf C) ht
 KW:D3 H fA (IV (RM.dZ (Roof.halvesOf C)))
 T7:D3 H nA (IV (RM.aE 0 Ns))
 nok:RM.Numbering (Roof.halvesOf C) (Roof.trianglesOf (Roof.halvesOf C)).length Ns
 faces:LLS H gA Ns
 apart:[cA,dA,hA,fA,nA,gA].Nodup
theorem LLS.T8{H:Hp}{a x:Addr}{Fs:List (List PI3)}{C dx:Addr}{fs:List (Str×V)}{o:HO}(h:LLS H a Fs)(hx:H x=some (.ins C dx fs)):LLS (upd H x o) a Fs:=by obtain⟨bs,h1,h2⟩:=h;refine⟨bs,by rw[aB (fE h1 hx (by intro z;cases z))];exact h1,aK (fun b F ⟨xs,e1,e2⟩=>⟨xs,by rw[aB (fE e1 hx (by intro z;cases z))];exact e1,aK (fun _ _ z=>z.pA hx (by intro _ z;cases z)) e2⟩) h2⟩
noncomputable def sp_i(K:W.Frag)(d:Adr):Sp:=fun vs H Q _=>∃(x dx cA:Addr)(C:List (Nat×Nat)),vs=[.ref x,.ref cA]/\H x=some (.ins d.Roof dx [])/\D2 H cA (CS C)/\C.Nodup/\(∀c∈C,c.1<64/\c.2<64)/\C.length<=256/\C≠[]/\∀dA hA fA nA gA ht Ns H',(∀b o,H b=some o->b≠x->H' b=some o)->mY C d.Roof H' x cA dA hA fA nA gA ht Ns->Q .non H'
theorem ok_i(F:Fun K "__init__" "Roof.__init__" s_i f fd)(T:Txt K mg base d)(D_do:aP P w K mg base CX0 6 "depths_of" ["cells"] (sp_do K d))(D_ho2:aP P w K mg base CX0 3 "heights_of" ["depths"] (sp_ho2 K d))(D_fo3:aP P w K mg base CX0 5 "facings_of" ["depths","heights"] (sp_fo3 K d))(D_no:aP P w K mg base CX0 5 "numbers_of" ["facings"] (sp_no K d))(D_fo:aP P w K mg base CX0 1 "faces_of" ["numbers"] (sp_fo K d)):bI P w K mg base CX0 7 f fd ["self","cells"] (sp_i K d):=by
 refine F.ok sc_i (fun vs H Q E h=>by obtain⟨x,dx,cA,C,rfl,_⟩:=h;rfl) (fun _ _ _ _ H _ Q E hr h=>?_);have hu:=bE hr;obtain⟨x,dx,cA,C,rfl,hx,hC,nd,bd,mz,jn,k⟩:=h;have hok:=RM.bD bd;have hhl:=RM.iN C;have hl:(Roof.halvesOf C).length<=1024:=by omega
 have qj:((Roof.halvesOf C).map RM.hP).Nodup:=RM.dJ ((RM.iM nd bd).imp fun{a b} h e=>by omega) fun a ha b hb e=>RM.pY (hok a ha) (hok b hb) e
 refine⟨_,(aA (pI (pv 0) (pv 1) rfl)
   (aA (pI (pv 0) (aS D_do (hm hr) aU rfl (a7 (pv 1) aC)) rfl)
   (aA (pI (pv 0) (aS D_ho2 (hm hr) aU rfl (a7 (gQ (pv 0) rfl) aC)) rfl)
   (aA (pI (pv 0) (aS D_fo3 (hm hr) aU rfl (a7 (gQ (pv 0) rfl) (a7 (gQ (pv 0) rfl) aC))) rfl)
   (aA (pI (pv 0) (aS D_no (hm hr) aU rfl (a7 (gQ (pv 0) rfl) aC)) rfl)
   (aD (pI (pv 0) (aS D_fo (hm hr) aU rfl (a7 (gQ (pv 0) rfl) aC)) rfl))))))),?_⟩
 refine⟨_,rfl,_,rfl,x,d.Roof,dx,[],rfl,hx,T.cQ,T.xB,by decide,?_⟩;have yi:cA≠x:=fE hC hx (by intro z;cases z);have c1:But x H (upd H x (.ins d.Roof dx (bV "cells" (.ref cA) []))):=(But.refl x H).here;have x1:(upd H x (.ins d.Roof dx (bV "cells" (.ref cA) []))) x=some (.ins d.Roof dx (bV "cells" (.ref cA) [])):=a8;have l1:=dC "cells" (.ref cA) [];generalize e1:bV "cells" (V.ref cA) []=fs1 at c1 x1 l1 ⊢;have q1:fs1.lookup ("cells" : Str)=some (.ref cA):=by rw[<- e1,bN,ah rfl]
 generalize (upd H x (.ins d.Roof dx fs1))=H1 at c1 x1 ⊢;have hC1:D2 H1 cA (CS C):=c1 _ _ yi hC;refine⟨_,rfl,cA,C,rfl,hC1,nd,bd,mz,jn,fun dA H2 s2 fd2 Dc=>?_⟩;refine⟨_,rfl,x,d.Roof,dx,fs1,rfl,s2 _ _ x1,T.cQ,T.nW,by simp at l1;omega,?_⟩;have c2:But x H (upd H2 x (.ins d.Roof dx (bV "depths" (.ref dA) fs1))):=(c1.trans (a9.but s2)).here;have x2:(upd H2 x (.ins d.Roof dx (bV "depths" (.ref dA) fs1))) x=some (.ins d.Roof dx (bV "depths" (.ref dA) fs1)):=a8;have xa:dA≠x:=fE Dc (s2 _ _ x1) (by intro z;cases z);have lh:D2 (upd H2 x (.ins d.Roof dx (bV "depths" (.ref dA) fs1))) dA (IV (RM.bT (Roof.halvesOf C))):=by unfold D2;rw[aB xa];exact Dc
 have l2:=dC "depths" (.ref dA) fs1;have a2:∀g,g≠("depths" : Str)->(bV "depths" (.ref dA) fs1).lookup g=fs1.lookup g:=fun g hg=>by rw[bN,af hg]
 have q2:(bV "depths" (.ref dA) fs1).lookup ("depths" : Str)=some (.ref dA):=by rw[bN,ah rfl]
 have ncd:cA≠dA:=fun z=>by have:=hC1;unfold D2 at this;rw[z,fd2]at this;cases this
 generalize bV "depths" (V.ref dA) fs1=fs2 at*;generalize (upd H2 x (.ins d.Roof dx fs2))=H3 at c2 x2 lh ⊢;refine⟨_,rfl,x,d.Roof,dx,fs2,_,rfl,x2,T.cQ,T.nW,q2,?_⟩;refine⟨dA,Roof.halvesOf C,rfl,lh,hok,hl,fun hA ht H4 s4 fh4 hH4 Bn=>?_⟩;refine⟨_,rfl,x,d.Roof,dx,fs2,rfl,s4 _ _ x2,T.cQ,T.pO,by simp at l1;omega,?_⟩;have c3:But x H (upd H4 x (.ins d.Roof dx (bV "heights" (.ref hA) fs2))):=(c2.trans (a9.but s4)).here;have x3:(upd H4 x (.ins d.Roof dx (bV "heights" (.ref hA) fs2))) x=some (.ins d.Roof dx (bV "heights" (.ref hA) fs2)):=a8;have nhx:hA≠x:=fE hH4 (s4 _ _ x2) (by intro z;cases z);have hH5:D2 (upd H4 x (.ins d.Roof dx (bV "heights" (.ref hA) fs2))) hA (IV ht):=by unfold D2;rw[aB nhx];exact hH4
 have kh:D2 (upd H4 x (.ins d.Roof dx (bV "heights" (.ref hA) fs2))) dA (IV (RM.bT (Roof.halvesOf C))):=by unfold D2;rw[aB xa];exact s4 _ _ lh
 have l3:=dC "heights" (.ref hA) fs2;have a3:∀g,g≠("heights" : Str)->(bV "heights" (.ref hA) fs2).lookup g=fs2.lookup g:=fun g hg=>by rw[bN,af hg]
 have q3:(bV "heights" (.ref hA) fs2).lookup ("heights" : Str)=some (.ref hA):=by rw[bN,ah rfl]
 have yj:cA≠hA:=fun z=>by have:=c2 _ _ yi hC;rw[z,fh4]at this;cases this
 have ndh:dA≠hA:=fun z=>by have:=lh;unfold D2 at this;rw[z,fh4]at this;cases this
 generalize bV "heights" (V.ref hA) fs2=fs3 at*;generalize (upd H4 x (.ins d.Roof dx fs3))=H5 at c3 x3 hH5 kh ⊢;have q32:fs3.lookup ("depths" : Str)=some (.ref dA):=by rw[a3 _ (by decide)];exact q2
 refine⟨_,rfl,x,d.Roof,dx,fs3,_,rfl,x3,T.cQ,T.nW,q32,_,rfl,x,d.Roof,dx,fs3,_,rfl,x3,T.cQ,T.pO,q3,?_⟩;refine⟨dA,hA,Roof.halvesOf C,ht,rfl,kh,hH5,ndh,Bn,qj,hl,fun fA H6 s6 ff6 Cz=>?_⟩;refine⟨_,rfl,x,d.Roof,dx,fs3,rfl,s6 _ _ x3,T.cQ,T.vR,by simp at l1;omega,?_⟩;have c4:But x H (upd H6 x (.ins d.Roof dx (bV "facings" (.ref fA) fs3))):=(c3.trans (a9.but s6)).here;have x4:(upd H6 x (.ins d.Roof dx (bV "facings" (.ref fA) fs3))) x=some (.ins d.Roof dx (bV "facings" (.ref fA) fs3)):=a8;have nfx:fA≠x:=fE Cz (s6 _ _ x3) (by intro z;cases z);have hF7:D3 (upd H6 x (.ins d.Roof dx (bV "facings" (.ref fA) fs3))) fA (IV (RM.dZ (Roof.halvesOf C))):=by unfold D3;rw[aB nfx];exact Cz
 have hH7:D2 (upd H6 x (.ins d.Roof dx (bV "facings" (.ref fA) fs3))) hA (IV ht):=by unfold D2;rw[aB nhx];exact s6 _ _ hH5
 have Ag:D2 (upd H6 x (.ins d.Roof dx (bV "facings" (.ref fA) fs3))) dA (IV (RM.bT (Roof.halvesOf C))):=by unfold D2;rw[aB xa];exact s6 _ _ kh
 have l4:=dC "facings" (.ref fA) fs3;have a4:∀g,g≠("facings" : Str)->(bV "facings" (.ref fA) fs3).lookup g=fs3.lookup g:=fun g hg=>by rw[bN,af hg]
 have q4:(bV "facings" (.ref fA) fs3).lookup ("facings" : Str)=some (.ref fA):=by rw[bN,ah rfl]
 have ncf:cA≠fA:=fun z=>by have:=c3 _ _ yi hC;rw[z,ff6]at this;cases this
 have ndf:dA≠fA:=fun z=>by have:=kh;unfold D2 at this;rw[z,ff6]at this;cases this
 have nhf:hA≠fA:=fun z=>by have:=hH5;unfold D2 at this;rw[z,ff6]at this;cases this
 generalize bV "facings" (V.ref fA) fs3=fs4 at*;generalize (upd H6 x (.ins d.Roof dx fs4))=H7 at c4 x4 hF7 hH7 Ag ⊢;refine⟨_,rfl,x,d.Roof,dx,fs4,_,rfl,x4,T.cQ,T.vR,q4,?_⟩;refine⟨fA,Roof.halvesOf C,rfl,hF7,hok,hl,fun nA Ns H8 s8 fn8 hN8 nok=>?_⟩;refine⟨_,rfl,x,d.Roof,dx,fs4,rfl,s8 _ _ x4,T.cQ,T.vQ,by simp at l1;omega,?_⟩;have c5:But x H (upd H8 x (.ins d.Roof dx (bV "numbers" (.ref nA) fs4))):=(c4.trans (a9.but s8)).here;have x5:(upd H8 x (.ins d.Roof dx (bV "numbers" (.ref nA) fs4))) x=some (.ins d.Roof dx (bV "numbers" (.ref nA) fs4)):=a8;have nnx:nA≠x:=fE hN8 (s8 _ _ x4) (by intro z;cases z);have hN9:D3 (upd H8 x (.ins d.Roof dx (bV "numbers" (.ref nA) fs4))) nA (IV (RM.aE 0 Ns)):=by unfold D3;rw[aB nnx];exact hN8
 have hF9:D3 (upd H8 x (.ins d.Roof dx (bV "numbers" (.ref nA) fs4))) fA (IV (RM.dZ (Roof.halvesOf C))):=by unfold D3;rw[aB nfx];exact s8 _ _ hF7
 have hH9:D2 (upd H8 x (.ins d.Roof dx (bV "numbers" (.ref nA) fs4))) hA (IV ht):=by unfold D2;rw[aB nhx];exact s8 _ _ hH7
 have um:D2 (upd H8 x (.ins d.Roof dx (bV "numbers" (.ref nA) fs4))) dA (IV (RM.bT (Roof.halvesOf C))):=by unfold D2;rw[aB xa];exact s8 _ _ Ag
 have l5:=dC "numbers" (.ref nA) fs4;have a5:∀g,g≠("numbers" : Str)->(bV "numbers" (.ref nA) fs4).lookup g=fs4.lookup g:=fun g hg=>by rw[bN,af hg]
 have q5:(bV "numbers" (.ref nA) fs4).lookup ("numbers" : Str)=some (.ref nA):=by rw[bN,ah rfl]
 have ncn:cA≠nA:=fun z=>by have:=c4 _ _ yi hC;rw[z,fn8]at this;cases this
 have ndn:dA≠nA:=fun z=>by have:=Ag;unfold D2 at this;rw[z,fn8]at this;cases this
 have nhn:hA≠nA:=fun z=>by have:=hH7;unfold D2 at this;rw[z,fn8]at this;cases this
 have nfn:fA≠nA:=fun z=>by have:=hF7;unfold D3 at this;rw[z,fn8]at this;cases this
 generalize bV "numbers" (V.ref nA) fs4=fs5 at*;generalize (upd H8 x (.ins d.Roof dx fs5))=H9 at c5 x5 hN9 hF9 hH9 um ⊢;obtain⟨lab,firsts,O,_,_⟩:=nok.ex;have tl:=RM.yE (Roof.halvesOf C);have nl:(RM.aE 0 Ns).length<=4096:=by have h1:=congrArg List.length (RM.bA Ns 0);have h2:=RM.bX O.nd O.sub;rw[ai]at h1 h2;omega
 refine⟨_,rfl,x,d.Roof,dx,fs5,_,rfl,x5,T.cQ,T.vQ,q5,?_⟩;refine⟨nA,Ns,rfl,hN9,O.ne,nl,fun gA HA sA Dh hG=>?_⟩;refine⟨_,rfl,x,d.Roof,dx,fs5,rfl,sA _ _ x5,T.cQ,T.x9,by simp at l1;omega,?_⟩;have a6:∀g,g≠("faces" : Str)->(bV "faces" (.ref gA) fs5).lookup g=fs5.lookup g:=fun g hg=>by rw[bN,af hg]
 have q6:(bV "faces" (.ref gA) fs5).lookup ("faces" : Str)=some (.ref gA):=by rw[bN,ah rfl]
 have xA:=sA _ _ x5;have ncg:cA≠gA:=fun z=>by have:=c5 _ _ yi hC;rw[z,Dh]at this;cases this
 have ndg:dA≠gA:=fun z=>by have:=um;unfold D2 at this;rw[z,Dh]at this;cases this
 have nhg:hA≠gA:=fun z=>by have:=hH9;unfold D2 at this;rw[z,Dh]at this;cases this
 have nfg:fA≠gA:=fun z=>by have:=hF9;unfold D3 at this;rw[z,Dh]at this;cases this
 have nng:nA≠gA:=fun z=>by have:=hN9;unfold D3 at this;rw[z,Dh]at this;cases this
 refine k dA hA fA nA gA ht Ns _ (fun b o e nb=>by rw[aB nb];exact sA _ _ (c5 b o nb e)) ⟨⟨dx,_,a8,?_,?_,?_,?_,?_,q6⟩,?_,?_,?_,Bn,?_,?_,nok,LLS.T8 hG xA,?_⟩
 ·rw[a6 _ (by decide),a5 _ (by decide),a4 _ (by decide),a3 _ (by decide),a2 _ (by decide)];exact q1
 ·rw[a6 _ (by decide),a5 _ (by decide),a4 _ (by decide)];exact q32
 ·rw[a6 _ (by decide),a5 _ (by decide),a4 _ (by decide)];exact q3
 ·rw[a6 _ (by decide),a5 _ (by decide)];exact q4
 ·rw[a6 _ (by decide)];exact q5
 ·unfold D2;rw[aB yi];exact sA _ _ (c5 _ _ yi hC)
 ·unfold D2;rw[aB xa];exact sA _ _ um
 ·unfold D2;rw[aB nhx];exact sA _ _ hH9
 ·unfold D3;rw[aB nfx];exact sA _ _ hF9
 ·unfold D3;rw[aB nnx];exact sA _ _ hN9
 ·simp only[dc,ak,dq,or_false,not_or,not_false_eq_true,nodup_nil,and_true];exact⟨⟨ncd,yj,ncf,ncn,ncg⟩,⟨ndh,ndf,ndn,ndg⟩,⟨nhf,nhn,nhg⟩,⟨nfn,nfg⟩,nng⟩
abbrev s_rt:Stmt:=(top 75)
theorem sc_rt:aL ["t"] ["t"] (aH s_rt):=fS
structure AL(h:List Nat)(R:Addr)(H:Hp)(x:Addr):Prop where
 ex:∃dx fs dA hA fA ht,H x=some (.ins R dx fs)/\fs.lookup ("depths" : Str)=some (.ref dA)/\fs.lookup ("heights" : Str)=some (.ref hA)/\fs.lookup ("facings" : Str)=some (.ref fA)/\R2 H dA (IV (RM.bT h))/\R2 H hA (IV ht)/\RM.AO h ht/\R3 H fA (IV (RM.dZ h))
theorem AL.mono{h:List Nat}{R:Addr}{H H':Hp}{x:Addr}(r:AL h R H x)(e:a9 H H'):AL h R H' x:=
 let⟨dx,fs,dA,hA,fA,ht,h1,q1,q2,q3,h2,h3,h4,h5⟩:=r.ex
 ⟨dx,fs,dA,hA,fA,ht,e _ _ h1,q1,q2,q3,h2.mono e,h3.mono e,h4,h5.mono e⟩
theorem mY.l{C:List (Nat×Nat)}{R:Addr}{H:Hp}{x cA dA hA fA nA gA:Addr}{ht:List (PI×Int)}{Ns:List (List PI3)}(r:mY C R H x cA dA hA fA nA gA ht Ns):AL (Roof.halvesOf C) R H x:=
 let⟨dx,fs,h1,_,q2,q3,q4,_⟩:=r.ins
 ⟨dx,fs,dA,hA,fA,ht,h1,q2,q3,q4,r.NC.rd,r.KN.rd,r.hok,r.KW.rd⟩
noncomputable def sp_rt(K:W.Frag)(d:Adr):Sp:=fun vs H Q E=>∃(a:Addr)(ns:List Int),vs=[.ref a]/\SqL K H a (ns.map V.int)/\ns.length<=4096/\RM.inB ns/\(∀F,Roof.houseOf (RoofBNeutral.text ns)=some (RM.aR F)->Roof.isHouse (RM.aR F)=true->∀x cA dA hA fA nA gA ht Ns H',a9 H H'->mY (RM.aR F) d.Roof H' x cA dA hA fA nA gA ht Ns->Q (.ref x) H')/\(Roof.houseOf (RoofBNeutral.text ns)=none->E (.ref d.bW) none H)
theorem ok_rt(F:Fun K "roof_told" "roof_told" s_rt f fd)(T:Txt K mg base d)(D_ht:aP P w K mg base CXf 6 "house_told" ["t"] (sp_ht K d)){fI:Addr}{fdI:FuncData}(mv:Mk K d.Roof fI)(D_i:bI P w K mg base CX0 7 fI fdI ["self","cells"] (sp_i K d))(Dk:Binds K fdI ["self","cells"] []):bI P w K mg base CXf 9 f fd ["t"] (sp_rt K d):=by
 refine okX F sc_rt (fun vs H Q E h=>by obtain⟨a,ns,rfl,_⟩:=h;rfl) (fun _ _ _ _ H _ Q E hr hok h=>?_);have hu:=bE hr;obtain⟨a,ns,rfl,hS,hl,hB,k1,k2⟩:=h;refine⟨_,(aD (aQ (JV mv D_i (hm hr) rfl T.N6 Dk .nil aU (a7 (aS D_ht (hm hr) (yR hok) rfl (a7 (pv 0) aC)) aC)))),?_⟩;refine⟨_,rfl,a,ns,rfl,hS,hl,hB,fun F hF hH cA H1 s1 fc hC=>?_,k2⟩;obtain⟨mz,qx,jn⟩:=iL hH;refine fun x dx nx xa nex=>?_
 have hxx:(upd (upd H1 dx (.own x)) x (.ins d.Roof dx [])) x=some (.ins d.Roof dx []):=a8;refine⟨x,dx,cA,RM.aR F,rfl,hxx,by unfold D2;rw[aB (aJ hC nx),aB (aJ hC xa)];exact hC,rB F,fun c hc=>⟨(RM.gW.mp hc).1,(RM.gW.mp hc).2.1⟩,mz,jn,fun dA hA fA nA gA ht Ns H2 kp ra=>⟨rfl,k1 F hF hH x cA dA hA fA nA gA ht Ns H2 (a9.trans s1 (a9.made nx xa kp)) ra⟩⟩
abbrev s_c:Stmt:=(top 78)
theorem sc_c:aL ["rows","answer","row"] ["rows"] (aH s_c):=fS
noncomputable def sp_c(K:W.Frag)(d:Adr):Sp:=fun vs H Q _=>∃(a:Addr)(ps:List PI),vs=[.ref a]/\LT H (.ref a) ps/\ps.length<=20000/\∀r H',a9 H H'->H r=none->H' r=some (.lst ((((ps.map fun q=>[q.1,q.2]).length:Int)::(ps.map fun q=>[q.1,q.2]).flatten).map V.int))->Q (.ref r) H'
theorem ok_c(F:Fun K "counted" "counted" s_c f fd)(T:Txt K mg base d):bI P w K mg base CX0 1 f fd ["rows"] (sp_c K d):=by
 refine F.ok sc_c (fun vs H Q E h=>by obtain⟨a,ps,rfl,_⟩:=h;rfl) (fun _ _ _ _ H _ Q E hr h=>?_);have hu:=bE hr;obtain⟨a,ps,rfl,⟨_,xs,e,ha,pr⟩,hl,k⟩:=h;cases e;have lx:=pairs_len pr;refine⟨_,(aA (psN (i:=1) sc_c.nd (fF (a7 (bM bS (by rfl) T.len PySem.boot_len (a7 (pv 0) aC)) aC)))
   (aA (bO PassesOwn.never rfl (dH (pv 0)) (pgN (i:=2) sc_c.nd) (aD (cW (hO PySem.F.plainAttrs_list PySem.F.slot_list_extend PySem.F.type_list_extend BL (pv 1) (a7 (pv 2) aC)))))
   (aD (aQ (pv 1))))),?_⟩
 have tf:∀i,((ps.take i).map fun q=>[q.1,q.2]).flatten.length<=2*ps.length:=fun i=>by
  have:∀l:List PI,(l.map fun q=>[q.1,q.2]).flatten.length=2*l.length:=fun l=>by
   induction l with
   |nil=>rfl
   |cons p l ih=>rw[bh,ja,aj,ih];simp only[bo,dv];omega
  rw[this,bu];omega
 refine⟨_,rfl,a,_,rfl,.inl (SqL.of ha),(by show 1<=sizeLine;decide),fun l qk=>?_⟩;have s1:a9 H (upd H l (.lst [.int (xs.length:Int)])):=a9.upd qk;have tu:(upd H l (.lst [.int (xs.length:Int)])) l=some (.lst [.int (xs.length:Int)]):=a8;generalize (upd H l (.lst [.int (xs.length:Int)]))=H1 at s1 tu ⊢;refine⟨_,rfl,a,rfl,⟨_,SqL.of (s1 _ _ ha)⟩,gU (K:=K) (a:=a) (xs:=xs) (fun i σ H2=>∃(v2:Option V),σ=[some (.ref a),some (.ref l),v2]/\a9 H H2/\H2 l=some (.lst ((((ps.map fun q=>[q.1,q.2]).length:Int)::((ps.take i).map fun q=>[q.1,q.2]).flatten).map V.int))) ⟨none,rfl,s1,by rw[tu,lx,ai];rfl⟩ (fun i σ H2 _ ⟨_,_,s2,_⟩=>s2.seq (SqL.of ha)) ?_ ?_⟩
 ·rintro i v σ H2 hv ⟨v2,rfl,s2,h2⟩;obtain⟨p,hr,⟨b,rfl,hb⟩⟩:=pairs_at pr hv;have et:((ps.take (i+1)).map fun q=>[q.1,q.2]).flatten=((ps.take i).map fun q=>[q.1,q.2]).flatten++[p.1,p.2]:=by rw[RM.take_snoc hr,cf,gw];simp
  have h1:=tf (i+1);rw[et,aj]at h1;refine⟨_,rfl,.inl ⟨rfl,_,SqL.of h2⟩,_,rfl,l,b,_,_,rfl,rfl,h2,s2 _ _ hb,?_,_,rfl,a9.put s2 qk,?_⟩
  ·rw[ai,bo];have h0:=tf i;exact le_of_lt (few (m:=50002) (by show _+1+2<=_;omega))
  ·rw[a8,et];simp
 ·rintro σ H2 ⟨v2,rfl,s2,h2⟩;rw[lx,bg (au _)]at h2;exact⟨_,rfl,k l H2 s2 qk h2⟩
abbrev s_rwf:Stmt:=(top 76)
theorem sc_rwf:aL ["k","t","told"] ["k","t"] (aH s_rwf):=fS
noncomputable def sp_rwf(K:W.Frag)(d:Adr):Sp:=fun vs H Q E=>∃(k:Int)(a:Addr)(ns:List Int),vs=[.int k,.ref a]/\SqL K H a (ns.map V.int)/\ns.length<=4096/\RM.inB ns/\(Roof.houseOf (RoofBNeutral.text ns)=none->E (.ref d.bW) none H)/\∀F,Roof.houseOf (RoofBNeutral.text ns)=some (RM.aR F)->Roof.isHouse (RM.aR F)=true->∀x cA dA hA fA nA gA ht Ns H',a9 H H'->mY (RM.aR F) d.Roof H' x cA dA hA fA nA gA ht Ns->((Ns.length:Int)<=k->E (.ref d.fB) none H)/\(k<(Ns.length:Int)->Q (.ref x) H')
theorem ok_rwf(F:Fun K "roof_with_face" "roof_with_face" s_rwf f fd)(T:Txt K mg base d)(D_rt:aP P w K mg base CXf 9 "roof_told" ["t"] (sp_rt K d)):bI P w K mg base CXf 10 f fd ["k","t"] (sp_rwf K d):=by
 refine okX F sc_rwf (fun vs H Q E h=>by obtain⟨k,a,ns,rfl,_⟩:=h;rfl) (fun _ _ _ _ H _ Q E hr hok h=>?_);have hu:=bE hr;obtain⟨k,a,ns,rfl,hS,hl,hB,k1,k2⟩:=h;refine⟨_,(aA (psN (i:=2) sc_rwf.nd (aS D_rt (hm hr) (yR hok) rfl (a7 (pv 1) aC)))
   (aA (cD (bU OF (pv 0) (bM bS (by rfl) T.len PySem.boot_len (a7 (gQ (pv 2) rfl) aC)) (c8 _)) (aD (dG hok PySem.F.excBase_Exception T.HL rfl)) bB)
   (aD (aQ (pv 2))))),?_⟩
 refine⟨_,rfl,a,ns,rfl,hS,hl,hB,fun F hF hH x cA dA hA fA nA gA ht Ns H1 s1 ra=>?_,k1⟩;obtain⟨k3,k4⟩:=k2 F hF hH x cA dA hA fA nA gA ht Ns H1 s1 ra;obtain⟨dx,fs,hx,q1,q2,q3,q4,q5,q6⟩:=ra.ins;obtain⟨bs,hg,pr⟩:=ra.faces;refine⟨_,rfl,_,rfl,x,d.Roof,dx,fs,_,rfl,hx,T.cQ,T.x9,q6,gA,_,rfl,.inl (SqL.of hg),_,_,rfl,rfl,_,rfl,?_⟩;rw[ai,pairs_len pr];refine bY (fun c=>k3 (ba c)) (fun c=>⟨_,rfl,k4 ?_⟩);have:¬((Ns.length:Int)<=k):=fun z=>c (decide_eq_true z)
 omega
abbrev s_nsah:Stmt:=(top 49)
theorem sc_nsah:aL ["half","depth","reach"] ["half","depth"] (aH s_nsah):=fS
abbrev SQ:=PI×PI
def kq(s:SQ):List NK:=[.inr [s.1.1,s.1.2],.inr [s.2.1,s.2.2]]
theorem BV{s t:SQ}(h:kq s=kq t):s=t:=by obtain⟨⟨a,b⟩,c,d⟩:=s;obtain⟨⟨a',b'⟩,c',d'⟩:=t;simp[kq]at h;obtain⟨⟨rfl,rfl⟩,rfl,rfl⟩:=h;rfl
noncomputable def TQ(H:Hp)(r:Addr)(s:SQ):Prop:=∃a b,H r=some (.tup [.ref a,.ref b])/\T2 H (.ref a) s.1/\T2 H (.ref b) s.2
theorem TQ.nt{H:Hp}{r:Addr}{s:SQ}(h:TQ H r s):rK H (kq s) r:=by obtain⟨a,b,h1,⟨_,e,h2⟩,⟨_,e',h3⟩⟩:=h;cases e;cases e';exact⟨_,h1,.cons ⟨a,rfl,h2⟩ (.cons ⟨b,rfl,h3⟩ .nil)⟩
theorem rK.tq{H:Hp}{r:Addr}{s:SQ}(h:rK H (kq s) r):TQ H r s:=by
 obtain⟨vs,h1,p⟩:=h;cases p with
 |cons p1 p=>
  cases p with
  |cons p2 p=>cases p;obtain⟨a,rfl,ha⟩:=p1;obtain⟨b,rfl,hb⟩:=p2;exact⟨a,b,h1,⟨a,rfl,ha⟩,⟨b,rfl,hb⟩⟩
noncomputable def sp_nsah(K:W.Frag)(d:Adr):Sp:=fun vs H Q _=>∃(v:V)(p:PI)(z:Int),vs=[v,.int z]/\C2 K H v p/\∀r H',a9 H H'->TQ H' r ((p.1 - (z+1),p.2 - (z+1)),(p.1+(z+1),p.2+(z+1)))->Q (.ref r) H'
theorem ok_nsah(F:Fun K "next_square_about_half" "next_square_about_half" s_nsah f fd)(T:Txt K mg base d):bI P w K mg base CX0 1 f fd ["half","depth"] (sp_nsah K d):=by
 refine F.ok sc_nsah (fun vs H Q E h=>by obtain⟨v,p,z,rfl,_⟩:=h;rfl) (fun _ _ _ _ H _ Q E hr h=>?_);have hu:=bE hr;obtain⟨v,p,z,rfl,⟨a,rfl,ha⟩,k⟩:=h;refine⟨_,(aA (psN (i:=2) sc_nsah.nd (cK eB (pv 1) aM))
   (aD (aQ (cJ (a7 (cJ (a7 (cK pN (bK bG (pv 0) aM (fun _ _=>rfl)) (pv 2)) (a7 (cK pN (bK bG (pv 0) aM (fun _ _=>rfl)) (pv 2)) aC))) (a7 (cJ (a7 (cK eB (bK bG (pv 0) aM (fun _ _=>rfl)) (pv 2)) (a7 (cK eB (bK bG (pv 0) aM (fun _ _=>rfl)) (pv 2)) aC))) aC)))))),?_⟩
 refine⟨_,rfl,_,_,rfl,rfl,_,rfl,a,_,_,_,rfl,rfl,ha,aX (by decide) rfl,_,rfl,_,_,rfl,rfl,_,rfl,a,_,_,_,rfl,rfl,ha,aX (by decide) rfl,_,rfl,_,_,rfl,rfl,(by show 2<=sizeLine;decide),fun t1 h1=>?_⟩;have s1:a9 H (upd H t1 (.tup [.int (p.1 - (z+1)),.int (p.2 - (z+1))])):=a9.upd h1;have k1:T2 (upd H t1 (.tup [.int (p.1 - (z+1)),.int (p.2 - (z+1))])) (.ref t1) (p.1 - (z+1),p.2 - (z+1)):=⟨t1,rfl,a8⟩;generalize (upd H t1 (.tup [.int (p.1 - (z+1)),.int (p.2 - (z+1))]))=H1 at s1 k1 ⊢;have Cu:=a9.sqT s1 ha;refine⟨_,rfl,a,_,_,_,rfl,rfl,Cu,aX (by decide) rfl,_,rfl,_,_,rfl,rfl,_,rfl,a,_,_,_,rfl,rfl,Cu,aX (by decide) rfl,_,rfl,_,_,rfl,rfl,(by show 2<=sizeLine;decide),fun t2 h2=>?_⟩;have s2:a9 H1 (upd H1 t2 (.tup [.int (p.1+(z+1)),.int (p.2+(z+1))])):=a9.upd h2;have k2:T2 (upd H1 t2 (.tup [.int (p.1+(z+1)),.int (p.2+(z+1))])) (.ref t2) (p.1+(z+1),p.2+(z+1)):=⟨t2,rfl,a8⟩;generalize (upd H1 t2 (.tup [.int (p.1+(z+1)),.int (p.2+(z+1))]))=H2 at s2 k2 ⊢;refine⟨by show 2<=sizeLine;decide,fun r hr=>?_⟩;have s3:a9 H2 (upd H2 r (.tup [.ref t1,.ref t2])):=a9.upd hr;exact k r _ (a9.trans s1 (a9.trans s2 s3)) ⟨t1,t2,a8,(k1.mono s2).mono s3,k2.mono s3⟩
abbrev s_nsap:Stmt:=(top 50)
theorem sc_nsap:aL ["point","height","reach"] ["point","height"] (aH s_nsap):=fS
noncomputable def sp_nsap(K:W.Frag)(d:Adr):Sp:=fun vs H Q _=>∃(v:V)(p:PI)(z:Int),vs=[v,.int z]/\C2 K H v p/\∀r H',a9 H H'->TQ H' r ((p.1 - (z+1),p.2 - (z+1)),(p.1+z,p.2+z))->Q (.ref r) H'
theorem ok_nsap(F:Fun K "next_square_about_point" "next_square_about_point" s_nsap f fd)(T:Txt K mg base d):bI P w K mg base CX0 1 f fd ["point","height"] (sp_nsap K d):=by
 refine F.ok sc_nsap (fun vs H Q E h=>by obtain⟨v,p,z,rfl,_⟩:=h;rfl) (fun _ _ _ _ H _ Q E hr h=>?_);have hu:=bE hr;obtain⟨v,p,z,rfl,⟨a,rfl,ha⟩,k⟩:=h;refine⟨_,(aA (psN (i:=2) sc_nsap.nd (cK eB (pv 1) aM))
   (aD (aQ (cJ (a7 (cJ (a7 (cK pN (bK bG (pv 0) aM (fun _ _=>rfl)) (pv 2)) (a7 (cK pN (bK bG (pv 0) aM (fun _ _=>rfl)) (pv 2)) aC))) (a7 (cJ (a7 (cK eB (bK bG (pv 0) aM (fun _ _=>rfl)) (pv 1)) (a7 (cK eB (bK bG (pv 0) aM (fun _ _=>rfl)) (pv 1)) aC))) aC)))))),?_⟩
 refine⟨_,rfl,_,_,rfl,rfl,_,rfl,a,_,_,_,rfl,rfl,ha,aX (by decide) rfl,_,rfl,_,_,rfl,rfl,_,rfl,a,_,_,_,rfl,rfl,ha,aX (by decide) rfl,_,rfl,_,_,rfl,rfl,(by show 2<=sizeLine;decide),fun t1 h1=>?_⟩;have s1:a9 H (upd H t1 (.tup [.int (p.1 - (z+1)),.int (p.2 - (z+1))])):=a9.upd h1;have k1:T2 (upd H t1 (.tup [.int (p.1 - (z+1)),.int (p.2 - (z+1))])) (.ref t1) (p.1 - (z+1),p.2 - (z+1)):=⟨t1,rfl,a8⟩;generalize (upd H t1 (.tup [.int (p.1 - (z+1)),.int (p.2 - (z+1))]))=H1 at s1 k1 ⊢;have Cu:=a9.sqT s1 ha;refine⟨_,rfl,a,_,_,_,rfl,rfl,Cu,aX (by decide) rfl,_,rfl,_,_,rfl,rfl,_,rfl,a,_,_,_,rfl,rfl,Cu,aX (by decide) rfl,_,rfl,_,_,rfl,rfl,(by show 2<=sizeLine;decide),fun t2 h2=>?_⟩;have s2:a9 H1 (upd H1 t2 (.tup [.int (p.1+z),.int (p.2+z)])):=a9.upd h2;have k2:T2 (upd H1 t2 (.tup [.int (p.1+z),.int (p.2+z)])) (.ref t2) (p.1+z,p.2+z):=⟨t2,rfl,a8⟩;generalize (upd H1 t2 (.tup [.int (p.1+z),.int (p.2+z)]))=H2 at s2 k2 ⊢;refine⟨by show 2<=sizeLine;decide,fun r hr=>?_⟩;have s3:a9 H2 (upd H2 r (.tup [.ref t1,.ref t2])):=a9.upd hr;exact k r _ (a9.trans s1 (a9.trans s2 s3)) ⟨t1,t2,a8,(k1.mono s2).mono s3,k2.mono s3⟩
abbrev s_nso:Stmt:=(top 51)
theorem sc_nso:aL ["face","roof","squares","i","j","side","half","point"] ["face","roof"] (aH s_nso):=fS
theorem xC{f:Addr}{ks:NL}:∀ys,nO f ks≠ .tup ys:=fun ys z=>by unfold nO at z;cases z
theorem HM{S:List Bool}{H:Hp}{f b:Addr}{ks:NL}{k:List NK}(hD:H f=some (nO f ks))(n:NS S H f ks)(t:rK H k b)(sk:k.map Sum.isLeft=S)(hl:ks.length<sizeLine):NS S (upd H f (nO f (j2 ks k b))) f (j2 ks k b):=(n.put t sk hl).mono (nF hD xC)
noncomputable def sp_nso(K:W.Frag)(d:Adr):Sp:=fun vs H Q _=>∃(b x:Addr)(N:List PI3)(h:List Nat),vs=[.ref b,.ref x]/\LS H b N/\AL h d.Roof H x/\(∀t∈N,0<=t.2.2/\t.2.2<4/\(t.1,t.2.1)∈h.map RM.hP)/\N.length<=4096/\∀r xs H',a9 H H'->H r=none->H' r=some (nO r xs)->NS [false,false] H' r xs->(∀y∈xs,∃t∈N,∃s∈RM.sq3 h t,y.1=kq s)->(∀t∈N,∀s∈RM.sq3 h t,kq s∈xs.map (·.1))->xs.length<=12288->Q (.ref r) H'
theorem ok_nso(F:Fun K "next_squares_over" "next_squares_over" s_nso f fd)(T:Txt K mg base d)(D_nsah:aP P w K mg base CX0 1 "next_square_about_half" ["half","depth"] (sp_nsah K d))(D_se:aP P w K mg base CX0 3 "side_end" ["square","side"] (sp_se K d))(D_ss:aP P w K mg base CX0 2 "side_start" ["square","side"] (sp_ss K d))(D_nsap:aP P w K mg base CX0 1 "next_square_about_point" ["point","height"] (sp_nsap K d)):bI P w K mg base CX0 4 f fd ["face","roof"] (sp_nso K d):=by
 refine F.ok sc_nso (fun vs H Q E h=>by obtain⟨b,x,N,h,rfl,_⟩:=h;rfl) (fun _ _ _ _ H _ Q E hr h=>?_);have hu:=bE hr;obtain⟨b,x,N,h,rfl,⟨xs,hb,pr⟩,hx,hs,hl,k⟩:=h;obtain⟨dx,fs,dA,hA,fA,ht,x1,x2,x3,x4,x5,x6,x7,x8⟩:=hx.ex;have lx:=pairs_len pr;refine⟨_,(aA (psN (i:=2) sc_nso.nd JT)
   (aA (bO PassesOwn.never rfl (dH (pv 0)) (kM rfl (bL (pgN (i:=3) sc_nso.nd) (bL (pgN (i:=4) sc_nso.nd) (bL (pgN (i:=5) sc_nso.nd) hJ)))) (aA (psN (i:=6) sc_nso.nd (cJ (a7 (pv 3) (a7 (pv 4) aC))))
   (aA (D7 (S:=[false,false]) (C1 hr) (pv 2) (aS D_nsah (hm hr) aU rfl (a7 (pv 6) (a7 (lV hu (gQ (pv 1) rfl) (pv 6) (fun _ _=>rfl)) aC))) g8 rfl)
   (aD (bO PassesOwn.never rfl (iE (cJ (a7 (aS D_ss (hm hr) aU rfl (a7 (pv 6) (a7 (pv 5) aC))) (a7 (aS D_se (hm hr) aU rfl (a7 (pv 6) (a7 (pv 5) aC))) aC)))) (pgN (i:=7) sc_nso.nd) (aD (D7 (S:=[false,false]) (C1 hr) (pv 2) (aS D_nsap (hm hr) aU rfl (a7 (pv 7) (a7 (lV hu (gQ (pv 1) rfl) (pv 7) (fun _ _=>rfl)) aC))) g8 rfl)))))))
   (aD (aQ (pv 2))))),?_⟩
 refine fun f hf hsm=>?_
 have s1:a9 H (upd H f (nO f [])):=a9.upd hf;let p1:List NK×Addr->List NK:=fun y=>y.1
 refine⟨_,rfl,b,rfl,⟨_,SqL.of (s1 _ _ hb)⟩,gU (K:=K) (a:=b) (xs:=xs)
  (fun i σ H2=>∃(ks:NL)(v3 v4 v5 v6 v7:Option V),σ=[some (.ref b),some (.ref x),some (.ref f),v3,v4,v5,v6,v7]/\a9 H H2/\H2 f=some (nO f ks)/\NS [false,false] H2 f ks/\ks.length<=3*i/\(∀y∈ks,∃t∈N,∃s∈RM.sq3 h t,y.1=kq s)/\(∀t∈N.take i,∀s∈RM.sq3 h t,kq s∈ks.map p1))
  ⟨[],none,none,none,none,none,rfl,s1,a8,⟨hsm,bz _,nodup_nil,fun y hy=>(by cases hy)⟩,bz _,(fun y hy=>(by cases hy)),fun t ht=>(by rw[take_zero]at ht;cases ht)⟩ (fun i σ H2 _ ⟨_,_,_,_,_,_,_,s2,_⟩=>s2.seq (SqL.of hb)) ?_ ?_⟩
 ·rintro i v σ H2 hv ⟨ks,v3,v4,v5,v6,v7,rfl,s2,hD,ns,qe,m1,m2⟩;obtain⟨t,su,⟨q,rfl,hq⟩⟩:=pairs_at pr hv;have ql:=tO su;have tN:=ay su;obtain⟨t0,t4,mem⟩:=hs t tN;have en:t.2.2=((t.2.2.toNat:Nat):Int):=(gi t0).symm;have hq:=s2 _ _ hq;refine⟨q,_,rfl,SqT.of hq,rfl,_,_,rfl,_,_,rfl,_,_,rfl,rfl,?_⟩;refine⟨_,rfl,_,rfl,(by show 2<=sizeLine;decide),fun t1 h1=>?_⟩;have s3:a9 H2 (upd H2 t1 (.tup [.int t.1,.int t.2.1])):=a9.upd h1;have k1:(upd H2 t1 (.tup [.int t.1,.int t.2.1])) t1=some (.tup [.int t.1,.int t.2.1]):=a8;generalize (upd H2 t1 (.tup [.int t.1,.int t.2.1]))=H3 at s3 k1 ⊢;have sH3:=a9.trans s2 s3;have gD:=(x5.mono sH3).get (p:=(t.1,t.2.1)) k1;rw[iS,RM.FL mem]at gD;refine⟨_,rfl,_,rfl,_,rfl,x,d.Roof,dx,fs,_,rfl,sH3 _ _ x1,T.cQ,T.nW,x2,_,rfl,dA,_,rfl,gD,.ref t1,(t.1,t.2.1),_,rfl,⟨t1,rfl,SqT.of k1⟩,fun r H4 s4 tq=>?_⟩;have yc:=a9.trans s3 s4;have sH4:=a9.trans s2 yc;have ka:=yc _ _ hD;have ns4:=ns.mono (fun b ys z=>yc b _ z);have lk:ks.length<sizeLine:=few (m:=13000) (by omega);have tq:TQ H4 r (RM.sqH h (t.1,t.2.1)):=tq;refine⟨f,r,kq (RM.sqH h (t.1,t.2.1)),ks,rfl,rfl,rfl,ka,ns4,TQ.nt tq,rfl,lk,?_⟩;have ns5:=HM (b:=r) ka ns4 (TQ.nt tq) rfl lk;have k5:(upd H4 f (nO f (j2 ks (kq (RM.sqH h (t.1,t.2.1))) r))) t1=some (.tup [.int t.1,.int t.2.1]):=nF ka xC _ _ (s4 _ _ k1);have s5:a9 H (upd H4 f (nO f (j2 ks (kq (RM.sqH h (t.1,t.2.1))) r))):=a9.put sH4 hf
  have kh:(upd H4 f (nO f (j2 ks (kq (RM.sqH h (t.1,t.2.1))) r))) f=some (nO f (j2 ks (kq (RM.sqH h (t.1,t.2.1))) r)):=a8;have l5:=zA ks (kq (RM.sqH h (t.1,t.2.1))) r;have m15:∀y∈j2 ks (kq (RM.sqH h (t.1,t.2.1))) r,∃t∈N,∃s∈RM.sq3 h t,y.1=kq s:=fun y hy=>by
   rcases(gS _ _ _ _).mp (ax.mpr ⟨y,hy,rfl⟩)with z|z
   ·obtain⟨y',qt,e⟩:=ax.mp z;obtain⟨t,h1,s,h2,h3⟩:=m1 y' qt;exact⟨t,h1,s,h2,by rw[<- h3];exact e.symm⟩
   ·exact⟨t,tN,_,bb,z⟩
  have m25:∀t'∈N.take i,∀s∈RM.sq3 h t',kq s∈(j2 ks (kq (RM.sqH h (t.1,t.2.1))) r).map p1:=fun t' ht s hs=>(gS _ _ _ _).mpr (.inl (m2 t' ht s hs))
  have m35:kq (RM.sqH h (t.1,t.2.1))∈(j2 ks (kq (RM.sqH h (t.1,t.2.1))) r).map p1:=(gS _ _ _ _).mpr (.inr rfl);generalize j2 ks (kq (RM.sqH h (t.1,t.2.1))) r=ks5 at ns5 k5 s5 kh l5 m15 m25 m35 ⊢;generalize (upd H4 f (nO f ks5))=H5 at ns5 k5 s5 kh ⊢;refine⟨_,rfl,_,rfl,.ref t1,(t.1,t.2.1),t.2.2.toNat,congrArg (fun z=>[V.ref t1,V.int z]) en,⟨t1,rfl,SqT.of k5⟩,by omega,fun n1 H6 s6 tn1=>?_⟩;refine⟨_,rfl,_,rfl,.ref t1,(t.1,t.2.1),t.2.2.toNat,congrArg (fun z=>[V.ref t1,V.int z]) en,⟨t1,rfl,SqT.of (s6 _ _ k5)⟩,by omega,fun n2 H7 s7 tn2=>?_⟩;refine⟨by show 2<=sizeLine;decide,fun L hL=>?_⟩;have s8:a9 H7 (upd H7 L (.tup [n1,n2])):=a9.upd hL;have hLL:(upd H7 L (.tup [n1,n2])) L=some (.tup [n1,n2]):=a8;have tn1:=(tn1.mono s7).mono s8;have tn2:=tn2.mono s8;generalize (upd H7 L (.tup [n1,n2]))=H8 at s8 hLL tn1 tn2 ⊢;have s58:=a9.trans s6 (a9.trans s7 s8);have at1:∀(j:Nat)(v:V),([n1,n2]:List V)[j]? =some v->∃n:Nat,n<5/\T2 H8 v (RM.aF (t.1,t.2.1) n)/\(RM.sq3 h t)[1+j]? =some (RM.sqP h (RM.aF (t.1,t.2.1) n))/\j<2:=by
   intro j v e;match j,e with
   |0,e=>cases e;exact⟨_,by omega,tn1,rfl,by decide⟩
   |1,e=>cases e;exact⟨_,by omega,tn2,rfl,by decide⟩
   |j+2,e=>cases e
  refine⟨L,rfl,⟨_,SqT.of hLL⟩,gF (K:=K) (a:=L) (xs:=[n1,n2])
   (fun j σ H9=>∃(ks:NL)(v7:Option V),σ=[some (.ref b),some (.ref x),some (.ref f),some (.int t.1),some (.int t.2.1),some (.int t.2.2),some (.ref t1),v7]/\a9 H H9/\(∀c ys,H8 c=some (.tup ys)->H9 c=some (.tup ys))/\H9 f=some (nO f ks)/\NS [false,false] H9 f ks/\ks.length<=3*i+1+j/\(∀y∈ks,∃t∈N,∃s∈RM.sq3 h t,y.1=kq s)/\(∀t'∈N.take i,∀s∈RM.sq3 h t',kq s∈ks.map p1)/\∀s∈(RM.sq3 h t).take (1+j),kq s∈ks.map p1)
   ⟨ks5,v7,rfl,a9.trans s5 s58,fun _ _ z=>z,s58 _ _ kh,ns5.mono (fun b ys z=>s58 b _ z),by omega,m15,m25,fun s hs=>(by have:=fm.mp hs;rw[this];exact m35)⟩ (fun j σ H9 _ ⟨_,_,_,_,tp,_⟩=>SqT.of (tp _ _ hLL)) ?_ ?_⟩
  ·rintro j v σ H9 hv ⟨ks9,v7',rfl,s9,tp,um,ns9,l9,a1,a2,a3⟩;obtain⟨n,hn,⟨va,rfl,vj⟩,h3,hj⟩:=at1 j v hv;have vj:=tp _ _ vj;have g3:=(x6.mono s9).get (p:=RM.aF (t.1,t.2.1) n) vj;rw[iS,x7.at mem hn]at g3;refine⟨_,rfl,_,rfl,_,rfl,x,d.Roof,dx,fs,_,rfl,s9 _ _ x1,T.cQ,T.pO,x3,_,rfl,hA,_,rfl,g3,.ref va,RM.aF (t.1,t.2.1) n,_,rfl,⟨va,rfl,SqT.of vj⟩,fun r H10 zu tq=>?_⟩;have qm:=zu _ _ um;have Bc:=ns9.mono (fun b ys z=>zu b _ z);have lk:ks9.length<sizeLine:=few (m:=13000) (by omega);have l10:=zA ks9 (kq (RM.sqP h (RM.aF (t.1,t.2.1) n))) r;have tq:TQ H10 r (RM.sqP h (RM.aF (t.1,t.2.1) n)):=tq;refine⟨f,r,kq (RM.sqP h (RM.aF (t.1,t.2.1) n)),ks9,rfl,rfl,rfl,qm,Bc,TQ.nt tq,rfl,lk,j2 ks9 (kq (RM.sqP h (RM.aF (t.1,t.2.1) n))) r,_,rfl,a9.put (a9.trans s9 zu) hf,fun c ys z=>nF qm xC _ _ (zu _ _ (tp _ _ z)),a8,HM qm Bc (TQ.nt tq) rfl lk,by omega,fun y hy=>?_,fun t' ht s hs=>(gS _ _ _ _).mpr (.inl (a2 t' ht s hs)),fun s hs=>?_⟩
   ·rcases(gS _ _ _ _).mp (ax.mpr ⟨y,hy,rfl⟩)with z|z
    ·obtain⟨y',qt,e⟩:=ax.mp z;obtain⟨t,h1,s,h2,h3⟩:=a1 y' qt;exact⟨t,h1,s,h2,by rw[<- h3];exact e.symm⟩
    ·exact⟨t,tN,_,ay h3,z⟩
   ·rw[show 1+(j+1)=1+j+1 from rfl,RM.take_snoc h3]at hs;rcases aw.mp hs with hs|hs
    ·exact(gS _ _ _ _).mpr (.inl (a3 s hs))
    ·rw[fm.mp hs];exact(gS _ _ _ _).mpr (.inr rfl)
  ·rintro σ H9 ⟨ks9,v7',rfl,s9,tp,um,ns9,l9,a1,a2,a3⟩;refine⟨ks9,_,_,_,_,_,rfl,s9,um,ns9,by simp at l9;omega,a1,fun t' ht s hs=>?_⟩;rw[RM.take_snoc su]at ht;rcases aw.mp ht with ht|ht
   ·exact a2 t' ht s hs
   ·rw[fm.mp ht]at hs;exact a3 s hs
 ·rintro σ H2 ⟨ks,v3,v4,v5,v6,v7,rfl,s2,hD,ns,qe,m1,m2⟩;rw[lx,bg (au _)]at m2;rw[lx]at qe;exact⟨_,rfl,k f ks H2 s2 hf hD ns m1 m2 (by omega)⟩
abbrev s_cw:Stmt:=(top 52)
theorem sc_cw:aL ["low","high","cells","wanting","x","y"] ["low","high","cells"] (aH s_cw):=fS
noncomputable def sp_cw(K:W.Frag)(d:Adr):Sp:=fun vs H Q _=>∃(u v:V)(c:Addr)(s:PI×PI)(C:List (Nat×Nat)),vs=[u,v,.ref c]/\T2 H u s.1/\T2 H v s.2/\R2 H c (CS C)/\((-1000<=s.1.1/\s.1.1<=1000)/\(-1000<=s.1.2/\s.1.2<=1000)/\(-1000<=s.2.1/\s.2.1<=1000)/\-1000<=s.2.2/\s.2.2<=1000)/\(s.2.1/2+1 - s.1.1/2<=70/\s.2.2/2+1 - s.1.2/2<=70)/\∀r H',a9 H H'->H r=none->LT H' (.ref r) (RM.g7 (RM.iW C) s)->Q (.ref r) H'
theorem ok_cw(F:Fun K "cells_wanting" "cells_wanting" s_cw f fd)(T:Txt K mg base d):bI P w K mg base CX0 1 f fd ["low","high","cells"] (sp_cw K d):=by
 refine F.ok sc_cw (fun vs H Q E h=>by obtain⟨u,v,c,s,C,rfl,_⟩:=h;rfl) (fun _ _ _ _ H _ Q E hr h=>?_);have hu:=bE hr;obtain⟨u,v,c,s,C,rfl,⟨ua,rfl,hua⟩,⟨va,rfl,vj⟩,hC,⟨⟨z1,z2⟩,⟨z3,z4⟩,⟨z5,z6⟩,z7,z8⟩,⟨b1,b2⟩,k⟩:=h;refine⟨_,(aA (psN (i:=3) sc_cw.nd (fF aC))
   (aA (bO PassesOwn.never rfl (pK rfl T.range (a7 (cK rM (bK bG (pv 0) aM (fun _ _=>rfl)) aM) (a7 (cK eB (cK rM (bK bG (pv 1) aM (fun _ _=>rfl)) aM) aM) aC))) (pgN (i:=4) sc_cw.nd) (aD (bO PassesOwn.never rfl (pK rfl T.range (a7 (cK rM (bK bG (pv 0) aM (fun _ _=>rfl)) aM) (a7 (cK eB (cK rM (bK bG (pv 1) aM (fun _ _=>rfl)) aM) aM) aC))) (pgN (i:=5) sc_cw.nd) (aD (cD (dO (cG hu (cJ (a7 (pv 4) (a7 (pv 5) aC))) (pv 2))) (aD (cW (hO PySem.F.plainAttrs_list PySem.F.slot_list_append PySem.F.type_list_append cH (pv 3) (a7 (cJ (a7 (pv 4) (a7 (pv 5) aC))) aC)))) bB)))))
   (aD (aQ (pv 3))))),?_⟩
 refine⟨bz _,fun r hr=>?_⟩;have s1:a9 H (upd H r (.lst [])):=a9.upd hr;have hr1:(upd H r (.lst [])) r=some (.lst []):=a8;generalize (upd H r (.lst []))=H1 at s1 hr1 ⊢;have wl:∀(x b:Int)(n:Nat),(RM.iV (RM.iW C) x b n).length<=n:=fun x b n=>de (dk _ _) (by rw[ai,List.length_range];exact au _)
 have wn:∀m,RM.gZ (RM.iW C) (s.1.1/2) (s.1.2/2) (m+1) (s.2.2/2+1 - s.1.2/2).toNat=RM.gZ (RM.iW C) (s.1.1/2) (s.1.2/2) m (s.2.2/2+1 - s.1.2/2).toNat++RM.iV (RM.iW C) (s.1.1/2+(m:Int)) (s.1.2/2) (s.2.2/2+1 - s.1.2/2).toNat:=fun m=>by simp[RM.gZ,iz]
 have wnl:∀m,(RM.gZ (RM.iW C) (s.1.1/2) (s.1.2/2) m (s.2.2/2+1 - s.1.2/2).toNat).length<=70*m:=fun m=>by
  induction m with
  |zero=>exact au _
  |succ m ih=>rw[wn,aj];have:=wl (s.1.1/2+(m:Int)) (s.1.2/2) (s.2.2/2+1 - s.1.2/2).toNat;omega
 have wr:∀(x b:Int)(n:Nat),RM.iV (RM.iW C) x b (n+1)=RM.iV (RM.iW C) x b n++(if(x,b+(n:Int))∈RM.iW C then[]else[(x,b+(n:Int))]):=fun x b n=>by
  unfold RM.iV;rw[iz,cf,fk];congr 1;by_cases q:(x,b+(n:Int))∈RM.iW C
  ·rw[ah q];simp[q]
  ·rw[af q];simp[q]
 refine⟨_,rfl,ua,_,_,_,rfl,rfl,SqT.of (s1 _ _ hua),aX (by decide) rfl,_,_,rfl,rfl,⟨by decide,by decide⟩,_,rfl,va,_,_,_,rfl,rfl,SqT.of (s1 _ _ vj),aX (by decide) rfl,_,_,rfl,rfl,⟨by decide,by decide⟩,_,_,rfl,rfl,_,_,rfl,⟨by omega,by omega,by omega,by omega⟩,?_⟩;refine j6 (lo:=s.1.1/2) (n:=(s.2.1/2+1 - s.1.1/2).toNat) (fun m σ H2=>∃(xs:List V)(v4 v5:Option V),σ=[some (.ref ua),some (.ref va),some (.ref c),some (.ref r),v4,v5]/\a9 H H2/\H2 r=some (.lst xs)/\Paired (T2 H2) xs (RM.gZ (RM.iW C) (s.1.1/2) (s.1.2/2) m (s.2.2/2+1 - s.1.2/2).toNat))
  ⟨[],none,none,rfl,s1,hr1,.nil⟩ ?_ ?_
 ·rintro m σ H2 hm ⟨xs,v4,v5,rfl,s2,h2,pr⟩;refine⟨_,rfl,ua,_,_,_,rfl,rfl,SqT.of (s2 _ _ hua),aX (by decide) rfl,_,_,rfl,rfl,⟨by decide,by decide⟩,_,rfl,va,_,_,_,rfl,rfl,SqT.of (s2 _ _ vj),aX (by decide) rfl,_,_,rfl,rfl,⟨by decide,by decide⟩,_,_,rfl,rfl,_,_,rfl,⟨by omega,by omega,by omega,by omega⟩,?_⟩;have l0:=wnl m;refine j6 (lo:=s.1.2/2) (n:=(s.2.2/2+1 - s.1.2/2).toNat) (fun n σ H3=>∃(xs:List V)(v5:Option V),σ=[some (.ref ua),some (.ref va),some (.ref c),some (.ref r),some (.int (s.1.1/2+(m:Int))),v5]/\a9 H H3/\H3 r=some (.lst xs)/\Paired (T2 H3) xs (RM.gZ (RM.iW C) (s.1.1/2) (s.1.2/2) m (s.2.2/2+1 - s.1.2/2).toNat++RM.iV (RM.iW C) (s.1.1/2+(m:Int)) (s.1.2/2) n))
   ⟨xs,v5,rfl,s2,h2,by rw[show RM.iV (RM.iW C) (s.1.1/2+(m:Int)) (s.1.2/2) 0=[]from rfl,da];exact pr⟩ ?_ ?_
  ·rintro n σ H3 hn ⟨xs,v5,rfl,s3,h3,pr⟩;have lx:=pairs_len pr;have l1:=wl (s.1.1/2+(m:Int)) (s.1.2/2) n;rw[aj]at lx;refine⟨_,rfl,_,rfl,(by show 2<=sizeLine;decide),fun t1 h1=>?_⟩;have s4:a9 H3 (upd H3 t1 (.tup [.int (s.1.1/2+(m:Int)),.int (s.1.2/2+(n:Int))])):=a9.upd h1;have k1:(upd H3 t1 (.tup [.int (s.1.1/2+(m:Int)),.int (s.1.2/2+(n:Int))])) t1=some (.tup [.int (s.1.1/2+(m:Int)),.int (s.1.2/2+(n:Int))]):=a8;generalize (upd H3 t1 (.tup [.int (s.1.1/2+(m:Int)),.int (s.1.2/2+(n:Int))]))=H4 at s4 k1 ⊢;have yc:=a9.trans s3 s4;refine⟨_,rfl,c,_,rfl,R2.get (kvs:=CS C) (p:=(s.1.1/2+(m:Int),s.1.2/2+(n:Int))) (R2.mono yc hC) k1,_,rfl,?_⟩;rw[uB];refine bY (fun c1=>?_) (fun c1=>?_)
   ·have c1:¬(s.1.1/2+(m:Int),s.1.2/2+(n:Int))∈RM.iW C:=lX c1;have h4:=s4 _ _ h3;refine⟨_,rfl,.inl ⟨rfl,_,SqL.of h4⟩,_,rfl,_,rfl,(by show 2<=sizeLine;decide),fun t2 Bo=>?_⟩;have s5:a9 H4 (upd H4 t2 (.tup [.int (s.1.1/2+(m:Int)),.int (s.1.2/2+(n:Int))])):=a9.upd Bo;have k2:T2 (upd H4 t2 (.tup [.int (s.1.1/2+(m:Int)),.int (s.1.2/2+(n:Int))])) (.ref t2) (s.1.1/2+(m:Int),s.1.2/2+(n:Int)):=⟨t2,rfl,a8⟩;generalize (upd H4 t2 (.tup [.int (s.1.1/2+(m:Int)),.int (s.1.2/2+(n:Int))]))=H5 at s5 k2 ⊢;have h5:=s5 _ _ h4;refine⟨r,xs,.ref t2,rfl,rfl,h5,few (m:=5000) (by omega),xs++[.ref t2],_,rfl,a9.put (a9.trans yc s5) hr,a8,?_⟩;rw[wr,af c1,<- dz];exact b8 (k2.upd h5) (aK (fun _ _ z=>((z.mono s4).mono s5).upd h5) pr)
   ·have c1:(s.1.1/2+(m:Int),s.1.2/2+(n:Int))∈RM.iW C:=j3 c1;refine⟨xs,_,rfl,yc,s4 _ _ h3,?_⟩;rw[wr,ah c1,da];exact aK (fun _ _ z=>z.mono s4) pr
  ·rintro σ H3 ⟨xs,v5,rfl,s3,h3,pr⟩;refine⟨xs,_,_,rfl,s3,h3,?_⟩;rw[wn];exact pr
 ·rintro σ H2 ⟨xs,v4,v5,rfl,s2,h2,pr⟩;exact⟨_,rfl,k r H2 s2 hr ⟨r,xs,rfl,h2,pr⟩⟩
abbrev s_ctt:Stmt:=(top 53)
theorem sc_ctt:aL ["face","roof","touching","low","high","wanting"] ["face","roof"] (aH s_ctt):=fS
theorem GI{C:List (Nat×Nat)}(hb:∀c∈C,c.1<64/\c.2<64){t:PI3}(t0:0<=t.2.2)(t4:t.2.2<4)(m:(t.1,t.2.1)∈(Roof.halvesOf C).map RM.hP):∀s∈RM.sq3 (Roof.halvesOf C) t,((-1000<=s.1.1/\s.1.1<=1000)/\(-1000<=s.1.2/\s.1.2<=1000)/\(-1000<=s.2.1/\s.2.1<=1000)/\-1000<=s.2.2/\s.2.2<=1000)/\(s.2.1/2+1 - s.1.1/2<=70/\s.2.2/2+1 - s.1.2/2<=70):=by
 have bd:=RM.qY hb m;obtain⟨r,hr,er⟩:=ax.mp m;obtain⟨dd,ed,d0,d64,_,_,_,_,_,_,two⟩:=RM.K8 hb hr;rw[er]at ed two;have hg:∀c,0<=RM.hgt (Roof.halvesOf C) (RM.aF (t.1,t.2.1) c)/\RM.hgt (Roof.halvesOf C) (RM.aF (t.1,t.2.1) c)<=64:=fun c=>by have:=two (c%4) (by omega);rw[show RM.aF (t.1,t.2.1) (c%4)=RM.aF (t.1,t.2.1) c by unfold RM.aF;rw[mod_mod]]at this;omega
 have cb:∀c,(0<=(RM.aF (t.1,t.2.1) c).1/\(RM.aF (t.1,t.2.1) c).1<=128)/\0<=(RM.aF (t.1,t.2.1) c).2/\(RM.aF (t.1,t.2.1) c).2<=128:=fun c=>by
  dsimp only at bd;unfold RM.aF;split
  ·dsimp only;omega
  ·split
   ·dsimp only;omega
   ·split<;>dsimp only<;>omega
 intro s hs;unfold RM.sq3 at hs;simp only[ak,dq,or_false]at hs;rcases hs with rfl|rfl|rfl
 ·unfold RM.sqH;rw[ed];dsimp only at bd ⊢;omega
 ·have h1:=hg t.2.2.toNat;have h2:=cb t.2.2.toNat;unfold RM.sqP;dsimp only;omega
 ·have h1:=hg (t.2.2.toNat+1);have h2:=cb (t.2.2.toNat+1);unfold RM.sqP;dsimp only;omega
noncomputable def sp_ctt(K:W.Frag)(d:Adr):Sp:=fun vs H Q _=>∃(b x cA dA hA fA nA gA:Addr)(N:List PI3)(C:List (Nat×Nat))(ht:List (PI×Int))(Ns:List (List PI3)),vs=[.ref b,.ref x]/\LS H b N/\mY C d.Roof H x cA dA hA fA nA gA ht Ns/\(∀c∈C,c.1<64/\c.2<64)/\(∀t∈N,0<=t.2.2/\t.2.2<4/\(t.1,t.2.1)∈(Roof.halvesOf C).map RM.hP)/\N.length<=4096/\∀r kvs H',a9 H H'->H r=none->D2 H' r kvs->RM.Tbl kvs (RM.kF C N)->Q (.ref r) H'
theorem ok_ctt(F:Fun K "cells_that_touch" "cells_that_touch" s_ctt f fd)(T:Txt K mg base d)(D_nso:aP P w K mg base CX0 4 "next_squares_over" ["face","roof"] (sp_nso K d))(D_cw:aP P w K mg base CX0 1 "cells_wanting" ["low","high","cells"] (sp_cw K d)):bI P w K mg base CX0 5 f fd ["face","roof"] (sp_ctt K d):=by
 refine F.ok sc_ctt (fun vs H Q E h=>by obtain⟨b,x,cA,dA,hA,fA,nA,gA,N,C,ht,Ns,rfl,_⟩:=h;rfl) (fun _ _ _ _ H _ Q E hr h=>?_);have hu:=bE hr;obtain⟨b,x,cA,dA,hA,fA,nA,gA,N,C,ht,Ns,rfl,ls,ra,hb,hs,hl,k⟩:=h;refine⟨_,(aA (psN (i:=2) sc_ctt.nd d9)
   (aA (bO PassesOwn.never rfl (GZ (JU (aS D_nso (hm hr) aU rfl (a7 (pv 0) (a7 (pv 1) aC))))) (kM rfl (bL (pgN (i:=3) sc_ctt.nd) (bL (pgN (i:=4) sc_ctt.nd) hJ))) (aA (psN (i:=5) sc_ctt.nd (aS D_cw (hm hr) aU rfl (a7 (pv 3) (a7 (pv 4) (a7 (gQ (pv 1) rfl) aC)))))
   (aD (cD (bU jV (bM bS (by rfl) T.len PySem.boot_len (a7 (pv 5) aC)) aM (c8 _)) (aD (eV hu (pv 2) (bK jL (pv 5) aM (fun _ _=>rfl)) g8 rfl)) bB))))
   (aD (aQ (pv 2))))),?_⟩
 obtain⟨dx,fs,hx,q1,_,_,_,_,_⟩:=ra.ins;refine fun f hf=>?_
 have s1:a9 H (upd H f (.dT [])):=a9.upd hf;have hf1:D2 (upd H f (.dT [])) f []:=a8;generalize (upd H f (.dT []))=H1 at s1 hf1 ⊢;refine⟨_,rfl,_,rfl,b,x,N,Roof.halvesOf C,rfl,LS.mono s1 ls,ra.l.mono s1,hs,hl,fun r xs H2 s2 fr hr ns mA mB lx=>?_⟩;refine⟨r,xs,rfl,hr,fun od=>?_⟩;have s12:=a9.trans s1 s2;have nfr:f≠r:=aJ hf1 fr;have s3:a9 H (upd H2 r (.frz od (nO r xs))):=a9.put s12 (s1.free fr);have uh:D2 (upd H2 r (.frz od (nO r xs))) f []:=by unfold D2;rw[aB nfr];exact s2 _ _ hf1
 have tp3:∀c ys,H2 c=some (.tup ys)->(upd H2 r (.frz od (nO r xs))) c=some (.tup ys):=nF hr xC
 have hr3:(upd H2 r (.frz od (nO r xs))) r=some (.frz od (nO r xs)):=a8;generalize (upd H2 r (.frz od (nO r xs)))=H3 at s3 uh tp3 hr3 ⊢;refine⟨r,od,xs,rfl,ns.sm,hr3,FC (d:=r) (od:=od) (xs:=xs)
  (fun i σ H4=>∃(kvs:List (PI×V))(v3 v4 v5:Option V),σ=[some (.ref b),some (.ref x),some (.ref f),v3,v4,v5]/\a9 H H4/\H4 r=some (.frz od (nO r xs))/\(∀c ys,H2 c=some (.tup ys)->H4 c=some (.tup ys))/\D2 H4 f kvs/\kvs.length<=i/\RM.Tbl kvs (fun q=>∃j,j<i/\∃s b',xs[j]? =some (kq s,b')/\RM.g7 (RM.iW C) s=[q]))
  ⟨[],none,none,none,rfl,s3,hr3,tp3,uh,au _,RM.Tbl.nil.iff fun q=>⟨fun z=>z.elim,fun⟨j,hj,_⟩=>absurd hj (Nat.not_lt_zero _)⟩⟩ (fun i σ H4 ⟨_,_,_,_,_,_,z,_⟩=>z) ?_ ?_⟩
 ·rintro i kk q σ H4 hi ⟨kvs,v3,v4,v5,rfl,s4,zz,tp4,ka,qe,tb⟩;have ql:=tO hi;have ym:=ay hi;obtain⟨t,tN,s,sm,ek⟩:=mA _ ym;have ek:kk=kq s:=ek;subst ek;obtain⟨t0,t4,mem⟩:=hs t tN;obtain⟨z1,z2⟩:=GI hb t0 t4 mem s sm;obtain⟨a1,a2,hq,⟨_,e1,h1⟩,⟨_,e2,h2⟩⟩:=rK.tq (ns.kD _ ym).1;cases e1;cases e2;refine⟨q,_,rfl,SqT.of (tp4 _ _ hq),rfl,_,_,rfl,_,_,rfl,rfl,?_⟩;refine⟨_,rfl,_,rfl,_,rfl,x,d.Roof,dx,fs,_,rfl,s4 _ _ hx,T.cQ,T.xB,q1,.ref a1,.ref a2,cA,s,C,rfl,⟨a1,rfl,tp4 _ _ h1⟩,⟨a2,rfl,tp4 _ _ h2⟩,D2.rd (s4 _ _ ra.cells),z1,z2,fun w H5 s5 fw lt=>?_⟩;obtain⟨_,ws,e,hw,pw⟩:=lt;cases e;have lw:=pairs_len pw;have tb_no:RM.g7 (RM.iW C) s=[]\/(∃u v r,RM.g7 (RM.iW C) s=u::v::r)->RM.Tbl kvs (fun q=>∃j,j<i+1/\∃s b',xs[j]? =some (kq s,b')/\RM.g7 (RM.iW C) s=[q]):=fun cs=>tb.iff fun z=>by
   constructor
   ·rintro⟨j,hj,y⟩;exact⟨j,by omega,y⟩
   ·rintro⟨j,hj,s',b',e1,e2⟩;by_cases ej:j=i
    ·subst ej;rw[hi]at e1;cases BV (congrArg Prod.fst (Option.some.inj e1));rcases cs with c|⟨u,v,r,c⟩<;>rw[c]at e2<;>cases e2
    ·exact⟨j,by omega,s',b',e1,e2⟩
  have tp5:∀c ys,H2 c=some (.tup ys)->H5 c=some (.tup ys):=fun c ys z=>s5 _ _ (tp4 c ys z)
  have kh:D2 H5 f kvs:=s5 _ _ ka;refine⟨_,rfl,w,ws,rfl,.inl (SqL.of hw),rfl,_,rfl,?_⟩;rw[rO];refine bY (fun c1=>?_) (fun c1=>?_)
  ·have c1:ws.length=1:=by have:=ba c1;omega
   obtain⟨q0,e0⟩:∃q0,RM.g7 (RM.iW C) s=[q0]:=List.length_eq_one_iff.mp (by omega)
   rw[e0]at pw;cases pw with
   |cons t0' rest=>
    cases rest;obtain⟨va,rfl,vj⟩:=t0';have ll:=RM.iB kvs q0 (.bl true);refine⟨_,rfl,_,rfl,w,_,_,_,rfl,rfl,SqL.of hw,aX (by decide) rfl,f,_,rfl,D2.put (p:=q0) kh vj (.bl true) (few (m:=13000) (by omega)),RM.d5 kvs q0 (.bl true),_,_,_,rfl,a9.put (a9.trans s4 s5) hf,by rw[aB nfr.symm];exact s5 _ _ zz,fun c ys z=>nF kh (fun ys z=>(by cases z)) _ _ (tp5 c ys z),a8,by omega,(tb.put _ _).iff fun z=>?_⟩;constructor
    ·rintro(⟨j,hj,y⟩|rfl)
     ·exact⟨j,by omega,y⟩
     ·exact⟨i,by omega,s,q,hi,e0⟩
    ·rintro⟨j,hj,s',b',e1,e2⟩;by_cases ej:j=i
     ·subst ej;rw[hi]at e1;cases BV (congrArg Prod.fst (Option.some.inj e1));rw[e0]at e2;cases e2;exact .inr rfl
     ·exact .inl ⟨j,by omega,s',b',e1,e2⟩
  ·have c1:ws.length≠1:=fun z=>c1 (decide_eq_true (by omega))
   refine⟨kvs,_,_,_,rfl,a9.trans s4 s5,s5 _ _ zz,tp5,kh,by omega,tb_no ?_⟩;match hww:RM.g7 (RM.iW C) s with
   |[]=>exact .inl rfl
   |[u]=>exfalso;rw[hww]at lw;exact c1 lw
   |u::v::r=>exact .inr ⟨u,v,r,rfl⟩
 ·rintro σ H4 ⟨kvs,v3,v4,v5,rfl,s4,zz,tp4,ka,qe,tb⟩;refine⟨_,rfl,k f kvs H4 s4 hf ka (tb.iff fun q=>?_)⟩;constructor
  ·rintro⟨j,hj,s,b',e1,e2⟩;obtain⟨t,tN,s',sm,ek⟩:=mA _ (ay e1);rw[BV ek]at e2;exact⟨t,tN,s',sm,e2⟩
  ·rintro⟨t,tN,s,sm,e⟩;obtain⟨y,hy,ey⟩:=ax.mp (mB t tN s sm);obtain⟨j,hj⟩:=fe.mp hy;exact⟨j,tO hj,s,y.2,by rw[hj,<- ey],e⟩
abbrev s_iip:Stmt:=(top 47)
theorem sc_iip:aL ["cell"] ["cell"] (aH s_iip):=fS
noncomputable def sp_iip(K:W.Frag)(d:Adr):Sp:=fun vs H Q _=>∃(v:V)(p:PI),vs=[v]/\C2 K H v p/\Q (.bl (decide ((0<=p.1/\p.1<64)/\0<=p.2/\p.2<64))) H
theorem ok_iip(F:Fun K "is_in_plan" "is_in_plan" s_iip f fd)(T:Txt K mg base d):bI P w K mg base CX0 1 f fd ["cell"] (sp_iip K d):=by
 refine F.ok sc_iip (fun vs H Q E h=>by obtain⟨v,p,rfl,_⟩:=h;rfl) (fun _ _ _ _ H _ Q E hr h=>?_);have hu:=bE hr;obtain⟨v,p,rfl,⟨a,rfl,ha⟩,k⟩:=h;refine⟨_,(aD (aQ (MI (yQ LN yY aM (bK bG (pv 0) aM (fun _ _=>rfl)) (cU T.dM rfl)) (MD (yQ LN yY aM (bK bG (pv 0) aM (fun _ _=>rfl)) (cU T.dM rfl)))))),?_⟩;have no:¬((0<=p.1/\p.1<64)/\0<=p.2/\p.2<64)->Q (.bl false) H:=fun z=>by rw[decide_eq_false z]at k;exact k
 refine⟨_,rfl,a,_,_,_,rfl,rfl,ha,aX (by decide) rfl,_,_,rfl,rfl,_,rfl,?_⟩;refine bY (fun c1=>?_) (fun c1=>⟨_,rfl,zK (no fun z=>c1 (decide_eq_true z.1.1))⟩);have c1:=ba c1;refine⟨_,_,rfl,rfl,_,rfl,?_⟩;refine bY (fun c2=>?_) (fun c2=>no fun z=>c2 (decide_eq_true z.1.2));have c2:=ba c2;refine⟨_,rfl,a,_,_,_,rfl,rfl,ha,aX (by decide) rfl,_,_,rfl,rfl,_,rfl,?_⟩;refine bY (fun c3=>?_) (fun c3=>no fun z=>c3 (decide_eq_true z.2.1));have c3:=ba c3;refine⟨_,_,rfl,rfl,?_⟩;rw[show decide ((0<=p.1/\p.1<64)/\0<=p.2/\p.2<64)=decide (p.2<64)from decide_eq_decide.mpr ⟨fun z=>z.2.2,fun z=>⟨⟨c1,c2⟩,c3,z⟩⟩]at k;exact k
abbrev s_ctb:Stmt:=(top 48)
theorem sc_ctb:aL ["cells","found","cell","side","near"] ["cells"] (aH s_ctb):=fS
noncomputable def sp_ctb(K:W.Frag)(d:Adr):Sp:=fun vs H Q _=>∃(c:Addr)(C:List (Nat×Nat)),vs=[.ref c]/\D2 H c (CS C)/\C.length<=256/\∀r H' ps,a9 H H'->H r=none->LT H' (.ref r) ps->ps.Nodup->ps.Pairwise RM.dN->(∀q,q∈ps↔RM.tY C q)->ps.length<=1024->Q (.ref r) H'
theorem ok_ctb(F:Fun K "cells_to_build" "cells_to_build" s_ctb f fd)(T:Txt K mg base d)(D_b:aP P w K mg base CX0 2 "beyond" ["place","direction"] (sp_b K d))(D_miap:aP P w K mg base CX0 3 "meets_in_a_point" ["cell","cells"] (sp_miap K d))(D_iip:aP P w K mg base CX0 1 "is_in_plan" ["cell"] (sp_iip K d))(D_br:aP P w K mg base CX0 1 "by_row" ["place"] (sp_br K d)):bI P w K mg base CX0 5 f fd ["cells"] (sp_ctb K d):=by
 refine F.ok sc_ctb (fun vs H Q E h=>by obtain⟨c,C,rfl,_⟩:=h;rfl) (fun _ _ _ _ H _ Q E hr h=>?_);have hu:=bE hr;obtain⟨aALL_SIDES,aZ,c_ALL_SIDES⟩:=T.aZ;obtain⟨c,C,rfl,hC,hl,k⟩:=h;have Aj:(kvF k2 (CS C)).length=C.length:=by rw[f6,n6]
 have eil:(RM.iW C).length=C.length:=by simp[RM.iW]
 refine⟨_,(aA (cD (bU jV (bM j8 (by rfl) T.len PySem.boot_len (a7 (pv 0) aC)) (cU T.oH rfl) (c8 _)) (aD (aQ (fF aC))) bB)
   (aA (psN (i:=1) sc_ctb.nd d9)
   (aA (jF (bO PassesOwn.never rfl (lU (pv 0)) (pgN (i:=2) sc_ctb.nd) (aD (bO PassesOwn.never rfl (iE (eX aZ rfl)) (pgN (i:=3) sc_ctb.nd) (aA (psN (i:=4) sc_ctb.nd (aS D_b (hm hr) aU rfl (a7 (pv 2) (a7 (pv 3) aC))))
   (aD (cD (PW.pt (kJ (dO (cG hu (pv 4) (pv 0))) (kJ (iD (aS D_iip (hm hr) aU rfl (a7 (pv 4) aC)) (fun _=>rfl)) (lT (GW (iD (aS D_miap (hm hr) aU rfl (a7 (pv 4) (a7 (pv 0) aC))) (fun _=>rfl))))))) (aD (eV hu (pv 1) (pv 4) g8 rfl)) bB)))))))
   (aD (aQ (yP rfl D_br (hm hr) rfl T.sorted rfl (a7 (pv 1) aC))))))),?_⟩
 refine⟨_,rfl,c,_,rfl,hC.rd,rfl,_,rfl,?_⟩;rw[Aj,rO];refine bY (fun c1=>?_) (fun c1=>?_)
 ·have c1:C.length=256:=by have:=ba c1;omega
  exact⟨bz _,fun r hr=>k r _ [] (a9.upd hr) hr ⟨r,[],rfl,a8,.nil⟩ nodup_nil .nil (fun q=>⟨fun z=>(by cases z),fun z=>absurd c1 z.1⟩) (bz _)⟩
 have c1:C.length≠256:=fun z=>c1 (decide_eq_true (by omega))
 refine fun f hf=>?_
 have nc:c≠f:=aJ hC hf;have kc:∀od,(upd H c (.frz od (.dT (kvF k2 (CS C))))) f=none:=fun od=>fH hC hf
 let G:PI->Prop:=fun q=>q∉RM.iW C/\((0<=q.1/\q.1<64)/\0<=q.2/\q.2<64)/\∀s,s<4->RM.aT C q s=false
 let S:Nat->PI->Prop:=fun i q=>(∃x∈(RM.iW C).take i,∃s,s<4/\q=RM.aI x s)/\G q
 refine⟨c,.dT (kvF k2 (CS C)),by rw[aB nc];exact hC,trivial,fun od=>⟨_,rfl,c,od,rfl,.inr ⟨_,a8,kX (d:=c) (od:=od) (kvs:=kvF k2 (CS C))
  (fun i σ H2=>∃(kvs:List (PI×V))(v2 v3 v4:Option V),σ=[some (.ref c),some (.ref f),v2,v3,v4]/\a9 (upd H c (.frz od (.dT (kvF k2 (CS C))))) H2/\D2 H2 f kvs/\kvs.length<=4*i/\RM.Tbl kvs (S i))
  ⟨[],none,none,none,rfl,a9.both (a9.upd hf),by unfold D2;rw[aB nc.symm,a8];rfl,bz _,RM.Tbl.nil.iff fun q=>⟨fun z=>z.elim,fun⟨⟨x,hx,_⟩,_⟩=>by simp at hx⟩⟩ (fun i σ H2 ⟨_,_,_,_,_,s2,_⟩=>s2 _ _ a8) ?_ ?_⟩⟩⟩
 ·rintro i kk vv q σ H2 hi hq ⟨kvs,v2,v3,v4,rfl,s2,hD,qe,tb⟩;obtain⟨p,hp,rfl⟩:=pT hi;have hp2:(RM.iW C)[i]? =some p:=by have:=congrArg (Option.map Prod.fst) hp;rw[<- bf,jU]at this;exact this
  have ql:i<C.length:=by have:=tO hp2;omega
  refine⟨_,rfl,⟨_,c_ALL_SIDES _⟩,gF (K:=K) (a:=aALL_SIDES) (xs:=[.int 0,.int 1,.int 2,.int 3]) (fun j σ H3=>∃(kvs:List (PI×V))(v3 v4:Option V),σ=[some (.ref c),some (.ref f),some (.ref q),v3,v4]/\a9 (upd H c (.frz od (.dT (kvF k2 (CS C))))) H3/\T2 H3 (.ref q) p/\D2 H3 f kvs/\kvs.length<=4*i+j/\RM.Tbl kvs (fun z=>S i z\/((∃s,s<j/\z=RM.aI p s)/\G z)))
   ⟨kvs,v3,v4,rfl,s2,⟨q,rfl,hq⟩,hD,qe,tb.iff fun z=>⟨.inl,fun z=>z.elim id fun⟨⟨s,hs,_⟩,_⟩=>absurd hs (Nat.not_lt_zero _)⟩⟩ (fun i σ H2 _ _=>c_ALL_SIDES H2) ?_ ?_⟩
  ·rintro j x σ H3 hx ⟨kvs,v3,v4,rfl,s3,tq,hD,qe,tb⟩;obtain⟨hj,rfl⟩:=lR hx;have skip:∀{H4:Hp}{v3 v4:Option V},a9 H3 H4->¬G (RM.aI p j)->∃(kvs:List (PI×V))(v3' v4':Option V),[some (.ref c),some (.ref f),some (.ref q),v3,v4]=[some (.ref c),some (.ref f),some (.ref q),v3',v4']/\a9 (upd H c (.frz od (.dT (kvF k2 (CS C))))) H4/\T2 H4 (.ref q) p/\D2 H4 f kvs/\kvs.length<=4*i+(j+1)/\RM.Tbl kvs (fun z=>S i z\/((∃s,s<j+1/\z=RM.aI p s)/\G z)):=fun{H4 v3 v4} s4 ng=>by
    refine⟨kvs,v3,v4,rfl,a9.trans s3 s4,tq.mono s4,s4 _ _ hD,by omega,tb.iff fun z=>?_⟩;constructor
    ·rintro(z1|⟨⟨s,hs,e⟩,g⟩)
     ·exact .inl z1
     ·exact .inr ⟨⟨s,by omega,e⟩,g⟩
    ·rintro(z1|⟨⟨s,hs,e⟩,g⟩)
     ·exact .inl z1
     ·by_cases es:s=j
      ·subst es;exact absurd (e▸g) ng
      ·exact .inr ⟨⟨s,by omega,e⟩,g⟩
   refine⟨_,rfl,_,rfl,.ref q,p,j,rfl,tq.c,hj,fun n H4 s4 t4=>?_⟩;obtain⟨na,rfl,nh⟩:=t4;have hC4:R2 H4 c (CS C):=.inr ⟨od,(a9.trans s3 s4) _ _ a8⟩;refine⟨_,rfl,_,rfl,c,_,rfl,R2.get (kvs:=CS C) (p:=RM.aI p j) hC4 nh,_,rfl,?_⟩;rw[uB];refine bY (fun c1=>?_) (fun c1=>?_)
   rotate_left
   ·have c1:RM.aI p j∈RM.iW C:=j3 c1;refine zK (skip s4 fun g=>g.1 c1)
   have c1:¬RM.aI p j∈RM.iW C:=lX c1;refine⟨_,rfl,.ref na,RM.aI p j,rfl,T2.c ⟨na,rfl,nh⟩,_,rfl,?_⟩;refine bY (fun c2=>?_) (fun c2=>?_)
   rotate_left
   ·refine zK (skip s4 fun g=>c2 (decide_eq_true g.2.1))
   have c2:=ba c2;refine⟨_,rfl,_,rfl,.ref na,RM.aI p j,c,C,rfl,⟨na,rfl,nh⟩,hC4,fun H5 s5=>?_⟩;have s45:=a9.trans s4 s5;have all:(!(RM.aT C (RM.aI p j) 0||(RM.aT C (RM.aI p j) 1||(RM.aT C (RM.aI p j) 2||RM.aT C (RM.aI p j) 3))))=true↔∀s,s<4->RM.aT C (RM.aI p j) s=false:=by
    rw[fj,ia,ia,ia];constructor
    ·rintro⟨h0,h1,h2,h3⟩ s hs;have cs:s=0\/s=1\/s=2\/s=3:=by omega
     rcases cs with rfl|rfl|rfl|rfl
     ·exact h0
     ·exact h1
     ·exact h2
     ·exact h3
    ·intro h;exact⟨h 0 (by decide),h 1 (by decide),h 2 (by decide),h 3 (by decide)⟩
   refine⟨_,rfl,bY (fun c3=>?_) (fun c3=>?_)⟩
   rotate_left
   ·exact skip s45 fun g=>c3 (all.mpr g.2.2)
   have gg:G (RM.aI p j):=⟨c1,c2,all.mp c3⟩;have kh:D2 H5 f kvs:=s45 _ _ hD;have ll:=RM.iB kvs (RM.aI p j) (.bl true);refine⟨_,rfl,_,rfl,f,_,rfl,D2.put (p:=RM.aI p j) kh (s5 _ _ nh) (.bl true) (few (m:=2000) (by omega)),RM.d5 kvs (RM.aI p j) (.bl true),_,_,rfl,a9.put (a9.trans s3 s45) (kc od),T2.pA (tq.mono s45) kh (by intro _ z;cases z),a8,by omega,(tb.put _ _).iff fun z=>?_⟩;constructor
   ·rintro((z1|⟨⟨s,hs,e⟩,g⟩)|rfl)
    ·exact .inl z1
    ·exact .inr ⟨⟨s,by omega,e⟩,g⟩
    ·exact .inr ⟨⟨j,by omega,rfl⟩,gg⟩
   ·rintro(z1|⟨⟨s,hs,e⟩,g⟩)
    ·exact .inl (.inl z1)
    ·by_cases es:s=j
     ·subst es;exact .inr e
     ·exact .inl (.inr ⟨⟨s,by omega,e⟩,g⟩)
  ·rintro σ H3 ⟨kvs,v3,v4,rfl,s3,tq,hD,qe,tb⟩;refine⟨kvs,_,_,_,rfl,s3,hD,by simp at qe;omega,tb.iff fun z=>?_⟩;show S i z\/((∃s,s<4/\z=RM.aI p s)/\G z)↔(∃x∈(RM.iW C).take (i+1),∃s,s<4/\z=RM.aI x s)/\G z
   rw[RM.take_snoc hp2];constructor
   ·rintro(⟨⟨x,hx,y⟩,g⟩|⟨y,g⟩)
    ·exact⟨⟨x,cc _ hx,y⟩,g⟩
    ·exact⟨⟨p,bc _ (fm.mpr rfl),y⟩,g⟩
   ·rintro⟨⟨x,hx,y⟩,g⟩;rcases aw.mp hx with hx|hx
    ·exact .inl ⟨⟨x,hx,y⟩,g⟩
    ·rw[fm.mp hx]at y;exact .inr ⟨y,g⟩
 ·rintro σ H2 ⟨kvs,v2,v3,v4,rfl,s2,hD,qe,tb⟩;rw[Aj]at qe tb;have Ai:H2 c=some (.frz od (.dT (kvF k2 (CS C)))):=s2 _ _ a8;have s3:a9 H (upd H2 c (.dT (kvF k2 (CS C)))):=a9.unlock hC s2;have lh:D2 (upd H2 c (.dT (kvF k2 (CS C)))) f kvs:=by unfold D2;rw[aB nc.symm];exact hD
  refine⟨Ai,?_⟩;generalize (upd H2 c (.dT (kvF k2 (CS C))))=H3 at s3 lh ⊢;refine⟨_,rfl,f,_,rfl,lh.rd,fun as hk=>?_⟩;have qy:=tH hk;refine⟨fT H3,fun a _=>by unfold fT;exact cons_ne_nil _ _,rV qy,fun L out H4 hL pm pw s4 h4=>?_⟩;obtain⟨ys,py,yp,yr⟩:=kH qy pm pw;refine k L H4 ys (a9.trans s3 s4) (s3.free hL) ⟨L,_,rfl,h4,aK (fun _ _ z=>z.mono s4) py⟩ (yp.nodup_iff.mpr tb.1) yr (fun q=>?_) (by rw[yp.length_eq,ai];omega);rw[yp.mem_iff,tb.2 q];have et:(RM.iW C).take C.length=RM.iW C:=bg (by omega);show(∃x∈(RM.iW C).take C.length,∃s,s<4/\q=RM.aI x s)/\G q↔ _
  rw[et];exact⟨fun⟨y,g1,g2,g3⟩=>⟨c1,y,g1,g2,g3⟩,fun⟨_,y,g1,g2,g3⟩=>⟨y,g1,g2,g3⟩⟩
abbrev s_fc:Stmt:=(top 54)
theorem sc_fc:aL ["face","roof","touching","cell"] ["face","roof"] (aH s_fc):=fS
noncomputable def sp_fc(K:W.Frag)(d:Adr):Sp:=fun vs H Q _=>∃(b x cA dA hA fA nA gA:Addr)(N:List PI3)(C:List (Nat×Nat))(ht:List (PI×Int))(Ns:List (List PI3)),vs=[.ref b,.ref x]/\LS H b N/\mY C d.Roof H x cA dA hA fA nA gA ht Ns/\(∀c∈C,c.1<64/\c.2<64)/\C.length<=256/\(∀t∈N,0<=t.2.2/\t.2.2<4/\(t.1,t.2.1)∈(Roof.halvesOf C).map RM.hP)/\N.length<=4096/\∀r L H',a9 H H'->H r=none->LT H' (.ref r) L->L.Pairwise RM.dN->L.Nodup->(∀q,q∈L↔RM.tY C q/\¬RM.kF C N q)->L.length<=1024->Q (.ref r) H'
theorem ok_fc(F:Fun K "free_cells" "free_cells" s_fc f fd)(T:Txt K mg base d)(D_ctt:aP P w K mg base CX0 5 "cells_that_touch" ["face","roof"] (sp_ctt K d))(D_ctb:aP P w K mg base CX0 5 "cells_to_build" ["cells"] (sp_ctb K d)):bI P w K mg base CX0 6 f fd ["face","roof"] (sp_fc K d):=by
 refine F.ok sc_fc (fun vs H Q E h=>by obtain⟨b,x,cA,dA,hA,fA,nA,gA,N,C,ht,Ns,rfl,_⟩:=h;rfl) (fun _ _ _ _ H _ Q E hr h=>?_);have hu:=bE hr;obtain⟨b,x,cA,dA,hA,fA,nA,gA,N,C,ht,Ns,rfl,ls,ra,hb,mz,hs,hl,k⟩:=h;refine⟨_,(aA (B6 (i:=2) sc_fc.nd rfl (Or.inr rfl) (aS D_ctt (hm hr) aU rfl (a7 (pv 0) (a7 (pv 1) aC))))
   (aD (aQ (DA (own:=[("cell",3)]) rfl sc_fc.nd (dH (aS D_ctb (hm hr) aU rfl (a7 (gQ (pv 1) rfl) aC))) (fQ (by first|decide+kernel|kernel_rfl)) (fun _ _ _ _ _=>(pgN (i:=3) sc_fc.nd)) (fun _ _ _ _ _=>(D6 (dO (cG hu (pv 3) (pv 2))))) (fun _ _ _ _ _=>(pv 3)))))),?_⟩
 obtain⟨dx,fs,hx,q1,_,_,_,_,_⟩:=ra.ins;refine⟨_,rfl,_,rfl,b,x,cA,dA,hA,fA,nA,gA,N,C,ht,Ns,rfl,ls,ra,hb,hs,hl,fun f kvs H1 s1 ff hD tb=>?_⟩;refine⟨_,rfl,x,d.Roof,dx,fs,_,rfl,s1 _ _ hx,T.cQ,T.xB,q1,cA,C,rfl,s1 _ _ ra.cells,mz,fun r H2 ps s2 fr lt nd pw iff ll=>?_⟩;obtain⟨_,xs,e,hr,pr⟩:=lt;cases e;have lx:=pairs_len pr;obtain⟨nf,Aa⟩:∃nf:PI->Bool,∀q,nf q=!(RM.aN kvs q).isSome:=⟨_,fun _=>rfl⟩
 have nfi:∀q,nf q=true↔¬RM.kF C N q:=fun q=>by rw[Aa,fj,<- Bool.not_eq_true,RM.aV,tb.2]
 refine⟨r,rfl,⟨_,SqL.of hr⟩,fun D Ah=>m4 (K:=K) (a:=r) (xs:=xs)
  (fun i H3=>a9 H2 H3/\∃ys:List V,H3 D=some (.lst ys)/\Paired (T2 H3) ys ((ps.take i).filter nf)) ⟨a9.upd Ah,[],a8,by rw[take_zero];exact .nil⟩ (fun i H3 _ ⟨s3,_⟩=>s3.seq (SqL.of hr)) ?_ ?_⟩
 ·rintro i v H3 hv ⟨s3,ys,h3,py⟩;obtain⟨p,hp,⟨a,rfl,ha⟩⟩:=pairs_at pr hv;have ql:=tO hp;have ly:=pairs_len py;have lf:=dk nf (ps.take i);rw[bu]at lf;have Ct:=s3 _ _ ha;have lh:D2 H3 f kvs:=s3 _ _ (s2 _ _ hD);have gg:=R2.get (p:=p) lh.rd Ct;have tk:=RM.take_snoc hp;refine⟨rfl,_,rfl,_,rfl,f,_,rfl,gg,_,rfl,?_⟩;rw[<- Aa];refine bY (fun c1=>?_) (fun c1=>?_)
  ·skip
   refine⟨_,rfl,ys,h3,few (m:=2000) (by omega),a9.put s3 Ah,ys++[.ref a],a8,?_⟩;rw[tk,fk,show[p].filter nf=[p] by simp[c1]];exact b8 (T2.upd ⟨a,rfl,Ct⟩ h3) (aK (fun _ _ z=>z.upd h3) py)
  ·skip
   refine⟨s3,ys,h3,?_⟩;rw[tk,fk,show[p].filter nf=[] by simp[c1],da];exact py
 ·rintro H3 ⟨s3,ys,h3,py⟩;rw[lx,bg (au _)]at py;have s12:=a9.trans s1 s2;have lf:=dk nf ps;refine k D _ H3 (a9.trans s12 s3) (s12.free Ah) ⟨D,ys,rfl,h3,py⟩ (pw.sublist iq) (nd.sublist iq) (fun q=>?_) (by omega);rw[br,iff q,nfi q]
abbrev s_fct:Stmt:=(top 77)
theorem sc_fct:aL ["k","t","told"] ["k","t"] (aH s_fct):=fS
noncomputable def sp_fct(K:W.Frag)(d:Adr):Sp:=fun vs H Q E=>∃(k:Int)(a:Addr)(ns:List Int),vs=[.int k,.ref a]/\SqL K H a (ns.map V.int)/\ns.length<=4096/\RM.inB ns/\0<=k/\(Roof.houseOf (RoofBNeutral.text ns)=none->E (.ref d.bW) none H)/\∀F,Roof.houseOf (RoofBNeutral.text ns)=some (RM.aR F)->Roof.isHouse (RM.aR F)=true->∀Ns,RM.Numbering (Roof.halvesOf (RM.aR F)) (Roof.trianglesOf (Roof.halvesOf (RM.aR F))).length Ns->((Ns.length:Int)<=k->E (.ref d.fB) none H)/\∀N,Ns[k.toNat]? =some N->∀r L H',a9 H H'->LT H' (.ref r) L->L.Pairwise RM.dN->L.Nodup->(∀q,q∈L↔RM.tY (RM.aR F) q/\¬RM.kF (RM.aR F) N q)->L.length<=1024->Q (.ref r) H'
theorem ok_fct(F:Fun K "free_cells_told" "free_cells_told" s_fct f fd)(T:Txt K mg base d)(D_rwf:aP P w K mg base CXf 10 "roof_with_face" ["k","t"] (sp_rwf K d))(D_fc:aP P w K mg base CX0 6 "free_cells" ["face","roof"] (sp_fc K d)):bI P w K mg base CXf 11 f fd ["k","t"] (sp_fct K d):=by
 refine okX F sc_fct (fun vs H Q E h=>by obtain⟨k,a,ns,rfl,_⟩:=h;rfl) (fun _ _ _ _ H _ Q E hr hok h=>?_);have hu:=bE hr;obtain⟨k,a,ns,rfl,hS,hl,hB,hk,k1,k2⟩:=h;refine⟨_,(aA (psN (i:=2) sc_fct.nd (aS D_rwf (hm hr) (yR hok) rfl (a7 (pv 0) (a7 (pv 1) aC))))
   (aD (aQ (aS D_fc (hm hr) aU rfl (a7 (bK jL (gQ (pv 2) rfl) (pv 0) (fun _ _=>rfl)) (a7 (pv 2) aC)))))),?_⟩
 refine⟨_,rfl,_,rfl,k,a,ns,rfl,hS,hl,hB,k1,fun F hF hH x cA dA hA fA nA gA ht Ns H1 s1 ra=>?_⟩;obtain⟨k4,k5⟩:=k2 F hF hH Ns ra.nok;refine⟨k4,fun jr=>?_⟩;obtain⟨mz,_,_⟩:=iL hH;obtain⟨m1,m2,m3⟩:=ra.nok.small mz;obtain⟨dx,fs,hx,q1,q2,q3,q4,q5,q6⟩:=ra.ins;obtain⟨bs,hg,pr⟩:=ra.faces;have hN:Ns[k.toNat]? =some (Ns[k.toNat]'(by omega)):=bx (by omega);generalize Ns[k.toNat]'(by omega)=N at hN;have hm:=ay hN;obtain⟨b,hb,ls⟩:=vL pr hN;refine⟨_,rfl,x,d.Roof,dx,fs,_,rfl,hx,T.cQ,T.x9,q6,_,rfl,gA,_,_,_,rfl,rfl,SqL.of hg,aX hk (by rw[bf,hb];rfl),_,rfl,b,x,cA,dA,hA,fA,nA,gA,N,_,ht,Ns,rfl,ls,ra,fun c hc=>⟨(RM.gW.mp hc).1,(RM.gW.mp hc).2.1⟩,mz,fun t su=>⟨(ra.nok.side N hm t su).1,(ra.nok.side N hm t su).2,ra.nok.half N hm t su⟩,m3 N hm,fun r L H2 s2 fr lt pw nd iff ll=>k5 N hN r L H2 (a9.trans s1 s2) lt pw nd iff ll⟩
abbrev uZ:Stmt:=(top 18)
theorem M9:aL ["tell"] ["tell"] (aH uZ):=fS
noncomputable def hds(d:Adr):List HD:=[⟨"NoHouse",d.bW,1,⟨35,11,35,18⟩,⟨36,17,36,18⟩,⟨36,16,36,18⟩,⟨36,15,36,19⟩,⟨36,8,36,19⟩,⟨35,4,36,19⟩⟩,⟨"OutOfBounds",d.cF,3,⟨37,11,37,22⟩,⟨38,17,38,18⟩,⟨38,16,38,18⟩,⟨38,15,38,19⟩,⟨38,8,38,19⟩,⟨37,4,38,19⟩⟩,⟨"Outside",d.fK,5,⟨39,11,39,18⟩,⟨40,17,40,18⟩,⟨40,16,40,18⟩,⟨40,15,40,19⟩,⟨40,8,40,19⟩,⟨39,4,40,19⟩⟩,⟨"NoFace",d.fB,6,⟨41,11,41,17⟩,⟨42,17,42,18⟩,⟨42,16,42,18⟩,⟨42,15,42,19⟩,⟨42,8,42,19⟩,⟨41,4,42,19⟩⟩,⟨"NoSize",d.iR,7,⟨43,11,43,17⟩,⟨44,17,44,18⟩,⟨44,16,44,18⟩,⟨44,15,44,19⟩,⟨44,8,44,19⟩,⟨43,4,44,19⟩⟩]
theorem NN(d:Adr):f7 uZ=[.Try [.Return (some (.Call (.Name "tell" ⟨34,15,34,19⟩) [] [] ⟨34,15,34,21⟩)) ⟨34,8,34,21⟩] ((hds d).map HD.h) [] [] ⟨33,4,44,19⟩]:=rfl
structure Ans(K:W.Frag)(mg:Str->Option Value)(base:Heap)(d:Adr)(fA:Addr)(fdA:FuncData):Prop where
 fn:Fun K "answer_or_refusal" "answer_or_refusal" uZ fA fdA
 at_:mg "answer_or_refusal" =some (.ref fA)
 bind:Binds K fdA ["tell"] []
 jA:mg "NoHouse" =some (.ref d.bW)
 iU:gX base d.bW
 e6:mg "OutOfBounds" =some (.ref d.cF)
 dU:gX base d.cF
 j9:mg "Outside" =some (.ref d.fK)
 iT:gX base d.fK
 lG:mg "NoFace" =some (.ref d.fB)
 k9:gX base d.fB
 lF:mg "NoSize" =some (.ref d.iR)
 k8:gX base d.iR
 ap:[d.bW,d.cF,d.fK,d.fB,d.iR].Nodup
 bm:NQ mg base
theorem Ans.MZ{K:W.Frag}{mg:Str->Option Value}{base:Heap}{d:Adr}{fA:Addr}{fdA:FuncData}(A:Ans K mg base d fA fdA):∀h∈hds d,mg h.x=some (.ref h.C)/\(aH uZ).names.lookup h.x=some .globalImplicit/\gX base h.C/\(h.x==("__debug__" : Str))=false:=by
 intro h hh;rcases ak.mp hh with rfl|hh
 ·exact⟨A.jA,rfl,A.iU,rfl⟩
 rcases ak.mp hh with rfl|hh
 ·exact⟨A.e6,rfl,A.dU,rfl⟩
 rcases ak.mp hh with rfl|hh
 ·exact⟨A.j9,rfl,A.iT,rfl⟩
 rcases ak.mp hh with rfl|hh
 ·exact⟨A.lG,rfl,A.k9,rfl⟩
 rcases ak.mp hh with rfl|hh
 ·exact⟨A.lF,rfl,A.k8,rfl⟩
 exact(nomatch hh)
theorem Ans.C5{K:W.Frag}{mg:Str->Option Value}{base:Heap}{d:Adr}{fA:Addr}{fdA:FuncData}(A:Ans K mg base d fA fdA){H H0:Hp}{Q:VK}(h:∀p,H p=none->Q (.ref p) (upd H p (.lst [.int (-1)]))):XA (hds d) H Q (.ref d.bW) none H0:=by
 have nd:=A.ap;simp only[dc,ak,dq,or_false,not_or]at nd;refine⟨_,rfl,⟨_,ay (i:=0) rfl,rfl⟩,fun e he hC p hp=>?_⟩;rcases ak.mp he with rfl|he
 ·exact h p hp
 rcases ak.mp he with rfl|he
 ·exact absurd hC (by intro z;simp_all)
 rcases ak.mp he with rfl|he
 ·exact absurd hC (by intro z;simp_all)
 rcases ak.mp he with rfl|he
 ·exact absurd hC (by intro z;simp_all)
 rcases ak.mp he with rfl|he
 ·exact absurd hC (by intro z;simp_all)
 exact(nomatch he)
theorem Ans.F8{K:W.Frag}{mg:Str->Option Value}{base:Heap}{d:Adr}{fA:Addr}{fdA:FuncData}(A:Ans K mg base d fA fdA){H H0:Hp}{Q:VK}(h:∀p,H p=none->Q (.ref p) (upd H p (.lst [.int (-6)]))):XA (hds d) H Q (.ref d.fB) none H0:=by
 have nd:=A.ap;simp only[dc,ak,dq,or_false,not_or]at nd;refine⟨_,rfl,⟨_,ay (i:=3) rfl,rfl⟩,fun e he hC p hp=>?_⟩;rcases ak.mp he with rfl|he
 ·exact absurd hC (by intro z;simp_all)
 rcases ak.mp he with rfl|he
 ·exact absurd hC (by intro z;simp_all)
 rcases ak.mp he with rfl|he
 ·exact absurd hC (by intro z;simp_all)
 rcases ak.mp he with rfl|he
 ·exact h p hp
 rcases ak.mp he with rfl|he
 ·exact absurd hC (by intro z;simp_all)
 exact(nomatch he)
theorem M8{K:W.Frag}{H:Hp}{tb a:Addr}{xs:List V}{ps qs:Array Value}(h:SqL K H a xs)(ht:H tb=some (.tbl ps)):SqL K (hT H tb qs) a xs:=by
 rcases h with h|h
 ·left;have n:a≠tb:=fun z=>by rcases h with h|⟨o,h⟩<;>(rw[z,ht]at h;cases h)
  rcases h with h|⟨o,h⟩
  ·exact .inl (by unfold hT;rw[aB n];exact h)
  ·exact .inr ⟨o,by unfold hT;rw[aB n];exact h⟩
 ·exact .inr h
abbrev s_f:Stmt:=(top 79)
theorem sc_f:aL ["k","t"] ["k","t"] (aH s_f):=fS
noncomputable def sp_f(K:W.Frag)(tb:Addr):Sp:=fun vs H Q _=>∃(xk:Int)(rt:Addr)(nt:List Int),vs=[.int xk,.ref rt]/\SqL K H rt (nt.map V.int)/\nt.length<=4096/\RM.inB nt/\0<=xk/\oZ tb H/\
 ∀p H',H' p=some (.lst ((RoofBNeutral.f [[13,xk],nt]).map V.int))->Q (.ref p) H'
noncomputable def JH(K:W.Frag)(d:Adr):XK->Hp->TE:=fun E H=>(CZ (sp_c K d) [] E0 (CY (CZ (sp_fct K d) [] (fun c _ _=>E c none H) (CY (JI 0) (CY (JI 1) M0))) M0))
theorem ok_f{P:Program}{w:World}{K:W.Frag}{mg:Str->Option Value}{base:Heap}{d:Adr}{f fA c tb:Addr}{fd fdA:FuncData}(F:Fun K "free" "free" s_f f fd)(T:Txt K mg base d)(AN:Ans K mg base d fA fdA)(Cn:fd.code=.ref c)(hC:W.CodeHd base c tb)(D_c:aP P w K mg base CX0 1 "counted" ["rows"] (sp_c K d))(D_fct:aP P w K mg base CXf 11 "free_cells_told" ["k","t"] (sp_fct K d)):bI P w K mg base CXf 14 f fd ["k","t"] (sp_f K tb):=by
 obtain⟨oc,od,kV,kx,pm,an,jo,ct,mf,rfl,lk,nu⟩:=F.ex;obtain⟨oc2,od2,kV2,doc2,pm2,an2,cdv2,ct2,osl2,e2,lk2,hcd2⟩:=AN.fn.ex;obtain rfl:jo=.ref c:=Cn;subst e2;refine IM lk nu sc_f (fun vs H Q E h=>by obtain⟨xk,rt,nt,rfl,_⟩:=h;rfl) (fun A outer s H vs Q E hr hok h=>?_);obtain⟨xk,rt,nt,rfl,hSt,jr,hBt,Am,⟨hE1,hE2⟩,k⟩:=h;refine⟨_,aD (aQ (MH (k:=11) (teL:=JH K d) (T:=tb) AN.at_ lk2 hcd2 AN.fn.kp AN.bind M9 rfl (NN d) rfl AN.MZ rfl (by decide) hr (fun _=>rfl) rfl hC AN.bm rfl (fun _ _ _ _=>rfl) rfl rfl rfl (by decide+kernel) (fun y hy=>absurd rfl ((by decide+kernel:∀z∈ _,z.2≠NameKind.local) _ (PySem.mem_of_lookup hy))) (fun y hy he=>(by decide+kernel:∀z:Str×NameKind,z∈(_:List (Str×NameKind))->z.2=NameKind.free->(aH s_f).names.lookup z.1=some NameKind.cell) y hy he)
  (fun fl c' cl A outer s H E hr hok=>(aS D_c (hm hr) aU rfl (a7 (aS D_fct hr (OE hok) rfl (a7 (pv 0) (a7 (pv 1) aC))) aC))))),?_⟩
 refine⟨[.int xk,.ref rt],#[],rfl,hE1,trivial,rfl,oZ.flat hE2,fun more=>?_⟩;have hTb:hT H tb (#[]++more) tb≠none:=by unfold hT;rw[a8];intro z;cases z
 have hQ:∀(r:List Int)(H1:Hp)(p:Addr),RoofBNeutral.f [[13,xk],nt]=r->p≠tb->H1 p=some (.lst (r.map V.int))->Q (.ref p) (upd H1 tb (.tbl (#[]++more))):=fun r H1 p e n q=>k p _ (by rw[aB n,e];exact q)
 have hX:∀r:Int,RoofBNeutral.f [[13,xk],nt]=[r]->∀p,hT H tb (#[]++more) p=none->upd (hT H tb (#[]++more)) p (.lst [.int r]) tb=some (.frz (W.tabObj (#[]++more)) (.tbl (#[]++more)))->Q (.ref p) (upd (upd (hT H tb (#[]++more)) p (.lst [.int r])) tb (.tbl (#[]++more))):=fun r e p hp _=>
  hQ [r] _ p e (fun z=>hTb (z▸hp)) a8
 have wj:hT H tb (#[]++more) tb=some (.frz (W.tabObj (#[]++more)) (.tbl (#[]++more))):=by unfold hT;rw[a8]
 refine⟨_,rfl,_,rfl,xk,rt,nt,rfl,M8 hSt hE1,jr,hBt,Am,fun c=>AN.C5 (hX _ (RM.xO c)),fun F hF hH Ns R=>⟨fun c=>AN.F8 (hX _ (RM.A3 Am hF R c)),fun N hN r L H1 s1 lt pw nd iff ll=>?_⟩⟩;exact⟨r,L,rfl,lt,by omega,fun p H2 s2 hp he _=>hQ _ H2 p (RM.FA Am hH hF R hN pw nd iff) (fun z=>by rw[z,s1 _ _ wj]at hp;cases hp) he⟩
@[elab_as_elim] theorem el1{α:Type}{C:List α->Prop}:∀(us:List α),us.length=1->(∀x0,C [x0])->C us
 |[x0],_,k=>k x0
@[elab_as_elim] theorem el2{α:Type}{C:List α->Prop}:∀(us:List α),us.length=2->(∀x0 x1,C [x0,x1])->C us
 |[x0,x1],_,k=>k x0 x1
@[elab_as_elim] theorem el3{α:Type}{C:List α->Prop}:∀(us:List α),us.length=3->(∀x0 x1 x2,C [x0,x1,x2])->C us
 |[x0,x1,x2],_,k=>k x0 x1 x2
@[elab_as_elim] theorem el4{α:Type}{C:List α->Prop}:∀(us:List α),us.length=4->(∀x0 x1 x2 x3,C [x0,x1,x2,x3])->C us
 |[x0,x1,x2,x3],_,k=>k x0 x1 x2 x3
theorem JB{P:Program}{w:World}{K:W.Frag}{mg:Str->Option Value}{base:Heap}{d:Adr}(M:Mod K mg base)(T:Txt K mg base d){fI:Addr}{fdI:FuncData}(mv:Mk K d.Roof fI)(F_init:Fun K "__init__" "Roof.__init__" s_i fI fdI)
  (D_c:aG K "counted" s_c)
  (D_m:aG K "moved" s_m)
  (D_br:aG K "by_row" s_br)
  (D_hco:aG K "half_cells_of" s_hco)
  (D_id:aG K "is_deeper" s_id)
  (D_do:aG K "depths_of" s_do)
  (D_ss:aG K "side_start" s_ss)
  (D_ho:aG K "height_over" s_ho)
  (D_ho2:aG K "heights_of" s_ho2)
  (D_lo:aG K "left_of" s_lo)
  (D_se:aG K "side_end" s_se)
  (D_ro:aG K "right_of" s_ro)
  (D_o:aG K "opposite" s_o)
  (D_fo2:aG K "facing_of" s_fo2)
  (D_fo3:aG K "facings_of" s_fo3)
  (D_tol:aG K "triangle_on_left" s_tol)
  (D_tor:aG K "triangle_on_right" s_tor)
  (D_b:aG K "beyond" s_b)
  (D_ta:aG K "triangle_across" s_ta)
  (D_nf:aG K "number_face" s_nf)
  (D_no:aG K "numbers_of" s_no)
  (D_fo:aG K "faces_of" s_fo)
  (D_pb:aG K "parts_between" s_pb)
  (D_dt:aG K "digit_told" s_dt)
  (D_nt:aG K "number_told" s_nt)
  (D_ct:aG K "corner_told" s_ct)
  (D_wt:aG K "walk_told" s_wt)
  (D_wt2:aG K "walks_told" s_wt2)
  (D_far:aG K "feet_across_rows" s_far)
  (D_cw2:aG K "cells_within" s_cw2)
  (D_haw:aG K "headings_along_walls" s_haw)
  (D_wf:aG K "walk_from" s_wf)
  (D_wr:aG K "walks_round" s_wr)
  (D_miap:aG K "meets_in_a_point" s_miap)
  (D_ij:aG K "is_joined" s_ij)
  (D_ih:aG K "is_house" s_ih)
  (D_ht:aG K "house_told" s_ht)
  (D_rt:aG K "roof_told" s_rt)
  (D_rwf:aG K "roof_with_face" s_rwf)
  (D_nsah:aG K "next_square_about_half" s_nsah)
  (D_nsap:aG K "next_square_about_point" s_nsap)
  (D_nso:aG K "next_squares_over" s_nso)
  (D_cw:aG K "cells_wanting" s_cw)
  (D_ctt:aG K "cells_that_touch" s_ctt)
  (D_iip:aG K "is_in_plan" s_iip)
  (D_ctb:aG K "cells_to_build" s_ctb)
  (D_fc:aG K "free_cells" s_fc)
  (D_fct:aG K "free_cells_told" s_fct)
  : aP P w K mg base CX0 1 "counted" ["rows"] (sp_c K d)/\aP P w K mg base CXf 11 "free_cells_told" ["k","t"] (sp_fct K d):=by
 have E_c:=D_c.ok M (fun _ _ F=>ok_c F T (P:=P) (w:=w)) fun _ _ _ _ _ _ us h=>el1 us h fun _=>rfl
 have E_m:=D_m.ok M (fun _ _ F=>ok_m F T (P:=P) (w:=w)) fun _ _ _ _ _ _ us h=>el2 us h fun _ _=>rfl
 have E_br:=D_br.ok M (fun _ _ F=>ok_br F T (P:=P) (w:=w)) fun _ _ _ _ _ _ us h=>el1 us h fun _=>rfl
 have E_hco:=D_hco.ok M (fun _ _ F=>ok_hco F T E_m E_br) fun _ _ _ _ _ _ us h=>el1 us h fun _=>rfl
 have E_id:=D_id.ok M (fun _ _ F=>ok_id F T E_m) fun _ _ _ _ _ _ us h=>el2 us h fun _ _=>rfl
 have E_do:=D_do.ok M (fun _ _ F=>ok_do F T E_hco E_id) fun _ _ _ _ _ _ us h=>el1 us h fun _=>rfl
 have E_ss:=D_ss.ok M (fun _ _ F=>ok_ss F T E_m) fun _ _ _ _ _ _ us h=>el2 us h fun _ _=>rfl
 have E_ho:=D_ho.ok M (fun _ _ F=>ok_ho F T E_m) fun _ _ _ _ _ _ us h=>el2 us h fun _ _=>rfl
 have E_ho2:=D_ho2.ok M (fun _ _ F=>ok_ho2 F T E_ss E_ho) fun _ _ _ _ _ _ us h=>el1 us h fun _=>rfl
 have E_lo:=D_lo.ok M (fun _ _ F=>ok_lo F T (P:=P) (w:=w)) fun _ _ _ _ _ _ us h=>el1 us h fun _=>rfl
 have E_se:=D_se.ok M (fun _ _ F=>ok_se F T E_ss E_lo) fun _ _ _ _ _ _ us h=>el2 us h fun _ _=>rfl
 have E_ro:=D_ro.ok M (fun _ _ F=>ok_ro F T (P:=P) (w:=w)) fun _ _ _ _ _ _ us h=>el1 us h fun _=>rfl
 have E_o:=D_o.ok M (fun _ _ F=>ok_o F T (P:=P) (w:=w)) fun _ _ _ _ _ _ us h=>el1 us h fun _=>rfl
 have E_fo2:=D_fo2.ok M (fun _ _ F=>ok_fo2 F T E_ss E_se E_lo E_ro E_o) fun _ _ _ _ _ _ us h=>el4 us h fun _ _ _ _=>rfl
 have E_fo3:=D_fo3.ok M (fun _ _ F=>ok_fo3 F T E_fo2) fun _ _ _ _ _ _ us h=>el2 us h fun _ _=>rfl
 have E_tol:=D_tol.ok M (fun _ _ F=>ok_tol F T E_lo) fun _ _ _ _ _ _ us h=>el1 us h fun _=>rfl
 have E_tor:=D_tor.ok M (fun _ _ F=>ok_tor F T E_ro) fun _ _ _ _ _ _ us h=>el1 us h fun _=>rfl
 have E_b:=D_b.ok M (fun _ _ F=>ok_b F T E_m) fun _ _ _ _ _ _ us h=>el2 us h fun _ _=>rfl
 have E_ta:=D_ta.ok M (fun _ _ F=>ok_ta F T E_b E_o) fun _ _ _ _ _ _ us h=>el1 us h fun _=>rfl
 have E_nf:=D_nf.ok M (fun _ _ F=>ok_nf F T E_tol E_tor E_ta) fun _ _ _ _ _ _ us h=>el4 us h fun _ _ _ _=>rfl
 have E_no:=D_no.ok M (fun _ _ F=>ok_no F T E_nf) fun _ _ _ _ _ _ us h=>el1 us h fun _=>rfl
 have E_fo:=D_fo.ok M (fun _ _ F=>ok_fo F T (P:=P) (w:=w)) fun _ _ _ _ _ _ us h=>el1 us h fun _=>rfl
 have b_init:Binds K fdI ["self","cells"] []:=F_init.binds fun _ _ _ _ _ _ us hl=>el2 us hl fun _ _=>rfl
 have E_i:bI P w K mg base CX0 7 fI fdI ["self","cells"] (sp_i K d):=ok_i F_init T E_do E_ho2 E_fo3 E_no E_fo;have E_pb:=D_pb.ok M (fun _ _ F=>ok_pb F T (P:=P) (w:=w)) fun _ _ _ _ _ _ us h=>el2 us h fun _ _=>rfl
 have E_dt:=D_dt.ok M (fun _ _ F=>ok_dt F T (P:=P) (w:=w)) fun _ _ _ _ _ _ us h=>el1 us h fun _=>rfl
 have E_nt:=D_nt.ok M (fun _ _ F=>ok_nt F T E_dt) fun _ _ _ _ _ _ us h=>el1 us h fun _=>rfl
 have E_ct:=D_ct.ok M (fun _ _ F=>ok_ct F T E_pb E_nt) fun _ _ _ _ _ _ us h=>el1 us h fun _=>rfl
 have E_wt:=D_wt.ok M (fun _ _ F=>ok_wt F T E_pb E_ct) fun _ _ _ _ _ _ us h=>el1 us h fun _=>rfl
 have E_wt2:=D_wt2.ok M (fun _ _ F=>ok_wt2 F T E_pb E_wt) fun _ _ _ _ _ _ us h=>el1 us h fun _=>rfl
 have E_far:=D_far.ok M (fun _ _ F=>ok_far F T (P:=P) (w:=w)) fun _ _ _ _ _ _ us h=>el1 us h fun _=>rfl
 have E_cw2:=D_cw2.ok M (fun _ _ F=>ok_cw2 F T E_far) fun _ _ _ _ _ _ us h=>el1 us h fun _=>rfl
 have E_haw:=D_haw.ok M (fun _ _ F=>ok_haw F T E_b E_ss E_lo) fun _ _ _ _ _ _ us h=>el1 us h fun _=>rfl
 have E_wf:=D_wf.ok M (fun _ _ F=>ok_wf F T E_b) fun _ _ _ _ _ _ us h=>el3 us h fun _ _ _=>rfl
 have E_wr:=D_wr.ok M (fun _ _ F=>ok_wr F T E_haw E_br E_wf) fun _ _ _ _ _ _ us h=>el1 us h fun _=>rfl
 have E_miap:=D_miap.ok M (fun _ _ F=>ok_miap F T E_b E_lo) fun _ _ _ _ _ _ us h=>el2 us h fun _ _=>rfl
 have E_ij:=D_ij.ok M (fun _ _ F=>ok_ij F T E_b) fun _ _ _ _ _ _ us h=>el1 us h fun _=>rfl
 have E_ih:=D_ih.ok M (fun _ _ F=>ok_ih F T E_miap E_ij) fun _ _ _ _ _ _ us h=>el1 us h fun _=>rfl
 have E_ht:=D_ht.ok M (fun _ _ F=>ok_ht F T E_wt2 E_cw2 E_wr E_ih) fun _ _ _ _ _ _ us h=>el1 us h fun _=>rfl
 have E_rt:=D_rt.ok M (fun _ _ F=>ok_rt F T E_ht mv E_i b_init) fun _ _ _ _ _ _ us h=>el1 us h fun _=>rfl
 have E_rwf:=D_rwf.ok M (fun _ _ F=>ok_rwf F T E_rt) fun _ _ _ _ _ _ us h=>el2 us h fun _ _=>rfl
 have E_nsah:=D_nsah.ok M (fun _ _ F=>ok_nsah F T (P:=P) (w:=w)) fun _ _ _ _ _ _ us h=>el2 us h fun _ _=>rfl
 have E_nsap:=D_nsap.ok M (fun _ _ F=>ok_nsap F T (P:=P) (w:=w)) fun _ _ _ _ _ _ us h=>el2 us h fun _ _=>rfl
 have E_nso:=D_nso.ok M (fun _ _ F=>ok_nso F T E_nsah E_se E_ss E_nsap) fun _ _ _ _ _ _ us h=>el2 us h fun _ _=>rfl
 have E_cw:=D_cw.ok M (fun _ _ F=>ok_cw F T (P:=P) (w:=w)) fun _ _ _ _ _ _ us h=>el3 us h fun _ _ _=>rfl
 have E_ctt:=D_ctt.ok M (fun _ _ F=>ok_ctt F T E_nso E_cw) fun _ _ _ _ _ _ us h=>el2 us h fun _ _=>rfl
 have E_iip:=D_iip.ok M (fun _ _ F=>ok_iip F T (P:=P) (w:=w)) fun _ _ _ _ _ _ us h=>el1 us h fun _=>rfl
 have E_ctb:=D_ctb.ok M (fun _ _ F=>ok_ctb F T E_b E_miap E_iip E_br) fun _ _ _ _ _ _ us h=>el1 us h fun _=>rfl
 have E_fc:=D_fc.ok M (fun _ _ F=>ok_fc F T E_ctt E_ctb) fun _ _ _ _ _ _ us h=>el2 us h fun _ _=>rfl
 have E_fct:=D_fct.ok M (fun _ _ F=>ok_fct F T E_rwf E_fc) fun _ _ _ _ _ _ us h=>el2 us h fun _ _=>rfl
 exact⟨E_c,E_fct⟩
abbrev rwL:W.OpenSpec:=PySem.Challenge.rw_rooftold_s13_free
theorem OA:rwL.wellSaid=true:=by decide+kernel
theorem G0{args:List W.WData}(h:rwL.pre args=true):∃(xk:Int)(nt:List Int),0<=xk/\nt.length<=4096/\RM.inB nt/\args=[.int xk,.list (nt.map W.WData.int)]/\
  ∀ds,rwL.claim.post args (.list ((RoofBNeutral.f [[13,xk],nt]).map W.WData.int)) ds=true:=by
 obtain⟨a,h1,h2,rfl⟩:=(W.OpenSpec.pre_iff OA args).mp h;clear h2 h;have key:∀a:Int×List Int×Unit,W.Codec.withinAll rwL.args a=true->∃(xk:Int)(nt:List Int),0<=xk/\nt.length<=4096/\RM.inB nt/\W.Codec.encAll rwL.args a=[.int xk,.list (nt.map W.WData.int)]/\
   ∀ds,rwL.claim.post (W.Codec.encAll rwL.args a) (.list ((RoofBNeutral.f [[13,xk],nt]).map W.WData.int)) ds=true:=by
  rintro⟨xk,nt,u'⟩ h1;have w1:(W.Codec.inInt 0 4294967295 xk&& ((W.Codec.inNat 0 4096 nt.length&& nt.all (W.Codec.inInt 0 255))&& true))=true:=h1;simp only[cg,W.Codec.inInt_iff,W.Codec.inNat_iff,fi]at w1;exact⟨xk,nt,w1.1.1,w1.2.1.1.2,fun x hx=>w1.2.1.2 x hx,rfl,fun ds=>(W.OpenSpec.post_iff OA h1 _ ds).mpr rfl⟩
 exact key a h1
theorem E8{K:W.Frag}{w:World}{s1:Shared}{mg mb:Str->Option Value}{q:Program}{loose:List Str}{yk mn:ExcName->Option Value}{cl:Str->Option Addr}{fa f fA fI c tb:Addr}{fd fdA fdI:FuncData}{args:List W.WData}{mj:List Value}{d:Adr}{dr:DefRec}
  (KX:K.In s1.heap) (T:PyProof.Rows.Top q loose yk mg mb s1.heap) (hg:s1.gens=#[]) (hmg:mg "free" =some (.ref fa)) (za:rwL.pre args=true) (yu:W.WellAll w.params s1.heap mj args)
  (TX:∀{mb2:Str->Option Value}{base:Heap},Mod K mg base->W.TopRead q loose mg mb2 base->Txt K mg base d) (mv:Mk K d.Roof fI) (F_init:Fun K "__init__" "Roof.__init__" s_i fI fdI)
  (D_c:aG K "counted" s_c)
  (D_m:aG K "moved" s_m)
  (D_br:aG K "by_row" s_br)
  (D_hco:aG K "half_cells_of" s_hco)
  (D_id:aG K "is_deeper" s_id)
  (D_do:aG K "depths_of" s_do)
  (D_ss:aG K "side_start" s_ss)
  (D_ho:aG K "height_over" s_ho)
  (D_ho2:aG K "heights_of" s_ho2)
  (D_lo:aG K "left_of" s_lo)
  (D_se:aG K "side_end" s_se)
  (D_ro:aG K "right_of" s_ro)
  (D_o:aG K "opposite" s_o)
  (D_fo2:aG K "facing_of" s_fo2)
  (D_fo3:aG K "facings_of" s_fo3)
  (D_tol:aG K "triangle_on_left" s_tol)
  (D_tor:aG K "triangle_on_right" s_tor)
  (D_b:aG K "beyond" s_b)
  (D_ta:aG K "triangle_across" s_ta)
  (D_nf:aG K "number_face" s_nf)
  (D_no:aG K "numbers_of" s_no)
  (D_fo:aG K "faces_of" s_fo)
  (D_pb:aG K "parts_between" s_pb)
  (D_dt:aG K "digit_told" s_dt)
  (D_nt:aG K "number_told" s_nt)
  (D_ct:aG K "corner_told" s_ct)
  (D_wt:aG K "walk_told" s_wt)
  (D_wt2:aG K "walks_told" s_wt2)
  (D_far:aG K "feet_across_rows" s_far)
  (D_cw2:aG K "cells_within" s_cw2)
  (D_haw:aG K "headings_along_walls" s_haw)
  (D_wf:aG K "walk_from" s_wf)
  (D_wr:aG K "walks_round" s_wr)
  (D_miap:aG K "meets_in_a_point" s_miap)
  (D_ij:aG K "is_joined" s_ij)
  (D_ih:aG K "is_house" s_ih)
  (D_ht:aG K "house_told" s_ht)
  (D_rt:aG K "roof_told" s_rt)
  (D_rwf:aG K "roof_with_face" s_rwf)
  (D_nsah:aG K "next_square_about_half" s_nsah)
  (D_nsap:aG K "next_square_about_point" s_nsap)
  (D_nso:aG K "next_squares_over" s_nso)
  (D_cw:aG K "cells_wanting" s_cw)
  (D_ctt:aG K "cells_that_touch" s_ctt)
  (D_iip:aG K "is_in_plan" s_iip)
  (D_ctb:aG K "cells_to_build" s_ctb)
  (D_fc:aG K "free_cells" s_fc)
  (D_fct:aG K "free_cells_told" s_fct)
  (n_face:W.nsIn K mainGlobals "free" =some (some (.ref f))) (F_face:Fun K "free" "free" s_f f fd) (Cn:fd.code=.ref c) (mx:W.tabIn K "free" =some (c,tb)) (yx:(PyProof.Rows.recsOf q).find? (fun e=>e.name==("free" : Str))=some dr) (Cy:K.lookup tb=none)
  (n_ans:W.nsIn K mainGlobals "answer_or_refusal" =some (some (.ref fA))) (F_ans:Fun K "answer_or_refusal" "answer_or_refusal" uZ fA fdA)
  (jA:W.nsIn K mainGlobals "NoHouse" =some (some (.ref d.bW))) (iU:∀{h:Heap},K.In h->gX h d.bW)
  (e6:W.nsIn K mainGlobals "OutOfBounds" =some (some (.ref d.cF))) (dU:∀{h:Heap},K.In h->gX h d.cF)
  (j9:W.nsIn K mainGlobals "Outside" =some (some (.ref d.fK))) (iT:∀{h:Heap},K.In h->gX h d.fK)
  (lG:W.nsIn K mainGlobals "NoFace" =some (some (.ref d.fB))) (k9:∀{h:Heap},K.In h->gX h d.fB)
  (lF:W.nsIn K mainGlobals "NoSize" =some (some (.ref d.iR))) (k8:∀{h:Heap},K.In h->gX h d.iR)
  (ap:[d.bW,d.cF,d.fK,d.fB,d.iR].Nodup):
  wpAny (model rwL.prog w) callerA (call (.ref fa) mj) (fun v s'=>W.GoodWG rwL.claim cl mn args s1 (.ok (.ret v)) s') (fun e s'=>W.GoodWG rwL.claim cl mn args s1 (.error e) s') s1:=by
 obtain⟨xk,nt,Am,jr,hBt,rfl,Bs⟩:=G0 za;have e:=hmg.symm.trans (W.mg_of KX T.g n_face);cases e;obtain⟨hC,ht⟩:=W.tab_of (x:= "free") T KX yx mx;obtain⟨txk,rt,ut,rfl,hOt,hIt⟩:∃txk rt ut,mj=[.int xk txk,.ref rt]/\s1.heap.get? rt=some (HV ut)/\PyProof.Rows.IntsAre ut nt:=by
  cases yu with
  |cons hxk yu=>
   cases yu with
   |cons ht yu=>
    cases yu;cases hxk;cases ht with
    |list hot hwt=>exact⟨_,_,_,rfl,hot,uR hwt⟩
 refine wpAny_call (codeAny_mono (F0 (P:=rwL.prog) (w:=w) (K:=K) (k:=14) (tb:=tb) (fd:=fd) (ps:=["k","t"]) (sp:=sp_f K tb) (LA:=[(rt,ut,nt)]) (vs:=[.int xk,.ref rt]) (R:=fun r=>r=RoofBNeutral.f [[13,xk],nt])
  KX T.g T.b T.builtins T.nolimit hg ?_ ht (FU hC) Cy ⟨rfl,by decide,by decide⟩ (.cons ⟨txk,rfl⟩ (.cons rfl .nil)) ?_ ?_ ?_) fun r s' h=>?_)
 ·intro p hp;rcases ak.mp hp with rfl|hp
  ·exact⟨hOt,hIt,de jr (by decide)⟩
  exact(nomatch hp)
 ·intro base M kp;obtain⟨mb2,hb1,Af⟩:=M.blt;have TR:W.TopRead q loose mg mb2 base:=⟨M.glob,hb1,M.nolimit,Af,T.free⟩;have TX0:=TX M TR;have AN:Ans K mg base d fA fdA:=⟨F_ans,W.mg_of M.kin M.glob n_ans,F_ans.binds (fun _ _ _ _ _ _ us hl=>match us,hl with|[_],_=>rfl),W.mg_of M.kin M.glob jA,iU M.kin,W.mg_of M.kin M.glob e6,dU M.kin,W.mg_of M.kin M.glob j9,iT M.kin,W.mg_of M.kin M.glob lG,k9 M.kin,W.mg_of M.kin M.glob lF,k8 M.kin,ap,L9 T ht kp⟩;obtain⟨E_c,E_fct⟩:=JB (P:=rwL.prog) (w:=w) M TX0 mv F_init D_c D_m D_br D_hco D_id D_do D_ss D_ho D_ho2 D_lo D_se D_ro D_o D_fo2 D_fo3 D_tol D_tor D_b D_ta D_nf D_no D_fo D_pb D_dt D_nt D_ct D_wt D_wt2 D_far D_cw2 D_haw D_wf D_wr D_miap D_ij D_ih D_ht D_rt D_rwf D_nsah D_nsap D_nso D_cw D_ctt D_iip D_ctb D_fc D_fct;exact ok_f F_face TX0 AN Cn (AG hC kp) E_c E_fct
 ·exact F_face.binds (ps:=["k","t"]) (fun _ _ _ _ _ _ us hl=>match us,hl with|[_,_],_=>rfl) s1 _ KX rfl
 ·intro H hA hS;exact⟨xk,rt,nt,rfl,hS (rt,ut,nt) (bb),jr,hBt,Am,hA,fun p H' hp=>⟨p,_,rfl,hp,rfl⟩⟩
 ·obtain⟨⟨p,its,n,ms,rfl,zi,pr,rfl⟩,h2,h3,h4⟩:=h;exact⟨.inl ⟨.ref p,.list ((RoofBNeutral.f [[13,xk],nt]).map W.WData.int),_,rfl,fun _=>rfl,.list zi rfl rfl (by simpa using sN pr),Bs _,fun z=>(nomatch z)⟩,h2,h3,h4⟩
structure Facts(K:W.Frag)(d:Adr)(fI:Addr)(fdI:FuncData):Prop where
 txt:∀{p:Program}{loose:List Str}{mg mb:Str->Option Value}{base:Heap},Mod K mg base->W.TopRead p loose mg mb base->Txt K mg base d
 mkR:Mk K d.Roof fI
 init:Fun K "__init__" "Roof.__init__" s_i fI fdI
 jA:W.nsIn K mainGlobals "NoHouse" =some (some (.ref d.bW))
 iU:∀{h:Heap},K.In h->gX h d.bW
 e6:W.nsIn K mainGlobals "OutOfBounds" =some (some (.ref d.cF))
 dU:∀{h:Heap},K.In h->gX h d.cF
 j9:W.nsIn K mainGlobals "Outside" =some (some (.ref d.fK))
 iT:∀{h:Heap},K.In h->gX h d.fK
 lG:W.nsIn K mainGlobals "NoFace" =some (some (.ref d.fB))
 k9:∀{h:Heap},K.In h->gX h d.fB
 lF:W.nsIn K mainGlobals "NoSize" =some (some (.ref d.iR))
 k8:∀{h:Heap},K.In h->gX h d.iR
 ap:[d.bW,d.cF,d.fK,d.fB,d.iR].Nodup
theorem IQ{K:W.Frag}{kg ju kr ku lu jy rALL_SIDES qg rSIDE_STARTS md rHALVES_ABOUT rHALVES_AT_A_POINT fI:Addr}{tLINE_FEED ro rn tDIGIT_ZERO tDIGIT_NINE tGREATEST_NUMBER tMOST_DIGITS tFEWEST_CORNERS tCELLS_IN_A_ROW tMOST_CELLS:Tok}
  {nm0 q0 nm1 q1 nm2 q2 nm3 q3 nm4 q4:Str}{N0 N1 N2 N3 N4:Addr}{bs0 sub0 bs1 sub1 bs2 sub2 bs3 sub3 bs4 sub4:List Value}{Ad ab0 hd1 ab1 Ac ab2 hd3 ab3 hd4 ab4:Bool}{sn0 sn1 sn2 sn3 sn4:List Str}{col0 col1 col2 col3 col4:Option Bool}{dd0 dd1 dd2 dd3 dd4:Option Addr}{u0 v0 w0 x0 y0 u1 v1 w1 x1 y1 u2 v2 w2 x2 y2 u3 v3 w3 x3 y3 u4 v4 w4 x4 y4:Option Value}{id0 id1 id2 id3 id4:String}
  {oc:Value}{od an:Option Addr}{mf:Array (Option Value)}{kV kx pm jo ct:Value}
  (n_ALL_SIDES:W.nsIn K mainGlobals "ALL_SIDES" =some (some (.ref rALL_SIDES)))
  (c_ALL_SIDES:wR K rALL_SIDES=true)
  (n_STEPS:W.nsIn K mainGlobals "STEPS" =some (some (.ref qg)))
  (c_STEPS:tW K qg [(0,-1),(1,0),(0,1),(-1,0)]=true)
  (n_SIDE_STARTS:W.nsIn K mainGlobals "SIDE_STARTS" =some (some (.ref rSIDE_STARTS)))
  (c_SIDE_STARTS:tW K rSIDE_STARTS [(0,0),(1,0),(1,1),(0,1)]=true)
  (n_QUARTERS:W.nsIn K mainGlobals "QUARTERS" =some (some (.ref md)))
  (c_QUARTERS:tW K md [(0,0),(1,0),(0,1),(1,1)]=true)
  (n_HALVES_ABOUT:W.nsIn K mainGlobals "HALVES_ABOUT" =some (some (.ref rHALVES_ABOUT)))
  (c_HALVES_ABOUT:tW K rHALVES_ABOUT [(-1,-1),(0,-1),(1,-1),(-1,0),(1,0),(-1,1),(0,1),(1,1)]=true)
  (n_HALVES_AT_A_POINT:W.nsIn K mainGlobals "HALVES_AT_A_POINT" =some (some (.ref rHALVES_AT_A_POINT)))
  (c_HALVES_AT_A_POINT:tW K rHALVES_AT_A_POINT [(-1,-1),(0,-1),(-1,0),(0,0)]=true)
  (n_LINE_FEED:W.nsIn K mainGlobals "LINE_FEED" =some (some (.int 10 tLINE_FEED)))
  (n_BLANK:W.nsIn K mainGlobals "BLANK" =some (some (.int 32 ro)))
  (n_COMMA:W.nsIn K mainGlobals "COMMA" =some (some (.int 44 rn)))
  (n_DIGIT_ZERO:W.nsIn K mainGlobals "DIGIT_ZERO" =some (some (.int 48 tDIGIT_ZERO)))
  (n_DIGIT_NINE:W.nsIn K mainGlobals "DIGIT_NINE" =some (some (.int 57 tDIGIT_NINE)))
  (n_GREATEST_NUMBER:W.nsIn K mainGlobals "GREATEST_NUMBER" =some (some (.int 64 tGREATEST_NUMBER)))
  (n_MOST_DIGITS:W.nsIn K mainGlobals "MOST_DIGITS" =some (some (.int 2 tMOST_DIGITS)))
  (n_FEWEST_CORNERS:W.nsIn K mainGlobals "FEWEST_CORNERS" =some (some (.int 4 tFEWEST_CORNERS)))
  (n_CELLS_IN_A_ROW:W.nsIn K mainGlobals "CELLS_IN_A_ROW" =some (some (.int 64 tCELLS_IN_A_ROW)))
  (n_MOST_CELLS:W.nsIn K mainGlobals "MOST_CELLS" =some (some (.int 256 tMOST_CELLS)))
  (z_len:W.nsIn K mainGlobals "len" =some none)
  (z_min:W.nsIn K mainGlobals "min" =some none)
  (z_max:W.nsIn K mainGlobals "max" =some none)
  (z_any:W.nsIn K mainGlobals "any" =some none)
  (z_list:W.nsIn K mainGlobals "list" =some none)
  (z_dict:W.nsIn K mainGlobals "dict" =some none)
  (z_sorted:W.nsIn K mainGlobals "sorted" =some none)
  (z_range:W.nsIn K mainGlobals "range" =some none)
  (z_enumerate:W.nsIn K mainGlobals "enumerate" =some none)
  (n_NoHouse:W.nsIn K mainGlobals "NoHouse" =some (some (.ref kg)))
  (e_NoHouse:W.excIn K kg bmE "Exception.__new__" =true)
  (n_Roof:W.nsIn K mainGlobals "Roof" =some (some (.ref jy)))
  (q_pg:W.plainGet K jy Str.empty=true)
  (q_hd:W.hasDictIn K jy=true)
  (q_po:W.plainOver K jy=true)
  (q_sa:W.findIn K (.ref jy) "__setattr__" =some (some (.builtin "object.__setattr__")))
  (f_cells:W.findIn K (.ref jy) "cells" =some none)
  (f_depths:W.findIn K (.ref jy) "depths" =some none)
  (f_heights:W.findIn K (.ref jy) "heights" =some none)
  (f_facings:W.findIn K (.ref jy) "facings" =some none)
  (f_numbers:W.findIn K (.ref jy) "numbers" =some none)
  (xS:W.findIn K (.ref jy) "faces" =some none)
  (n_NoFace:W.nsIn K mainGlobals "NoFace" =some (some (.ref ku)))
  (e_NoFace:W.excIn K ku bmE "Exception.__new__" =true)
  (n_OutOfBounds:W.nsIn K mainGlobals "OutOfBounds" =some (some (.ref ju)))
  (n_Outside:W.nsIn K mainGlobals "Outside" =some (some (.ref kr)))
  (n_NoSize:W.nsIn K mainGlobals "NoSize" =some (some (.ref lu)))
  (l_NoHouse:K.lookup kg=some (excClassObj nm0 q0 kg N0 bs0 bmE Ad sn0 sub0 ab0 col0 dd0 u0 v0 w0 x0 y0 id0))
  (l_OutOfBounds:K.lookup ju=some (excClassObj nm1 q1 ju N1 bs1 bmE hd1 sn1 sub1 ab1 col1 dd1 u1 v1 w1 x1 y1 id1))
  (l_Outside:K.lookup kr=some (excClassObj nm2 q2 kr N2 bs2 bmE Ac sn2 sub2 ab2 col2 dd2 u2 v2 w2 x2 y2 id2))
  (l_NoFace:K.lookup ku=some (excClassObj nm3 q3 ku N3 bs3 bmE hd3 sn3 sub3 ab3 col3 dd3 u3 v3 w3 x3 y3 id3))
  (l_NoSize:K.lookup lu=some (excClassObj nm4 q4 lu N4 bs4 bmE hd4 sn4 sub4 ab4 col4 dd4 u4 v4 w4 x4 y4 id4))
  (ap:[kg,ju,kr,ku,lu].Nodup)
  (m_mk:W.makesIn K jy=true)
  (m_in:W.findIn K (.ref jy) "__init__" =some (some (.ref fI)))
  (m_fn:W.isFn K (.ref fI)=true)
  (m_kp:W.keepIn K (.ref jy)=true)
  (i_l:K.lookup fI=some ⟨oc,od,.func (W.fnOf "__init__" "Roof.__init__" (hZ s_i) (f7 s_i) (aH s_i) .none kV kx pm an jo ct),mf⟩)
  (i_c:W.codeIn K jo "Roof.__init__" =true)
  (i_k:W.keepIn K (.ref fI)=true)
  : ∃d fI fdI,Facts K d fI fdI:=
 ⟨⟨kg,ju,kr,ku,lu,jy⟩,fI,_,⟨fun M TR=>⟨⟨rALL_SIDES,W.mg_of M.kin M.glob n_ALL_SIDES,fun H=>GK c_ALL_SIDES H⟩,⟨qg,W.mg_of M.kin M.glob n_STEPS,tV c_STEPS⟩,⟨rSIDE_STARTS,W.mg_of M.kin M.glob n_SIDE_STARTS,tV c_SIDE_STARTS⟩,⟨md,W.mg_of M.kin M.glob n_QUARTERS,tV c_QUARTERS⟩,⟨rHALVES_ABOUT,W.mg_of M.kin M.glob n_HALVES_ABOUT,tV c_HALVES_ABOUT⟩,⟨rHALVES_AT_A_POINT,W.mg_of M.kin M.glob n_HALVES_AT_A_POINT,tV c_HALVES_AT_A_POINT⟩,⟨tLINE_FEED,W.mg_of M.kin M.glob n_LINE_FEED⟩,⟨ro,W.mg_of M.kin M.glob n_BLANK⟩,⟨rn,W.mg_of M.kin M.glob n_COMMA⟩,⟨tDIGIT_ZERO,W.mg_of M.kin M.glob n_DIGIT_ZERO⟩,⟨tDIGIT_NINE,W.mg_of M.kin M.glob n_DIGIT_NINE⟩,⟨tGREATEST_NUMBER,W.mg_of M.kin M.glob n_GREATEST_NUMBER⟩,⟨tMOST_DIGITS,W.mg_of M.kin M.glob n_MOST_DIGITS⟩,⟨tFEWEST_CORNERS,W.mg_of M.kin M.glob n_FEWEST_CORNERS⟩,⟨tCELLS_IN_A_ROW,W.mg_of M.kin M.glob n_CELLS_IN_A_ROW⟩,⟨tMOST_CELLS,W.mg_of M.kin M.glob n_MOST_CELLS⟩,W.mg_none_of M.kin M.glob z_len,W.mg_none_of M.kin M.glob z_min,W.mg_none_of M.kin M.glob z_max,W.mg_none_of M.kin M.glob z_any,W.mg_none_of M.kin M.glob z_list,W.mg_none_of M.kin M.glob z_dict,W.mg_none_of M.kin M.glob z_sorted,W.mg_none_of M.kin M.glob z_range,W.mg_none_of M.kin M.glob z_enumerate,W.own_of_in M.kin TR n_NoHouse e_NoHouse,W.mg_of M.kin M.glob n_Roof,⟨q_pg,q_hd,q_po,q_sa⟩,f_cells,f_depths,f_heights,f_facings,f_numbers,xS,W.own_of_in M.kin TR n_NoFace e_NoFace⟩,⟨m_mk,m_in,m_fn,m_kp⟩,C7 i_l i_c i_k,n_NoHouse,(fun X=>oP X l_NoHouse),n_OutOfBounds,(fun X=>oP X l_OutOfBounds),n_Outside,(fun X=>oP X l_Outside),n_NoFace,(fun X=>oP X l_NoFace),n_NoSize,(fun X=>oP X l_NoSize),ap⟩⟩
theorem KY{K:W.Frag}{f c tb:Addr}{oc oc2:Value}{od od2 an:Option Addr}{mf rq:Array (Option Value)}{vs:Array Value}{kV kx pm jo ct:Value}(a:W.nsIn K mainGlobals "free" =some (some (.ref f)))
  (l:K.lookup f=some ⟨oc,od,.func (W.fnOf "free" "free" (hZ s_f) (f7 s_f) (aH s_f) .none kV kx pm an jo ct),mf⟩) (e:jo=.ref c) (h:W.codeIn K jo "free" =true) (k:W.keepIn K (.ref f)=true)
  (l2:K.lookup c=some ⟨oc2,od2,.fields vs,rq⟩) (hv:vs[11]? =some (.ref tb)) (kt:K.lookup tb=none):∃f fd c tb,W.nsIn K mainGlobals "free" =some (some (.ref f))/\Fun K "free" "free" s_f f fd/\fd.code=.ref c/\W.tabIn K "free" =some (c,tb)/\K.lookup tb=none:=
 ⟨f,_,c,tb,a,C7 l h k,e,LX a l e l2 hv,kt⟩
end RT
open PySem
set_option maxHeartbeats 0 in
theorem PySem.Challenge.cw_rooftold_s13_free_holds : PySem.Challenge.rw_rooftold_s13_free.Holds := by
 refine W.holds_os (q:=HP.vw) (loose:=[]) (Xt:=HP.xt) (XP:=W.XL HP.vw []) (Yf:=W.Hook.obs (W.kHook HP.hpK HP.as HP.hkE)) (Ya:=W.Hook.val (W.kHook HP.hpK HP.as HP.hkE)) (YP:=W.Hook.says (W.kHook HP.hpK HP.as HP.hkE)) (N:=6400) HP.left (W.Hook.of _) (W.Hook.keeps _) (fun s e=>W.xl_of s (Bool.and_eq_true_iff.mp e).1) W.XL.keeps (by rfl) (by rfl) (by rfl) (fun s e=>W.recFacts_of (Bool.and_eq_true_iff.mp e).2) W.os_shapes (by decide+kernel) (by decide+kernel) ⟨rfl,rfl,rfl,rfl,rfl,by decide+kernel⟩ ⟨[.int 0,.list []],by decide+kernel,by decide+kernel⟩ ?_;k_fillS;intro w s0 s1 mg mb G Y fa o pm cd kx dV kV ho hd nu hD hmg hg args mj as za hlay yy yu hlo;have KX:=W.kIn_of Y;have FX:∃d fI fdI,RT.Facts (L2.KOf KX) d fI fdI:=by
  dsimp only[L2.KOf];refine' RT.IQ ?n_ALL_SIDES ?c_ALL_SIDES ?n_STEPS ?c_STEPS ?n_SIDE_STARTS ?c_SIDE_STARTS ?n_QUARTERS ?c_QUARTERS ?n_HALVES_ABOUT ?c_HALVES_ABOUT ?n_HALVES_AT_A_POINT ?c_HALVES_AT_A_POINT ?n_LINE_FEED ?n_BLANK ?n_COMMA ?n_DIGIT_ZERO ?n_DIGIT_NINE ?n_GREATEST_NUMBER ?n_MOST_DIGITS ?n_FEWEST_CORNERS ?n_CELLS_IN_A_ROW ?n_MOST_CELLS ?z_len ?z_min ?z_max ?z_any ?z_list ?z_dict ?z_sorted ?z_range ?z_enumerate ?n_NoHouse ?e_NoHouse ?n_Roof ?q_pg ?q_hd ?q_po ?q_sa ?f_cells ?f_depths ?f_heights ?f_facings ?f_numbers ?xS ?n_NoFace ?e_NoFace ?n_OutOfBounds ?n_Outside ?n_NoSize ?l_NoHouse ?l_OutOfBounds ?l_Outside ?l_NoFace ?l_NoSize ?ap ?m_mk ?m_in ?m_fn ?m_kp ?i_l ?i_c ?i_k;case n_ALL_SIDES|n_STEPS|n_SIDE_STARTS|n_QUARTERS|n_HALVES_ABOUT|n_HALVES_AT_A_POINT|n_LINE_FEED|n_BLANK|n_COMMA|n_DIGIT_ZERO|n_DIGIT_NINE|n_GREATEST_NUMBER|n_MOST_DIGITS|n_FEWEST_CORNERS|n_CELLS_IN_A_ROW|n_MOST_CELLS|z_len|z_min|z_max|z_any|z_list|z_dict|z_sorted|z_range|z_enumerate|n_NoHouse|n_Roof|q_pg|q_hd|q_po|q_sa|f_cells|f_depths|f_heights|f_facings|f_numbers|xS|n_NoFace|n_OutOfBounds|n_Outside|n_NoSize|l_NoHouse|l_OutOfBounds|l_Outside|l_NoFace|l_NoSize|m_mk|m_in|m_fn|m_kp|i_l|i_c|i_k=>k_is
  case c_ALL_SIDES|c_STEPS|c_SIDE_STARTS|c_QUARTERS|c_HALVES_ABOUT|c_HALVES_AT_A_POINT=>kernel_rfl
  case e_NoHouse|e_NoFace=>k_exc
  case ap=>decide
 have FF:∃f fd c tb,W.nsIn (L2.KOf KX) mainGlobals "free" =some (some (.ref f))/\L2.Fun (L2.KOf KX) "free" "free" RT.s_f f fd/\fd.code=.ref c/\W.tabIn (L2.KOf KX) "free" =some (c,tb)/\(L2.KOf KX).lookup tb=none:=by
  dsimp only[L2.KOf];refine' RT.KY ?a ?l ?e ?h ?k ?l2 ?hv ?kt
  (case a=>k_is)
  (case l=>k_is)
  (case e=>rfl)
  (case h=>k_is)
  (case k=>k_is)
  (case l2=>k_is)
  (case hv=>rfl)
  (case kt=>kernel_rfl)
 have D_c:L3.aG (L2.KOf KX) "counted" RT.s_c:=RT.dI;have D_m:L3.aG (L2.KOf KX) "moved" RT.s_m:=RT.dI;have D_br:L3.aG (L2.KOf KX) "by_row" RT.s_br:=RT.dI;have D_hco:L3.aG (L2.KOf KX) "half_cells_of" RT.s_hco:=RT.dI;have D_id:L3.aG (L2.KOf KX) "is_deeper" RT.s_id:=RT.dI;have D_do:L3.aG (L2.KOf KX) "depths_of" RT.s_do:=RT.dI;have D_ss:L3.aG (L2.KOf KX) "side_start" RT.s_ss:=RT.dI;have D_ho:L3.aG (L2.KOf KX) "height_over" RT.s_ho:=RT.dI;have D_ho2:L3.aG (L2.KOf KX) "heights_of" RT.s_ho2:=RT.dI;have D_lo:L3.aG (L2.KOf KX) "left_of" RT.s_lo:=RT.dI;have D_se:L3.aG (L2.KOf KX) "side_end" RT.s_se:=RT.dI;have D_ro:L3.aG (L2.KOf KX) "right_of" RT.s_ro:=RT.dI;have D_o:L3.aG (L2.KOf KX) "opposite" RT.s_o:=RT.dI;have D_fo2:L3.aG (L2.KOf KX) "facing_of" RT.s_fo2:=RT.dI;have D_fo3:L3.aG (L2.KOf KX) "facings_of" RT.s_fo3:=RT.dI;have D_tol:L3.aG (L2.KOf KX) "triangle_on_left" RT.s_tol:=RT.dI;have D_tor:L3.aG (L2.KOf KX) "triangle_on_right" RT.s_tor:=RT.dI;have D_b:L3.aG (L2.KOf KX) "beyond" RT.s_b:=RT.dI;have D_ta:L3.aG (L2.KOf KX) "triangle_across" RT.s_ta:=RT.dI;have D_nf:L3.aG (L2.KOf KX) "number_face" RT.s_nf:=RT.dI;have D_no:L3.aG (L2.KOf KX) "numbers_of" RT.s_no:=RT.dI;have D_fo:L3.aG (L2.KOf KX) "faces_of" RT.s_fo:=RT.dI;have D_pb:L3.aG (L2.KOf KX) "parts_between" RT.s_pb:=RT.dI;have D_dt:L3.aG (L2.KOf KX) "digit_told" RT.s_dt:=RT.dI;have D_nt:L3.aG (L2.KOf KX) "number_told" RT.s_nt:=RT.dI;have D_ct:L3.aG (L2.KOf KX) "corner_told" RT.s_ct:=RT.dI
 have D_wt:L3.aG (L2.KOf KX) "walk_told" RT.s_wt:=RT.dI;have D_wt2:L3.aG (L2.KOf KX) "walks_told" RT.s_wt2:=RT.dI;have D_far:L3.aG (L2.KOf KX) "feet_across_rows" RT.s_far:=RT.dI;have D_cw2:L3.aG (L2.KOf KX) "cells_within" RT.s_cw2:=RT.dI;have D_haw:L3.aG (L2.KOf KX) "headings_along_walls" RT.s_haw:=RT.dI;have D_wf:L3.aG (L2.KOf KX) "walk_from" RT.s_wf:=RT.dI;have D_wr:L3.aG (L2.KOf KX) "walks_round" RT.s_wr:=RT.dI;have D_miap:L3.aG (L2.KOf KX) "meets_in_a_point" RT.s_miap:=RT.dI;have D_ij:L3.aG (L2.KOf KX) "is_joined" RT.s_ij:=RT.dI;have D_ih:L3.aG (L2.KOf KX) "is_house" RT.s_ih:=RT.dI;have D_ht:L3.aG (L2.KOf KX) "house_told" RT.s_ht:=RT.dI;have D_rt:L3.aG (L2.KOf KX) "roof_told" RT.s_rt:=RT.dI;have D_rwf:L3.aG (L2.KOf KX) "roof_with_face" RT.s_rwf:=RT.dI;have D_nsah:L3.aG (L2.KOf KX) "next_square_about_half" RT.s_nsah:=RT.dI;have D_nsap:L3.aG (L2.KOf KX) "next_square_about_point" RT.s_nsap:=RT.dI;have D_nso:L3.aG (L2.KOf KX) "next_squares_over" RT.s_nso:=RT.dI;have D_cw:L3.aG (L2.KOf KX) "cells_wanting" RT.s_cw:=RT.dI;have D_ctt:L3.aG (L2.KOf KX) "cells_that_touch" RT.s_ctt:=RT.dI;have D_iip:L3.aG (L2.KOf KX) "is_in_plan" RT.s_iip:=RT.dI;have D_ctb:L3.aG (L2.KOf KX) "cells_to_build" RT.s_ctb:=RT.dI;have D_fc:L3.aG (L2.KOf KX) "free_cells" RT.s_fc:=RT.dI;have D_fct:L3.aG (L2.KOf KX) "free_cells_told" RT.s_fct:=RT.dI;have D_answer_or_refusal:L3.aG (L2.KOf KX) "answer_or_refusal" RT.uZ:=RT.dI;obtain⟨d,fI,fdI,FX⟩:=FX;obtain⟨f,fd,c,tb,n_f,F_f,Cn,mx,Cy⟩:=FF
 obtain⟨fA,fdA,n_ans,F_ans⟩:=D_answer_or_refusal.ex;exact RT.E8 KX G.T hg hmg za yu FX.txt FX.mkR FX.init D_c D_m D_br D_hco D_id D_do D_ss D_ho D_ho2 D_lo D_se D_ro D_o D_fo2 D_fo3 D_tol D_tor D_b D_ta D_nf D_no D_fo D_pb D_dt D_nt D_ct D_wt D_wt2 D_far D_cw2 D_haw D_wf D_wr D_miap D_ij D_ih D_ht D_rt D_rwf D_nsah D_nsap D_nso D_cw D_ctt D_iip D_ctb D_fc D_fct n_f F_f Cn mx rfl Cy n_ans F_ans FX.jA FX.iU FX.e6 FX.dU FX.j9 FX.iT FX.lG FX.k9 FX.lF FX.k8 FX.ap
