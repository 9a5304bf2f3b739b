import PyProof.Rows.All
import Wide.All
import OpenK.AllK
import Wide.FinOn
import PyProof.EqAt
import PyProof.EqKinds
import PyProof.TupleCall
import KE.BitLaws
import RoofBuilt
import WqajbzNeutral
import KE.KSortTupG
import KE.KLam
import KE.OsGo
import Open.SpecLaws
import PySem.Challenge.RW_rooftold_s05_walls
set_option Elab.async false
set_option linter.all false
set_option genSizeOfSpec false
set_option maxRecDepth 100000
set_option maxHeartbeats 4000000
noncomputable section
open Nat (le_of_lt not_lt mod_lt mod_mod)
open Int (le_min zero_add lt_or_le ofNat_le le_refl min_assoc min_comm)
open List (of_mem_zip any_cons nodup_nil take_zero filter_nil any_map nil_append countP_cons filter_congr map_id map_flatMap flatMap_map mem_flatten getElem?_drop ext_getElem? length_range cons_ne_nil take_length)
open Bool (or_eq_true)
open Array (getElem?_eq_none)
def aa:=@PySem.wpAny_bind
def af:=@if_neg
def ag:=@List.length_map
def ah:=@if_pos
def ai:=@PySem.wpAny_pure
def aj:=@List.length_append
def ak:=@List.getElem?_eq_some_iff
def ao:=@PySem.Heap.get?_push_of_some
def aq:=@List.mem_cons_of_mem
def ar:=@List.mem_cons
def au:=@List.mem_map
def aw:=@List.mem_append
def ax:=@List.getElem?_map
def ay:=@Nat.le_refl
def az:=@List.mem_of_getElem?
def bb:=@of_decide_eq_true
def bc:=@PySem.Heap.get?_push_size
def bf:=@List.getElem?_eq_getElem
def bg:=@List.size_toArray
def bh:=@List.mem_append_right
def bj:=@List.mem_cons_self
def bo:=@List.map_cons
def bp:=@Bool.false_ne_true
def bq:=@List.length_cons
def br:=@List.take_of_length_le
def bu:=@PySem.Heap.lt_size
def bw:=@List.length_take
def bx:=@List.mem_flatMap
def bz:=@Nat.mod_two_eq_zero_or_one
def cb:=@Nat.lt_of_lt_of_le
def cc:=@List.mem_append_left
def cf:=@List.mem_filter
def cg:=@List.map_append
def cj:=@Nat.zero_le
def cv:=@List.nodup_append
def da:=@Nat.ne_of_lt
def dc:=@List.append_nil
def de:=@List.nodup_cons
def df:=@Nat.le_trans
def dh:=@Array.getD_eq_getD_getElem?
def di:=@Bool.eq_iff_iff
def dj:=@List.flatMap_cons
def dk:=@List.getElem?_append_right
def dm:=@Bool.and_eq_true
def dq:=@Array.length_toList
def dt:=@List.mem_iff_getElem?
def dv:=@List.append_assoc
def dz:=@Int.not_lt
def ej:=@List.filterMap_cons
def fg:=@List.length_nil
def fh:=@List.map_congr_left
def fi:=@List.flatten_append
def fj:=@Int.toNat_of_nonneg
def fk:=@List.length_drop
def fo:=@List.any_eq_true
def fu:=@List.map_map
def fx:=@List.eq_nil_of_length_eq_zero
def fy:=@PySem.Heap.size_push
def gb:=@List.getElem?_take_of_lt
def gc:=@Int.natCast_nonneg
def gd:=@Array.getElem?_eq_getElem
def gf:=@List.flatMap_append
def gg:=@List.not_mem_nil
def gh:=@List.pairwise_cons
def gj:=@List.filter_append
def gk:=@Nat.lt_of_le_of_lt
def gm:=@List.getElem?_append_left
def gp:=@List.lookup_cons
def gr:=@List.length_pos_iff
def gu:=@Array.getElem?_eq_some_iff
def gw:=@Int.min_le_right
def gx:=@List.length_filter_le
def gy:=@List.length_dropLast
def gz:=@Nat.lt_irrefl
def ia:=@List.getElem?_cons_succ
def ib:=@Int.min_le_left
def ie:=@Nat.le_of_eq
def ig:=@Bool.not_eq_true'
def ij:=@Bool.eq_false_iff
def ik:=@List.getElem?_eq_none
def iq:=@List.mem_singleton
def ir:=@List.all_eq_true
def iu:=@Array.getElem?_toList
def iw:=@List.flatten_cons
def iy:=@List.mem_range
def iz:=@Int.not_le
def ja:=@List.map_nil
def jb:=@Nat.lt_succ_of_lt
def jc:=@Bool.false_eq_true
def jd:=@Int.le_trans
def je:=@List.contains_iff_mem
def jf:=@List.take_append_drop
def jg:=@List.dropLast_concat_getLast
def jh:=@Int.le_add_of_sub_right_le
def ji:=@List.find?_cons
def jj:=@List.range_succ
def jk:=@List.pairwise_map
def jl:=@PySem.Heap.get?_update_other
def jm:=@Array.getElem?_setIfInBounds
def jn:=@List.getD_eq_getElem?_getD
def jo:=@Nat.ne_of_gt
def jq:=@Int.add_neg_cancel_right
def jr:=@List.cons_append
def js:=@List.getElem?_zip_eq_some
def jt:=@List.getElem?_eq_none_iff
def ju:=@List.pairwise_iff_getElem
def jv:=@Nat.le_of_succ_le
def jw:=@Int.toNat_natCast
namespace HP
open PySem PySem.W PyProof.Rows
noncomputable section
noncomputable def tp(i:Nat):Stmt:=PySem.Challenge.pw_rooftold_s05_walls.main.body.getD i (.Pass ⟨0,0,0,0⟩)
noncomputable def ic(s:Stmt)(j:Nat):Stmt:=match s with
 | .ClassDef _ _ _ body _ _ _ _ _ _ _=>body.getD j (.Pass ⟨0,0,0,0⟩)
 |_=>.Pass ⟨0,0,0,0⟩
noncomputable def dA(s:Stmt):Arguments:=match s with
 | .FunctionDef _ a _ _ _ _ _ _ _ _=>a
 |_=>{posonlyargs:=[],args:=[],vararg:=none,kwonlyargs:=[],kw_defaults:=[],kwarg:=none,defaults:=[]}
noncomputable def dB(s:Stmt):List Stmt:=match s with
 | .FunctionDef _ _ b _ _ _ _ _ _ _=>b
 |_=>[]
noncomputable def dS(s:Stmt):Scope:=match s with
 | .FunctionDef _ _ _ _ _ _ sc _ _ _=>sc
 |_=>{kind:=.function,names:=[],isGenerator:=false,isCoroutine:=false}
abbrev fl:String:= "/claim/cut.py"
noncomputable abbrev vs(s:String)(t:Tok):Value:=.str (Str.ofString s) t
noncomputable abbrev vi(i:Int)(t:Tok):Value:=.int i t
noncomputable abbrev vr(a:Addr):Value:=.ref a
noncomputable abbrev eN(P:Params)(s:String)(t:Tok)(v:Value):DictEntry:={hash:=PyData.keyHash P (Str.ofString s),key:=.str (Str.ofString s) t,val:=v}
noncomputable abbrev oT(l:Array Value):Obj:={cls:=.type "tuple",data:=.seq l}
noncomputable abbrev oK(l:Array Value):Obj:={cls:=.type "code",data:=.fields l}
noncomputable abbrev oC(n:String)(t:Nat)(l c g:Int)(r:Addr)(x:Int)(r1 r2 r3 r4:Addr)(u:Nat):Obj:=oK #[vs n t,vs n (t+1),vs fl (t+2),vi l 0,vi c 0,vi 0 0,vi 0 0,vi g 0,vr r,.bool true,vi x 0,vr r1,.none,vr r2,vr r3,vr r4,vi u 0,vi l 0,vs fl (u+1)]
noncomputable abbrev oF(n q:String)(s:Stmt)(m:String)(t:Tok)(c:Addr):Obj:={cls:=.type "function",data:=.func (fnOf (Str.ofString n) (Str.ofString q) (dA s) (dB s) (dS s) .none .none .none (vs m t) none (.ref c) .none)}
noncomputable abbrev oG(n q:String)(s:Stmt):Obj:={cls:=.none,data:=.func {name:=Str.ofString n,qualname:=Str.ofString q,params:=dA s,body:=.stmts (dB s),scope:=dS s,globals:=0,closure:=[],defaults:=.none,kwdefaults:=.none}}
def o2(P:Params):Obj:={cls:=.none,data:=.dict #[eN P "type.__subclasses__.Exception.0" 292 (vi 91 0),eN P "type.__subclasses__.Exception.n" 293 (vi 5 0),eN P "type.__subclasses__.Exception.1" 312 (vi 104 0),eN P "type.__subclasses__.Exception.2" 332 (vi 117 0),eN P "type.__subclasses__.Exception.3" 352 (vi 130 0),eN P "type.__subclasses__.Exception.4" 372 (vi 143 0)] 6}
def o3(P:Params):Obj:={cls:=.type "dict",data:=.dict #[eN P "__name__" 165 (vs "rooftold.desk" 841),eN P "__doc__" 166 .none,eN P "__package__" 167 .none,eN P "__loader__" 168 (.builtin "__main__.__loader__#opaque"),eN P "__spec__" 169 .none,eN P "__annotations__" 170 (vr 6),eN P "__builtins__" 171 (vr 4),eN P "__file__" 173 (vs "/claim/cut.py" 172),eN P "__cached__" 174 .none,eN P "ALL_SIDES" 193 (vr 15),eN P "STEPS" 204 (vr 20),eN P "SIDE_STARTS" 213 (vr 25),eN P "left_of" 220 (vr 32),eN P "opposite" 227 (vr 39),eN P "right_of" 234 (vr 46),eN P "moved" 242 (vr 53),eN P "beyond" 250 (vr 60),eN P "side_start" 258 (vr 67),eN P "side_end" 266 (vr 74),eN P "by_row" 273 (vr 81),eN P "NoHouse" 295 (vr 91),eN P "OutOfBounds" 315 (vr 104),eN P "Outside" 335 (vr 117),eN P "NoFace" 355 (vr 130),eN P "NoSize" 375 (vr 143),eN P "answer_or_refusal" 382 (vr 153),eN P "LINE_FEED" 386 (vi 10 385),eN P "BLANK" 388 (vi 32 387),eN P "COMMA" 390 (vi 44 389),eN P "DIGIT_ZERO" 392 (vi 48 391),eN P "DIGIT_NINE" 394 (vi 57 393),eN P "GREATEST_NUMBER" 396 (vi 64 395),eN P "MOST_DIGITS" 398 (vi 2 397),eN P "FEWEST_CORNERS" 400 (vi 4 399),eN P "parts_between" 411 (vr 160),eN P "digit_told" 418 (vr 167),eN P "number_told" 427 (vr 174),eN P "corner_told" 433 (vr 179),eN P "walk_told" 439 (vr 184),eN P "walks_told" 445 (vr 189),eN P "CELLS_IN_A_ROW" 449 (vi 64 448),eN P "MOST_CELLS" 451 (vi 256 450),eN P "feet_across_rows" 464 (vr 196),eN P "cells_within" 476 (vr 203),eN P "is_joined" 487 (vr 210),eN P "meets_in_a_point" 498 (vr 217),eN P "is_house" 504 (vr 222),eN P "headings_along_walls" 514 (vr 229),eN P "walk_from" 527 (vr 236),eN P "walks_round" 538 (vr 243),eN P "feet_between" 549 (vr 250),eN P "walls_round" 561 (vr 257),eN P "house_told" 570 (vr 264),eN P "QUARTERS" 581 (vr 269),eN P "HALVES_ABOUT" 604 (vr 278),eN P "HALVES_AT_A_POINT" 617 (vr 283),eN P "half_cells_of" 627 (vr 290),eN P "is_deeper" 636 (vr 297),eN P "depths_of" 642 (vr 302),eN P "height_over" 648 (vr 307),eN P "heights_of" 659 (vr 314),eN P "Roof" 695 (vr 331),eN P "facing_of" 707 (vr 342),eN P "facings_of" 719 (vr 349),eN P "triangle_across" 730 (vr 356),eN P "triangle_on_left" 740 (vr 363),eN P "triangle_on_right" 750 (vr 370),eN P "number_face" 763 (vr 377),eN P "numbers_of" 773 (vr 384),eN P "faces_of" 783 (vr 391),eN P "AT_EAVE" 787 (vi 0 786),eN P "AT_CORNER" 789 (vi 1 788),eN P "foot_of" 795 (vr 396),eN P "half_across" 803 (vr 403),eN P "water_end" 815 (vr 410),eN P "foot_at" 823 (vr 417),eN P "wall_numbers" 834 (vr 424),eN P "wall_rows" 840 (vr 429),eN P "roof_told" 849 (vr 436),eN P "counted" 858 (vr 443),eN P "walls" 866 (vr 450)] 81}
def o11:Obj:=oT #[]
def o12:Obj:={cls:=.none,data:=.fields #[(vi 5 0),(vi 0 0),(vr 31),(vi 7 0),(vi 0 0),(vr 38),(vi 9 0),(vi 0 0),(vr 45),(vi 11 0),(vi 0 0),(vr 52),(vi 13 0),(vi 0 0),(vr 59),(vi 15 0),(vi 0 0),(vr 66),(vi 17 0),(vi 0 0),(vr 73),(vi 19 0),(vi 0 0),(vr 80),(vi 22 0),(vi 0 0),(vr 87),(vi 24 0),(vi 0 0),(vr 100),(vi 26 0),(vi 0 0),(vr 113),(vi 28 0),(vi 0 0),(vr 126),(vi 30 0),(vi 0 0),(vr 139),(vi 32 0),(vi 0 0),(vr 152),(vi 54 0),(vi 0 0),(vr 159),(vi 65 0),(vi 0 0),(vr 166),(vi 69 0),(vi 0 0),(vr 173),(vi 80 0),(vi 0 0),(vr 178),(vi 85 0),(vi 0 0),(vr 183),(vi 90 0),(vi 0 0),(vr 188),(vi 99 0),(vi 0 0),(vr 195),(vi 108 0),(vi 0 0),(vr 202),(vi 119 0),(vi 0 0),(vr 209),(vi 129 0),(vi 0 0),(vr 216),(vi 136 0),(vi 0 0),(vr 221),(vi 142 0),(vi 0 0),(vr 228),(vi 149 0),(vi 0 0),(vr 235),(vi 161 0),(vi 0 0),(vr 242),(vi 169 0),(vi 0 0),(vr 249),(vi 176 0),(vi 0 0),(vr 256),(vi 183 0),(vi 0 0),(vr 263),(vi 193 0),(vi 0 0),(vr 289),(vi 199 0),(vi 0 0),(vr 296),(vi 204 0),(vi 0 0),(vr 301),(vi 215 0),(vi 0 0),(vr 306),(vi 217 0),(vi 0 0),(vr 313),(vi 226 0),(vi 0 0),(vr 320),(vi 235 0),(vi 0 0),(vr 341),(vi 245 0),(vi 0 0),(vr 348),(vi 251 0),(vi 0 0),(vr 355),(vi 255 0),(vi 0 0),(vr 362),(vi 258 0),(vi 0 0),(vr 369),(vi 261 0),(vi 0 0),(vr 376),(vi 271 0),(vi 0 0),(vr 383),(vi 279 0),(vi 0 0),(vr 390),(vi 289 0),(vi 0 0),(vr 395),(vi 295 0),(vi 0 0),(vr 402),(vi 297 0),(vi 0 0),(vr 409),(vi 311 0),(vi 0 0),(vr 416),(vi 316 0),(vi 0 0),(vr 423),(vi 322 0),(vi 0 0),(vr 428),(vi 331 0),(vi 0 0),(vr 435),(vi 333 0),(vi 0 0),(vr 442),(vi 338 0),(vi 0 0),(vr 449)]}
def o13:Obj:=oK #[(vs "<module>" 182),(vs "<module>" 183),(vs fl 184),(vi 1 0),(vi 0 0),(vi 0 0),(vi 0 0),(vi 0 0),(vr 11),.bool false,(vi 181 0),(vr 12),.none,.none,.none,.none,(vi 185 0),(vi 1 0),(vs fl 186)]
def o14:Obj:={cls:=.type "frame",slots:=#[some ((vr 13)),some ((vr 3)),some ((vr 3)),none,some ((vs "__main__" 164)),none,some ((vr 0))]}
def o15:Obj:=oT #[(vi 0 189),(vi 1 190),(vi 2 191),(vi 3 192)]
def o16:Obj:=oT #[(vi 0 194),(vi (-1) 196)]
def o17:Obj:=oT #[(vi 1 197),(vi 0 198)]
def o18:Obj:=oT #[(vi 0 199),(vi 1 200)]
def o19:Obj:=oT #[(vi (-1) 202),(vi 0 203)]
def o20:Obj:=oT #[(vr 16),(vr 17),(vr 18),(vr 19)]
def o21:Obj:=oT #[(vi 0 205),(vi 0 206)]
def o22:Obj:=oT #[(vi 1 207),(vi 0 208)]
def o23:Obj:=oT #[(vi 1 209),(vi 1 210)]
def o24:Obj:=oT #[(vi 0 211),(vi 1 212)]
def o25:Obj:=oT #[(vr 21),(vr 22),(vr 23),(vr 24)]
def o27:Obj:={cls:=.none,data:=.fields #[]}
def o28:Obj:=oT #[(vs "direction" 217)]
def o30:Obj:=oG "left_of" "left_of" (tp 4)
def o31:Obj:=oC "left_of" 214 5 1 3 26 181 27 28 29 30 218
def o32:Obj:=oF "left_of" "left_of" (tp 4) "rooftold.compass" 187 31
def o35:Obj:=oT #[(vs "direction" 224)]
def o37:Obj:=oG "opposite" "opposite" (tp 5)
def o38:Obj:=oC "opposite" 221 7 1 3 33 181 34 35 36 37 225
def o39:Obj:=oF "opposite" "opposite" (tp 5) "rooftold.compass" 187 38
def o42:Obj:=oT #[(vs "direction" 231)]
def o44:Obj:=oG "right_of" "right_of" (tp 6)
def o45:Obj:=oC "right_of" 228 9 1 3 40 181 41 42 43 44 232
def o46:Obj:=oF "right_of" "right_of" (tp 6) "rooftold.compass" 187 45
def o49:Obj:=oT #[(vs "place" 238),(vs "step" 239)]
def o51:Obj:=oG "moved" "moved" (tp 7)
def o52:Obj:=oC "moved" 235 11 2 3 47 181 48 49 50 51 240
def o53:Obj:=oF "moved" "moved" (tp 7) "rooftold.compass" 187 52
def o56:Obj:=oT #[(vs "place" 246),(vs "direction" 247)]
def o58:Obj:=oG "beyond" "beyond" (tp 8)
def o59:Obj:=oC "beyond" 243 13 2 3 54 181 55 56 57 58 248
def o60:Obj:=oF "beyond" "beyond" (tp 8) "rooftold.compass" 187 59
def o63:Obj:=oT #[(vs "square" 254),(vs "side" 255)]
def o65:Obj:=oG "side_start" "side_start" (tp 9)
def o66:Obj:=oC "side_start" 251 15 2 3 61 181 62 63 64 65 256
def o67:Obj:=oF "side_start" "side_start" (tp 9) "rooftold.compass" 187 66
def o70:Obj:=oT #[(vs "square" 262),(vs "side" 263)]
def o72:Obj:=oG "side_end" "side_end" (tp 10)
def o73:Obj:=oC "side_end" 259 17 2 3 68 181 69 70 71 72 264
def o74:Obj:=oF "side_end" "side_end" (tp 10) "rooftold.compass" 187 73
def o77:Obj:=oT #[(vs "place" 270)]
def o79:Obj:=oG "by_row" "by_row" (tp 11)
def o80:Obj:=oC "by_row" 267 19 1 3 75 181 76 77 78 79 271
def o81:Obj:=oF "by_row" "by_row" (tp 11) "rooftold.compass" 187 80
def o82:Obj:=oT #[.type "Exception"]
def o83:Obj:={cls:=.type "builtin_function_or_method",data:=.fields #[.builtin "type.__prepare__",.type "type"]}
def o84(P:Params):Obj:={cls:=.type "dict",data:=.dict #[eN P "__module__" 283 (vs "rooftold.refusals" 274),eN P "__qualname__" 285 (vs "NoHouse" 284),eN P "__firstlineno__" 287 (vi 22 286),eN P "__static_attributes__" 288 (vr 89)] 4}
def o87:Obj:=oK #[(vs "NoHouse" 278),(vs "NoHouse" 279),(vs fl 280),(vi 22 0),(vi 0 0),(vi 0 0),(vi 0 0),(vi 0 0),(vr 85),.bool false,(vi 181 0),(vr 86),.none,.none,.none,.none,(vi 281 0),(vi 22 0),(vs fl 282)]
def o88:Obj:={cls:=.type "frame",slots:=#[some ((vr 87)),some ((vr 3)),some ((vr 84)),none,some ((vs "rooftold.refusals" 274)),none,some ((vr 0))]}
def o90(P:Params):Obj:={cls:=.type "dict",data:=.dict #[eN P "__module__" 283 (vs "rooftold.refusals" 274),eN P "__firstlineno__" 287 (vi 22 286),eN P "__static_attributes__" 288 (vr 89),eN P "__weakref__" 290 (vr 92),eN P "__doc__" 291 .none] 3}
def o91:Obj:={cls:=.type "type",data:=.cls {name:=Str.ofString "NoHouse",bases:=[.type "Exception"],mro:=[(vr 91),.type "Exception",.type "BaseException",.type "object"],ns:=90,qualname:=Str.ofString "NoHouse" },slots:=#[some ((vr 82)),none,some ((vs "NoHouse" 276)),some ((vs "NoHouse" 284)),some (.builtin "Exception.__new__"),some (.bool true)]}
def o92:Obj:={cls:=.type "getset_descriptor",data:=.fields #[(vs "__weakref__" 289),(vr 91),.builtin "ExceptionGroup.__weakref__",.none]}
def o93:Obj:={cls:=.type "super",data:=.fields #[(vr 91),(vr 91),(vr 91)]}
def o94:Obj:={cls:=.type "builtin_function_or_method",data:=.fields #[.builtin "object.__init_subclass__",(vr 91)]}
def o97(P:Params):Obj:={cls:=.type "dict",data:=.dict #[eN P "__module__" 303 (vs "rooftold.refusals" 274),eN P "__qualname__" 305 (vs "OutOfBounds" 304),eN P "__firstlineno__" 307 (vi 24 306),eN P "__static_attributes__" 308 (vr 102)] 4}
def X3:Obj:=oK #[(vs "OutOfBounds" 298),(vs "OutOfBounds" 299),(vs fl 300),(vi 24 0),(vi 0 0),(vi 0 0),(vi 0 0),(vi 0 0),(vr 98),.bool false,(vi 181 0),(vr 99),.none,.none,.none,.none,(vi 301 0),(vi 24 0),(vs fl 302)]
def X2:Obj:={cls:=.type "frame",slots:=#[some ((vr 100)),some ((vr 3)),some ((vr 97)),none,some ((vs "rooftold.refusals" 274)),none,some ((vr 0))]}
def S5(P:Params):Obj:={cls:=.type "dict",data:=.dict #[eN P "__module__" 303 (vs "rooftold.refusals" 274),eN P "__firstlineno__" 307 (vi 24 306),eN P "__static_attributes__" 308 (vr 102),eN P "__weakref__" 310 (vr 105),eN P "__doc__" 311 .none] 3}
def S4:Obj:={cls:=.type "type",data:=.cls {name:=Str.ofString "OutOfBounds",bases:=[.type "Exception"],mro:=[(vr 104),.type "Exception",.type "BaseException",.type "object"],ns:=103,qualname:=Str.ofString "OutOfBounds" },slots:=#[some ((vr 95)),none,some ((vs "OutOfBounds" 296)),some ((vs "OutOfBounds" 304)),some (.builtin "Exception.__new__"),some (.bool true)]}
def S3:Obj:={cls:=.type "getset_descriptor",data:=.fields #[(vs "__weakref__" 309),(vr 104),.builtin "ExceptionGroup.__weakref__",.none]}
def X1:Obj:={cls:=.type "super",data:=.fields #[(vr 104),(vr 104),(vr 104)]}
def X0:Obj:={cls:=.type "builtin_function_or_method",data:=.fields #[.builtin "object.__init_subclass__",(vr 104)]}
def WZ(P:Params):Obj:={cls:=.type "dict",data:=.dict #[eN P "__module__" 323 (vs "rooftold.refusals" 274),eN P "__qualname__" 325 (vs "Outside" 324),eN P "__firstlineno__" 327 (vi 26 326),eN P "__static_attributes__" 328 (vr 115)] 4}
def WY:Obj:=oK #[(vs "Outside" 318),(vs "Outside" 319),(vs fl 320),(vi 26 0),(vi 0 0),(vi 0 0),(vi 0 0),(vi 0 0),(vr 111),.bool false,(vi 181 0),(vr 112),.none,.none,.none,.none,(vi 321 0),(vi 26 0),(vs fl 322)]
def WX:Obj:={cls:=.type "frame",slots:=#[some ((vr 113)),some ((vr 3)),some ((vr 110)),none,some ((vs "rooftold.refusals" 274)),none,some ((vr 0))]}
def S0(P:Params):Obj:={cls:=.type "dict",data:=.dict #[eN P "__module__" 323 (vs "rooftold.refusals" 274),eN P "__firstlineno__" 327 (vi 26 326),eN P "__static_attributes__" 328 (vr 115),eN P "__weakref__" 330 (vr 118),eN P "__doc__" 331 .none] 3}
def RZ:Obj:={cls:=.type "type",data:=.cls {name:=Str.ofString "Outside",bases:=[.type "Exception"],mro:=[(vr 117),.type "Exception",.type "BaseException",.type "object"],ns:=116,qualname:=Str.ofString "Outside" },slots:=#[some ((vr 108)),none,some ((vs "Outside" 316)),some ((vs "Outside" 324)),some (.builtin "Exception.__new__"),some (.bool true)]}
def RY:Obj:={cls:=.type "getset_descriptor",data:=.fields #[(vs "__weakref__" 329),(vr 117),.builtin "ExceptionGroup.__weakref__",.none]}
def WW:Obj:={cls:=.type "super",data:=.fields #[(vr 117),(vr 117),(vr 117)]}
def WV:Obj:={cls:=.type "builtin_function_or_method",data:=.fields #[.builtin "object.__init_subclass__",(vr 117)]}
def WU(P:Params):Obj:={cls:=.type "dict",data:=.dict #[eN P "__module__" 343 (vs "rooftold.refusals" 274),eN P "__qualname__" 345 (vs "NoFace" 344),eN P "__firstlineno__" 347 (vi 28 346),eN P "__static_attributes__" 348 (vr 128)] 4}
def WT:Obj:=oK #[(vs "NoFace" 338),(vs "NoFace" 339),(vs fl 340),(vi 28 0),(vi 0 0),(vi 0 0),(vi 0 0),(vi 0 0),(vr 124),.bool false,(vi 181 0),(vr 125),.none,.none,.none,.none,(vi 341 0),(vi 28 0),(vs fl 342)]
def WS:Obj:={cls:=.type "frame",slots:=#[some ((vr 126)),some ((vr 3)),some ((vr 123)),none,some ((vs "rooftold.refusals" 274)),none,some ((vr 0))]}
def RX(P:Params):Obj:={cls:=.type "dict",data:=.dict #[eN P "__module__" 343 (vs "rooftold.refusals" 274),eN P "__firstlineno__" 347 (vi 28 346),eN P "__static_attributes__" 348 (vr 128),eN P "__weakref__" 350 (vr 131),eN P "__doc__" 351 .none] 3}
def RW:Obj:={cls:=.type "type",data:=.cls {name:=Str.ofString "NoFace",bases:=[.type "Exception"],mro:=[(vr 130),.type "Exception",.type "BaseException",.type "object"],ns:=129,qualname:=Str.ofString "NoFace" },slots:=#[some ((vr 121)),none,some ((vs "NoFace" 336)),some ((vs "NoFace" 344)),some (.builtin "Exception.__new__"),some (.bool true)]}
def RV:Obj:={cls:=.type "getset_descriptor",data:=.fields #[(vs "__weakref__" 349),(vr 130),.builtin "ExceptionGroup.__weakref__",.none]}
def WR:Obj:={cls:=.type "super",data:=.fields #[(vr 130),(vr 130),(vr 130)]}
def WQ:Obj:={cls:=.type "builtin_function_or_method",data:=.fields #[.builtin "object.__init_subclass__",(vr 130)]}
def WO(P:Params):Obj:={cls:=.type "dict",data:=.dict #[eN P "__module__" 363 (vs "rooftold.refusals" 274),eN P "__qualname__" 365 (vs "NoSize" 364),eN P "__firstlineno__" 367 (vi 30 366),eN P "__static_attributes__" 368 (vr 141)] 4}
def WN:Obj:=oK #[(vs "NoSize" 358),(vs "NoSize" 359),(vs fl 360),(vi 30 0),(vi 0 0),(vi 0 0),(vi 0 0),(vi 0 0),(vr 137),.bool false,(vi 181 0),(vr 138),.none,.none,.none,.none,(vi 361 0),(vi 30 0),(vs fl 362)]
def WM:Obj:={cls:=.type "frame",slots:=#[some ((vr 139)),some ((vr 3)),some ((vr 136)),none,some ((vs "rooftold.refusals" 274)),none,some ((vr 0))]}
def RU(P:Params):Obj:={cls:=.type "dict",data:=.dict #[eN P "__module__" 363 (vs "rooftold.refusals" 274),eN P "__firstlineno__" 367 (vi 30 366),eN P "__static_attributes__" 368 (vr 141),eN P "__weakref__" 370 (vr 144),eN P "__doc__" 371 .none] 3}
def RS:Obj:={cls:=.type "type",data:=.cls {name:=Str.ofString "NoSize",bases:=[.type "Exception"],mro:=[(vr 143),.type "Exception",.type "BaseException",.type "object"],ns:=142,qualname:=Str.ofString "NoSize" },slots:=#[some ((vr 134)),none,some ((vs "NoSize" 356)),some ((vs "NoSize" 364)),some (.builtin "Exception.__new__"),some (.bool true)]}
def RR:Obj:={cls:=.type "getset_descriptor",data:=.fields #[(vs "__weakref__" 369),(vr 143),.builtin "ExceptionGroup.__weakref__",.none]}
def WL:Obj:={cls:=.type "super",data:=.fields #[(vr 143),(vr 143),(vr 143)]}
def WK:Obj:={cls:=.type "builtin_function_or_method",data:=.fields #[.builtin "object.__init_subclass__",(vr 143)]}
def WJ:Obj:=oT #[(vs "tell" 379)]
def WI:Obj:=oG "answer_or_refusal" "answer_or_refusal" (tp 18)
def RQ:Obj:=oC "answer_or_refusal" 376 32 1 3 147 181 148 149 150 151 380
def RP:Obj:=oF "answer_or_refusal" "answer_or_refusal" (tp 18) "rooftold.refusals" 274 152
def WH:Obj:=oT #[(vs "row" 404),(vs "mark" 405),(vs "parts" 406),(vs "part" 407),(vs "value" 408)]
def WG:Obj:=oG "parts_between" "parts_between" (tp 28)
def RO:Obj:=oC "parts_between" 401 54 2 3 154 181 155 156 157 158 409
def RN:Obj:=oF "parts_between" "parts_between" (tp 28) "rooftold.texts" 383 159
def WE:Obj:=oT #[(vs "value" 415)]
def WD:Obj:=oG "digit_told" "digit_told" (tp 29)
def RK:Obj:=oC "digit_told" 412 65 1 3 161 181 162 163 164 165 416
def RJ:Obj:=oF "digit_told" "digit_told" (tp 29) "rooftold.texts" 383 166
def WC:Obj:=oT #[(vs "row" 422),(vs "number" 423),(vs "value" 424)]
def WB:Obj:=oG "number_told" "number_told" (tp 30)
def RI:Obj:=oC "number_told" 419 69 1 3 168 181 169 170 171 172 425
def RH:Obj:=oF "number_told" "number_told" (tp 30) "rooftold.texts" 383 173
def WA:Obj:=oG "corner_told" "corner_told" (tp 31)
def RG:Obj:=oK #[(vs "corner_told" 428),(vs "corner_told" 429),(vs fl 430),(vi 80 0),(vi 1 0),(vi 0 0),(vi 0 0),(vi 3 0),(vr 175),.bool true,(vi 181 0),(vr 176),.none,.none,.none,(vr 177),(vi 431 0),(vi 80 0),(vs fl 432)]
def RF:Obj:=oF "corner_told" "corner_told" (tp 31) "rooftold.texts" 383 178
def W9:Obj:=oG "walk_told" "walk_told" (tp 32)
def RE:Obj:=oK #[(vs "walk_told" 434),(vs "walk_told" 435),(vs fl 436),(vi 85 0),(vi 1 0),(vi 0 0),(vi 0 0),(vi 3 0),(vr 180),.bool true,(vi 181 0),(vr 181),.none,.none,.none,(vr 182),(vi 437 0),(vi 85 0),(vs fl 438)]
def RD:Obj:=oF "walk_told" "walk_told" (tp 32) "rooftold.texts" 383 183
def W8:Obj:=oG "walks_told" "walks_told" (tp 33)
def RC:Obj:=oK #[(vs "walks_told" 440),(vs "walks_told" 441),(vs fl 442),(vi 90 0),(vi 1 0),(vi 0 0),(vi 0 0),(vi 3 0),(vr 185),.bool true,(vi 181 0),(vr 186),.none,.none,.none,(vr 187),(vi 443 0),(vi 90 0),(vs fl 444)]
def RB:Obj:=oF "walks_told" "walks_told" (tp 33) "rooftold.texts" 383 188
def W7:Obj:=oT #[(vs "walks" 455),(vs "feet" 456),(vs "walk" 457),(vs "number" 458),(vs "corner" 459),(vs "before" 460),(vs "y" 461)]
def W6:Obj:=oG "feet_across_rows" "feet_across_rows" (tp 37)
def RA:Obj:=oC "feet_across_rows" 452 99 1 3 190 181 191 192 193 194 462
def R9:Obj:=oF "feet_across_rows" "feet_across_rows" (tp 37) "rooftold.plans" 446 195
def W5:Obj:=oT #[(vs "walks" 468),(vs "feet" 469),(vs "cells" 470),(vs "y" 471),(vs "inside" 472),(vs "x" 473)]
def W3:Obj:=oG "cells_within" "cells_within" (tp 38)
def R8:Obj:=oC "cells_within" 465 108 1 3 197 181 198 199 200 201 474
def R7:Obj:=oF "cells_within" "cells_within" (tp 38) "rooftold.plans" 446 202
def W2:Obj:=oT #[(vs "cells" 480),(vs "waiting" 481),(vs "reached" 482),(vs "cell" 483),(vs "side" 484)]
def W0:Obj:=oG "is_joined" "is_joined" (tp 39)
def R6:Obj:=oC "is_joined" 477 119 1 3 204 181 205 206 207 208 485
def R5:Obj:=oF "is_joined" "is_joined" (tp 39) "rooftold.plans" 446 209
def VZ:Obj:=oT #[(vs "cell" 491),(vs "cells" 492),(vs "side" 493),(vs "near" 494),(vs "far" 495)]
def VY:Obj:=oG "meets_in_a_point" "meets_in_a_point" (tp 40)
def R4:Obj:=oC "meets_in_a_point" 488 129 2 3 211 181 212 213 214 215 496
def R1:Obj:=oF "meets_in_a_point" "meets_in_a_point" (tp 40) "rooftold.plans" 446 216
def VX:Obj:=oG "is_house" "is_house" (tp 41)
def R0:Obj:=oK #[(vs "is_house" 499),(vs "is_house" 500),(vs fl 501),(vi 136 0),(vi 1 0),(vi 0 0),(vi 0 0),(vi 3 0),(vr 218),.bool true,(vi 181 0),(vr 219),.none,.none,.none,(vr 220),(vi 502 0),(vi 136 0),(vs fl 503)]
def QZ:Obj:=oF "is_house" "is_house" (tp 41) "rooftold.plans" 446 221
def VW:Obj:=oT #[(vs "cells" 508),(vs "headings" 509),(vs "cell" 510),(vs "side" 511)]
def VU:Obj:=oG "headings_along_walls" "headings_along_walls" (tp 42)
def QY:Obj:=oC "headings_along_walls" 505 142 1 3 223 181 224 225 226 227 512
def QX:Obj:=oF "headings_along_walls" "headings_along_walls" (tp 42) "rooftold.plans" 446 228
def VT:Obj:=oT #[(vs "start" 518),(vs "headings" 519),(vs "walked" 520),(vs "corners" 521),(vs "point" 522),(vs "came" 523),(vs "heading" 524)]
def VS:Obj:=oG "walk_from" "walk_from" (tp 43)
def QW:Obj:=oC "walk_from" 515 149 3 3 230 181 231 232 233 234 525
def QV:Obj:=oF "walk_from" "walk_from" (tp 43) "rooftold.plans" 446 235
def VR:Obj:=oT #[(vs "cells" 531),(vs "headings" 532),(vs "walks" 533),(vs "walked" 534),(vs "point" 535)]
def VQ:Obj:=oG "walks_round" "walks_round" (tp 44)
def QU:Obj:=oC "walks_round" 528 161 1 3 237 181 238 239 240 241 536
def QT:Obj:=oF "walks_round" "walks_round" (tp 44) "rooftold.plans" 446 242
def VP:Obj:=oT #[(vs "corner" 542),(vs "following" 543),(vs "headings" 544),(vs "feet" 545),(vs "point" 546)]
def VO:Obj:=oG "feet_between" "feet_between" (tp 45)
def QS:Obj:=oC "feet_between" 539 169 3 3 244 181 245 246 247 248 547
def QR:Obj:=oF "feet_between" "feet_between" (tp 45) "rooftold.plans" 446 249
def VN:Obj:=oT #[(vs "cells" 553),(vs "headings" 554),(vs "walls" 555),(vs "walk" 556),(vs "number" 557),(vs "corner" 558)]
def VM:Obj:=oG "walls_round" "walls_round" (tp 46)
def QQ:Obj:=oC "walls_round" 550 176 1 3 251 181 252 253 254 255 559
def QP:Obj:=oF "walls_round" "walls_round" (tp 46) "rooftold.plans" 446 256
def VL:Obj:=oT #[(vs "t" 565),(vs "walks" 566),(vs "cells" 567)]
def VJ:Obj:=oG "house_told" "house_told" (tp 47)
def QO:Obj:=oC "house_told" 562 183 1 3 258 181 259 260 261 262 568
def QN:Obj:=oF "house_told" "house_told" (tp 47) "rooftold.plans" 446 263
def QM:Obj:=oT #[(vi 0 573),(vi 0 574)]
def QL:Obj:=oT #[(vi 1 575),(vi 0 576)]
def QK:Obj:=oT #[(vi 0 577),(vi 1 578)]
def QJ:Obj:=oT #[(vi 1 579),(vi 1 580)]
def QI:Obj:=oT #[(vr 265),(vr 266),(vr 267),(vr 268)]
def QH:Obj:=oT #[(vi (-1) 583),(vi (-1) 585)]
def QG:Obj:=oT #[(vi 0 586),(vi (-1) 588)]
def QF:Obj:=oT #[(vi 1 589),(vi (-1) 591)]
def QE:Obj:=oT #[(vi (-1) 593),(vi 0 594)]
def QD:Obj:=oT #[(vi 1 595),(vi 0 596)]
def QC:Obj:=oT #[(vi (-1) 598),(vi 1 599)]
def QB:Obj:=oT #[(vi 0 600),(vi 1 601)]
def QA:Obj:=oT #[(vi 1 602),(vi 1 603)]
def Q9:Obj:=oT #[(vr 270),(vr 271),(vr 272),(vr 273),(vr 274),(vr 275),(vr 276),(vr 277)]
def Q8:Obj:=oT #[(vi (-1) 606),(vi (-1) 608)]
def Q7:Obj:=oT #[(vi 0 609),(vi (-1) 611)]
def Q6:Obj:=oT #[(vi (-1) 613),(vi 0 614)]
def Q5:Obj:=oT #[(vi 0 615),(vi 0 616)]
def Q4:Obj:=oT #[(vr 279),(vr 280),(vr 281),(vr 282)]
def VI:Obj:=oT #[(vs "cells" 621),(vs "found" 622),(vs "cell" 623),(vs "quarter" 624)]
def VH:Obj:=oG "half_cells_of" "half_cells_of" (tp 52)
def Q3:Obj:=oC "half_cells_of" 618 193 1 3 284 181 285 286 287 288 625
def Q2:Obj:=oF "half_cells_of" "half_cells_of" (tp 52) "rooftold.heights" 571 289
def VG:Obj:=oT #[(vs "half" 631),(vs "layer" 632),(vs "step" 633)]
def VF:Obj:=oG "is_deeper" "is_deeper" (tp 53)
def Q1:Obj:=oC "is_deeper" 628 199 2 3 291 181 292 293 294 295 634
def Q0:Obj:=oF "is_deeper" "is_deeper" (tp 53) "rooftold.heights" 571 296
def VE:Obj:=oG "depths_of" "depths_of" (tp 54)
def PZ:Obj:=oK #[(vs "depths_of" 637),(vs "depths_of" 638),(vs fl 639),(vi 204 0),(vi 1 0),(vi 0 0),(vi 0 0),(vi 3 0),(vr 298),.bool true,(vi 181 0),(vr 299),.none,.none,.none,(vr 300),(vi 640 0),(vi 204 0),(vs fl 641)]
def PY:Obj:=oF "depths_of" "depths_of" (tp 54) "rooftold.heights" 571 301
def VD:Obj:=oG "height_over" "height_over" (tp 55)
def PX:Obj:=oK #[(vs "height_over" 643),(vs "height_over" 644),(vs fl 645),(vi 215 0),(vi 2 0),(vi 0 0),(vi 0 0),(vi 3 0),(vr 303),.bool true,(vi 181 0),(vr 304),.none,.none,.none,(vr 305),(vi 646 0),(vi 215 0),(vs fl 647)]
def PV:Obj:=oF "height_over" "height_over" (tp 55) "rooftold.heights" 571 306
def VC:Obj:=oT #[(vs "depths" 652),(vs "heights" 653),(vs "half" 654),(vs "side" 655),(vs "point" 656)]
def VB:Obj:=oG "heights_of" "heights_of" (tp 56)
def PU:Obj:=oC "heights_of" 649 217 1 3 308 181 309 310 311 312 657
def PR:Obj:=oF "heights_of" "heights_of" (tp 56) "rooftold.heights" 571 313
def VA(P:Params):Obj:={cls:=.type "dict",data:=.dict #[eN P "__module__" 669 (vs "rooftold.roofs" 660),eN P "__qualname__" 671 (vs "Roof" 670),eN P "__firstlineno__" 673 (vi 226 672),eN P "__init__" 681 (vr 328),eN P "__static_attributes__" 688 (vr 329)] 5}
def V9:Obj:={cls:=.none,data:=.fields #[(vi 228 0),(vi 4 0),(vr 327)]}
def V8:Obj:=oK #[(vs "Roof" 664),(vs "Roof" 665),(vs fl 666),(vi 226 0),(vi 0 0),(vi 0 0),(vi 0 0),(vi 0 0),(vr 318),.bool false,(vi 181 0),(vr 319),.none,.none,.none,.none,(vi 667 0),(vi 226 0),(vs fl 668)]
def V7:Obj:={cls:=.type "frame",slots:=#[some ((vr 320)),some ((vr 3)),some ((vr 317)),none,some ((vs "rooftold.roofs" 660)),none,some ((vr 0))]}
def V6:Obj:=oT #[(vs "self" 677),(vs "cells" 678)]
def V5:Obj:=oG "__init__" "Roof.__init__" (ic (tp 58) 0)
def PQ:Obj:=oK #[(vs "__init__" 674),(vs "Roof.__init__" 675),(vs fl 676),(vi 228 0),(vi 2 0),(vi 0 0),(vi 0 0),(vi 3 0),(vr 322),.bool true,(vi 181 0),(vr 323),.none,(vr 324),(vr 325),(vr 326),(vi 679 0),(vi 228 0),(vs fl 680)]
def PN:Obj:=oF "__init__" "Roof.__init__" (ic (tp 58) 0) "rooftold.roofs" 660 327
def V3:Obj:=oT #[(vs "cells" 682),(vs "depths" 683),(vs "faces" 684),(vs "facings" 685),(vs "heights" 686),(vs "numbers" 687)]
def PM(P:Params):Obj:={cls:=.type "dict",data:=.dict #[eN P "__module__" 669 (vs "rooftold.roofs" 660),eN P "__firstlineno__" 673 (vi 226 672),eN P "__init__" 681 (vr 328),eN P "__static_attributes__" 688 (vr 329),eN P "__dict__" 690 (vr 332),eN P "__weakref__" 692 (vr 333),eN P "__doc__" 693 .none] 4}
def PL:Obj:={cls:=.type "type",data:=.cls {name:=Str.ofString "Roof",bases:=[.type "object"],mro:=[(vr 331),.type "object"],ns:=330,qualname:=Str.ofString "Roof" },slots:=#[none,none,some ((vs "Roof" 662)),some ((vs "Roof" 670)),some (.builtin "object.__new__"),some (.bool true)]}
def PJ:Obj:={cls:=.type "getset_descriptor",data:=.fields #[(vs "__dict__" 689),(vr 331),.builtin "function.__dict__",.builtin "function.__dict__#set"]}
def PH:Obj:={cls:=.type "getset_descriptor",data:=.fields #[(vs "__weakref__" 691),(vr 331),.builtin "ExceptionGroup.__weakref__",.none]}
def V2:Obj:={cls:=.type "super",data:=.fields #[(vr 331),(vr 331),(vr 331)]}
def V1:Obj:={cls:=.type "builtin_function_or_method",data:=.fields #[.builtin "object.__init_subclass__",(vr 331)]}
def V0:Obj:=oT #[(vs "half" 699),(vs "side" 700),(vs "depth" 701),(vs "heights" 702),(vs "start_is_low" 703),(vs "end_is_low" 704)]
def UZ:Obj:=oG "facing_of" "facing_of" (tp 59)
def PF:Obj:=oC "facing_of" 696 235 4 3 336 181 337 338 339 340 705
def PD:Obj:=oF "facing_of" "facing_of" (tp 59) "rooftold.roofs" 660 341
def UY:Obj:=oT #[(vs "depths" 711),(vs "heights" 712),(vs "facings" 713),(vs "half" 714),(vs "depth" 715),(vs "side" 716)]
def UX:Obj:=oG "facings_of" "facings_of" (tp 60)
def PB:Obj:=oC "facings_of" 708 245 2 3 343 181 344 345 346 347 717
def P9:Obj:=oF "facings_of" "facings_of" (tp 60) "rooftold.roofs" 660 348
def UW:Obj:=oT #[(vs "triangle" 723),(vs "i" 724),(vs "j" 725),(vs "side" 726),(vs "across" 727)]
def UU:Obj:=oG "triangle_across" "triangle_across" (tp 61)
def P8:Obj:=oC "triangle_across" 720 251 1 3 350 181 351 352 353 354 728
def P7:Obj:=oF "triangle_across" "triangle_across" (tp 61) "rooftold.roofs" 660 355
def UT:Obj:=oT #[(vs "triangle" 734),(vs "i" 735),(vs "j" 736),(vs "side" 737)]
def US:Obj:=oG "triangle_on_left" "triangle_on_left" (tp 62)
def P6:Obj:=oC "triangle_on_left" 731 255 1 3 357 181 358 359 360 361 738
def P5:Obj:=oF "triangle_on_left" "triangle_on_left" (tp 62) "rooftold.roofs" 660 362
def UR:Obj:=oT #[(vs "triangle" 744),(vs "i" 745),(vs "j" 746),(vs "side" 747)]
def UQ:Obj:=oG "triangle_on_right" "triangle_on_right" (tp 63)
def P4:Obj:=oC "triangle_on_right" 741 258 1 3 364 181 365 366 367 368 748
def P2:Obj:=oF "triangle_on_right" "triangle_on_right" (tp 63) "rooftold.roofs" 660 369
def UP:Obj:=oT #[(vs "first" 754),(vs "number" 755),(vs "facings" 756),(vs "numbers" 757),(vs "facing" 758),(vs "waiting" 759),(vs "triangle" 760)]
def UO:Obj:=oG "number_face" "number_face" (tp 64)
def P1:Obj:=oC "number_face" 751 261 4 3 371 181 372 373 374 375 761
def P0:Obj:=oF "number_face" "number_face" (tp 64) "rooftold.roofs" 660 376
def UN:Obj:=oT #[(vs "facings" 767),(vs "numbers" 768),(vs "count" 769),(vs "triangle" 770)]
def UM:Obj:=oG "numbers_of" "numbers_of" (tp 65)
def OZ:Obj:=oC "numbers_of" 764 271 1 3 378 181 379 380 381 382 771
def OY:Obj:=oF "numbers_of" "numbers_of" (tp 65) "rooftold.roofs" 660 383
def UL:Obj:=oT #[(vs "numbers" 777),(vs "faces" 778),(vs "triangle" 779),(vs "number" 780)]
def UK:Obj:=oG "faces_of" "faces_of" (tp 66)
def OX:Obj:=oC "faces_of" 774 279 1 3 385 181 386 387 388 389 781
def OW:Obj:=oF "faces_of" "faces_of" (tp 66) "rooftold.roofs" 660 390
def UJ:Obj:=oG "foot_of" "foot_of" (tp 70)
def OV:Obj:=oK #[(vs "foot_of" 790),(vs "foot_of" 791),(vs fl 792),(vi 289 0),(vi 2 0),(vi 0 0),(vi 0 0),(vi 3 0),(vr 392),.bool true,(vi 181 0),(vr 393),.none,.none,.none,(vr 394),(vi 793 0),(vi 289 0),(vs fl 794)]
def OU:Obj:=oF "foot_of" "foot_of" (tp 70) "rooftold.rain" 784 395
def UI:Obj:=oT #[(vs "half" 799),(vs "corner" 800)]
def UH:Obj:=oG "half_across" "half_across" (tp 71)
def OT:Obj:=oC "half_across" 796 295 2 3 397 181 398 399 400 401 801
def OS:Obj:=oF "half_across" "half_across" (tp 71) "rooftold.rain" 784 402
def UG:Obj:=oT #[(vs "triangle" 807),(vs "roof" 808),(vs "half" 809),(vs "foot" 810),(vs "leaving" 811),(vs "below" 812)]
def UE:Obj:=oG "water_end" "water_end" (tp 72)
def OR:Obj:=oC "water_end" 804 297 2 3 404 181 405 406 407 408 813
def OQ:Obj:=oF "water_end" "water_end" (tp 72) "rooftold.rain" 784 409
def UD:Obj:=oT #[(vs "end" 819),(vs "cell" 820)]
def UC:Obj:=oG "foot_at" "foot_at" (tp 73)
def OP:Obj:=oC "foot_at" 816 311 1 3 411 181 412 413 414 415 821
def OO:Obj:=oF "foot_at" "foot_at" (tp 73) "rooftold.rain" 784 416
def UB:Obj:=oT #[(vs "walls" 827),(vs "numbers" 828),(vs "number" 829),(vs "feet" 830),(vs "foot" 831)]
def UA:Obj:=oG "wall_numbers" "wall_numbers" (tp 74)
def ON:Obj:=oC "wall_numbers" 824 316 1 3 418 181 419 420 421 422 832
def OM:Obj:=oF "wall_numbers" "wall_numbers" (tp 74) "rooftold.rain" 784 423
def U9:Obj:=oG "wall_rows" "wall_rows" (tp 75)
def OL:Obj:=oK #[(vs "wall_rows" 835),(vs "wall_rows" 836),(vs fl 837),(vi 322 0),(vi 1 0),(vi 0 0),(vi 0 0),(vi 3 0),(vr 425),.bool true,(vi 181 0),(vr 426),.none,.none,.none,(vr 427),(vi 838 0),(vi 322 0),(vs fl 839)]
def OK:Obj:=oF "wall_rows" "wall_rows" (tp 75) "rooftold.rain" 784 428
def U8:Obj:=oT #[(vs "t" 846)]
def U7:Obj:=oG "roof_told" "roof_told" (tp 77)
def OJ:Obj:=oC "roof_told" 843 331 1 3 430 181 431 432 433 434 847
def OI:Obj:=oF "roof_told" "roof_told" (tp 77) "rooftold.desk" 841 435
def U6:Obj:=oT #[(vs "rows" 853),(vs "answer" 854),(vs "row" 855)]
def U5:Obj:=oG "counted" "counted" (tp 78)
def OH:Obj:=oC "counted" 850 333 1 3 437 181 438 439 440 441 856
def OG:Obj:=oF "counted" "counted" (tp 78) "rooftold.desk" 841 442
def U4:Obj:=oT #[(vs "t" 862)]
def U3:Obj:=oT #[(vs "t" 863)]
def U2:Obj:=oG "walls" "walls" (tp 79)
def OF:Obj:=oC "walls" 859 338 1 3 444 181 445 446 447 448 864
def OE:Obj:=oF "walls" "walls" (tp 79) "rooftold.desk" 841 449
def hpK:Params->Frag:=fun P=>(nat_lit 2,o2 P)::(nat_lit 3,o3 P)::(nat_lit 15,o15)::(nat_lit 16,o16)::(nat_lit 17,o17)::(nat_lit 18,o18)::(nat_lit 19,o19)::(nat_lit 20,o20)::(nat_lit 21,o21)::(nat_lit 22,o22)::(nat_lit 23,o23)::(nat_lit 24,o24)::(nat_lit 25,o25)::(nat_lit 31,o31)::(nat_lit 32,o32)::(nat_lit 38,o38)::(nat_lit 39,o39)::(nat_lit 45,o45)::(nat_lit 46,o46)::(nat_lit 52,o52)::(nat_lit 53,o53)::(nat_lit 59,o59)::(nat_lit 60,o60)::(nat_lit 66,o66)::(nat_lit 67,o67)::(nat_lit 73,o73)::(nat_lit 74,o74)::(nat_lit 80,o80)::(nat_lit 81,o81)::(nat_lit 82,o82)::(nat_lit 90,o90 P)::(nat_lit 91,o91)::(nat_lit 92,o92)::(nat_lit 95,o82)::(nat_lit 103,S5 P)::(nat_lit 104,S4)::(nat_lit 105,S3)::(nat_lit 108,o82)::(nat_lit 116,S0 P)::(nat_lit 117,RZ)::(nat_lit 118,RY)::(nat_lit 121,o82)::(nat_lit 129,RX P)::(nat_lit 130,RW)::(nat_lit 131,RV)::(nat_lit 134,o82)::(nat_lit 142,RU P)::(nat_lit 143,RS)::(nat_lit 144,RR)::(nat_lit 152,RQ)::(nat_lit 153,RP)::(nat_lit 159,RO)::(nat_lit 160,RN)::(nat_lit 166,RK)::(nat_lit 167,RJ)::(nat_lit 173,RI)::(nat_lit 174,RH)::(nat_lit 178,RG)::(nat_lit 179,RF)::(nat_lit 183,RE)::(nat_lit 184,RD)::(nat_lit 188,RC)::(nat_lit 189,RB)::(nat_lit 195,RA)::(nat_lit 196,R9)::(nat_lit 202,R8)::(nat_lit 203,R7)::(nat_lit 209,R6)::(nat_lit 210,R5)::(nat_lit 216,R4)::(nat_lit 217,R1)::(nat_lit 221,R0)::(nat_lit 222,QZ)::(nat_lit 228,QY)::(nat_lit 229,QX)::(nat_lit 235,QW)::(nat_lit 236,QV)::(nat_lit 242,QU)::(nat_lit 243,QT)::(nat_lit 249,QS)::(nat_lit 250,QR)::(nat_lit 256,QQ)::(nat_lit 257,QP)::(nat_lit 263,QO)::(nat_lit 264,QN)::(nat_lit 265,QM)::(nat_lit 266,QL)::(nat_lit 267,QK)::(nat_lit 268,QJ)::(nat_lit 269,QI)::(nat_lit 270,QH)::(nat_lit 271,QG)::(nat_lit 272,QF)::(nat_lit 273,QE)::(nat_lit 274,QD)::(nat_lit 275,QC)::(nat_lit 276,QB)::(nat_lit 277,QA)::(nat_lit 278,Q9)::(nat_lit 279,Q8)::(nat_lit 280,Q7)::(nat_lit 281,Q6)::(nat_lit 282,Q5)::(nat_lit 283,Q4)::(nat_lit 289,Q3)::(nat_lit 290,Q2)::(nat_lit 296,Q1)::(nat_lit 297,Q0)::(nat_lit 301,PZ)::(nat_lit 302,PY)::(nat_lit 306,PX)::(nat_lit 307,PV)::(nat_lit 313,PU)::(nat_lit 314,PR)::(nat_lit 327,PQ)::(nat_lit 328,PN)::(nat_lit 330,PM P)::(nat_lit 331,PL)::(nat_lit 332,PJ)::(nat_lit 333,PH)::(nat_lit 341,PF)::(nat_lit 342,PD)::(nat_lit 348,PB)::(nat_lit 349,P9)::(nat_lit 355,P8)::(nat_lit 356,P7)::(nat_lit 362,P6)::(nat_lit 363,P5)::(nat_lit 369,P4)::(nat_lit 370,P2)::(nat_lit 376,P1)::(nat_lit 377,P0)::(nat_lit 383,OZ)::(nat_lit 384,OY)::(nat_lit 390,OX)::(nat_lit 391,OW)::(nat_lit 395,OV)::(nat_lit 396,OU)::(nat_lit 402,OT)::(nat_lit 403,OS)::(nat_lit 409,OR)::(nat_lit 410,OQ)::(nat_lit 416,OP)::(nat_lit 417,OO)::(nat_lit 423,ON)::(nat_lit 424,OM)::(nat_lit 428,OL)::(nat_lit 429,OK)::(nat_lit 435,OJ)::(nat_lit 436,OI)::(nat_lit 442,OH)::(nat_lit 443,OG)::(nat_lit 449,OF)::(nat_lit 450,OE)::[]
def as:List Addr:=[2,3,15,16,17,18,19,20,21,22,23,24,25,31,32,38,39,45,46,52,53,59,60,66,67,73,74,80,81,82,90,91,92,95,103,104,105,108,116,117,118,121,129,130,131,134,142,143,144,152,153,159,160,166,167,173,174,178,179,183,184,188,189,195,196,202,203,209,210,216,217,221,222,228,229,235,236,242,243,249,250,256,257,263,264,265,266,267,268,269,270,271,272,273,274,275,276,277,278,279,280,281,282,283,289,290,296,297,301,302,306,307,313,314,327,328,330,331,332,333,341,342,348,349,355,356,362,363,369,370,376,377,383,384,390,391,395,396,402,403,409,410,416,417,423,424,428,429,435,436,442,443,449,450]
theorem hkE:∀P,as=(hpK P).map (·.1):=fun _=>by kernel_rfl
def H1(P:Params):Heap:={objs:={toList:=[boot_o_0 P,boot_o_1 P,o2 P,o3 P,boot_o_4 P,boot_o_5 P,boot_o_6 P,boot_o_7 P,boot_o_8 P,boot_o_9 P,boot_o_10 P,o11,o12,o13,o14,o15,o16,o17,o18,o19,o20,o21,o22,o23,o24,o25,o11,o27,o28,o11,o30,o31,o32,o11,o27,o35,o11,o37,o38,o39,o11,o27,o42,o11,o44,o45,o46,o11,o27,o49,o11,o51,o52,o53,o11,o27,o56,o11,o58,o59,o60,o11,o27,o63,o11,o65,o66,o67,o11,o27,o70,o11,o72,o73,o74,o11,o27,o77,o11,o79,o80,o81,o82,o83,o84 P,o11,o27,o87,o88,o11,o90 P,o91,o92,o93,o94,o82,o83,o97 P,o11,o27,X3,X2,o11,S5 P,S4,S3,X1,X0,o82,o83,WZ P,o11,o27,WY,WX,o11,S0 P,RZ,RY,WW,WV,o82,o83,WU P,o11,o27,WT,WS,o11,RX P,RW,RV,WR,WQ,o82,o83,WO P,o11,o27,WN,WM,o11,RU P,RS,RR,WL,WK,o11,o27,WJ,o11,WI,RQ,RP,o11,o27,WH,o11,WG,RO,RN,o11,o27,WE,o11,WD,RK,RJ,o11,o27,WC,o11,WB,RI,RH,o11,o27,WA,RG,RF,o11,o27,W9,RE,RD,o11,o27,W8,RC,RB,o11,o27,W7,o11,W6,RA,R9,o11,o27,W5,o11,W3,R8,R7,o11,o27,W2,o11,W0,R6,R5,o11,o27,VZ,o11,VY,R4,R1,o11,o27,VX,R0,QZ,o11,o27,VW,o11,VU,QY,QX,o11,o27,VT,o11,VS,QW,QV,o11,o27,VR,o11,VQ,QU,QT,o11,o27,VP,o11,VO,QS,QR,o11,o27,VN,o11,VM,QQ,QP,o11,o27,VL,o11,VJ,QO,QN,QM,QL,QK,QJ,QI,QH,QG,QF,QE,QD,QC,QB,QA,Q9,Q8,Q7,Q6,Q5,Q4,o11,o27,VI,o11,VH,Q3,Q2,o11,o27,VG,o11,VF,Q1,Q0,o11,o27,VE,PZ,PY,o11,o27,VD,PX,PV,o11,o27,VC,o11,VB,PU,PR,o11,o83,VA P,o11,V9,V8,V7,o11,o27,V6,o11,V5,PQ,PN,V3,PM P,PL,PJ,PH,V2,V1,o11,o27,V0,o11,UZ,PF,PD,o11,o27,UY,o11,UX,PB,P9,o11,o27,UW,o11,UU,P8,P7,o11,o27,UT,o11,US,P6,P5,o11,o27,UR,o11,UQ,P4,P2,o11,o27,UP,o11,UO,P1,P0,o11,o27,UN,o11,UM,OZ,OY,o11,o27,UL,o11,UK,OX,OW,o11,o27,UJ,OV,OU,o11,o27,UI,o11,UH,OT,OS,o11,o27,UG,o11,UE,OR,OQ,o11,o27,UD,o11,UC,OP,OO,o11,o27,UB,o11,UA,ON,OM,o11,o27,U9,OL,OK,o11,o27,U8,o11,U7,OJ,OI,o11,o27,U6,o11,U5,OH,OG,o11,o27,U4,U3,U2,OF,OE]}}
def vw:Program:=view PySem.Challenge.pw_rooftold_s05_walls [1,2,3,4,5,6,7,8,9,10,11,13,14,15,16,17,18,20,21,22,23,24,25,26,27,28,29,30,31,32,33,35,36,37,38,39,40,41,42,43,44,45,46,47,49,50,51,52,53,54,55,56,58,59,60,61,62,63,64,65,66,68,69,70,71,72,73,74,75,77,78,79]
abbrev xt(s:Shared):Bool:=xlAt vw [] s&& recOk [] s
theorem run:∀w os,topRun treeTable PySem.Challenge.rw_rooftold_s05_walls.prog w 11 (some (.ref 6)) 6292 {heap:=boot_heap w.params,gens:=Array.mk [],drawn:=boot_drawn,toks:=boot_toks,os:=os} (topStub PySem.Challenge.rw_rooftold_s05_walls.prog)=some {heap:=H1 w.params,gens:=Array.mk [],drawn:=boot_drawn,toks:=867,os:=os}:=by intro w os;kernel_rfl
theorem left:LeftO PySem.Challenge.rw_rooftold_s05_walls.prog vw [] xt (Hook.obs (kHook hpK as hkE)) (Hook.val (kHook hpK as hkE)) 6292:=by refine LeftO.of_pieces (M:=6292) (boot_open (by kernel_rfl) (by decide) (fun s=>by kernel_rfl)) (fun w=>by kernel_rfl) run (by decide) (fun w=>?_);funext os;kernel_rfl
end
end HP
namespace L2
open PySem PySem.Spec PyProof.Rows
abbrev Key:=Sum Int Str
noncomputable def qW:Key->Value->Bool
 | .inl k,v=>Value.isInt k v
 | .inr x,v=>Value.isStrOf x v
def X7(w:World):Key->Int
 | .inl k=>hashInt k
 | .inr x=>hashStr w x
theorem cJ:∀{k:Key}{v:Value},qW k v=true->(∃i t,k=Sum.inl i/\v=Value.int i t)\/(∃x t,k=Sum.inr x/\v=Value.str x t)
 | .inl i,v,h=>by obtain⟨t,e⟩:=Value.isInt_shape (k:=i) (v:=v) h;exact .inl ⟨i,t,rfl,e⟩
 | .inr x,v,h=>by obtain⟨t,e⟩:=Value.isStrOf_shape (x:=x) (v:=v) h;exact .inr ⟨x,t,rfl,e⟩
theorem F5(i:Int)(t:Tok):qW (.inl i) (.int i t)=true:=by simp[qW,Value.isInt]
theorem F4(x:Str)(t:Tok):qW (.inr x) (.str x t)=true:=by simp[qW,Value.isStrOf]
theorem MR(a b:Int):decide ((Sum.inl a:Key)=Sum.inl b)=(a==b):=by
 by_cases e:a=b
 ·subst e;simp
 ·have h:¬(Sum.inl a:Key)=Sum.inl b:=fun q=>e (Sum.inl.inj q)
  rw[decide_eq_false h];exact(beq_eq_false_iff_ne.mpr e).symm
theorem MO(a b:Str):decide ((Sum.inr a:Key)=Sum.inr b)=decide (a=b):=by
 by_cases e:a=b
 ·subst e;simp
 ·have h:¬(Sum.inr a:Key)=Sum.inr b:=fun q=>e (Sum.inr.inj q)
  rw[decide_eq_false h,decide_eq_false e]
theorem MQ(a:Int)(b:Str):decide ((Sum.inl a:Key)=Sum.inr b)=false:=decide_eq_false (fun q=>nomatch q)
theorem MP(a:Str)(b:Int):decide ((Sum.inr a:Key)=Sum.inl b)=false:=decide_eq_false (fun q=>nomatch q)
noncomputable def cD(prog:Program)(w:World):PySem.KeyKind prog w Key where
 is:=qW
 hash:=X7 w
 inj:=fun v a b ha hb=>by
  rcases cJ ha with⟨i,t,rfl,rfl⟩|⟨x,t,rfl,rfl⟩
  ·rcases cJ hb with⟨j,u,rfl,e⟩|⟨y,u,rfl,e⟩
   ·injection e with e1 _;rw[e1]
   ·exact nomatch e
  ·rcases cJ hb with⟨j,u,rfl,e⟩|⟨y,u,rfl,e⟩
   ·exact nomatch e
   ·injection e with e1 _;rw[e1]
 byValue:=fun k v h=>by rcases cJ h with⟨i,t,rfl,rfl⟩|⟨x,t,rfl,rfl⟩<;>rfl
 pyHash:=fun hv h=>by
  rcases cJ hv with⟨i,t,rfl,rfl⟩|⟨x,t,rfl,rfl⟩
  ·exact wpAny_pyHash_int h
  ·exact wpAny_pyHash_str h
 eqBool:=fun hu hv h=>by
  rcases cJ hu with⟨i,t,rfl,rfl⟩|⟨x,t,rfl,rfl⟩
  ·rcases cJ hv with⟨j,u,rfl,rfl⟩|⟨y,u,rfl,rfl⟩
   ·rw[MR]at h;exact wpAny_eqBool_int h
   ·rw[MQ]at h;exact SeqAt.EqAt.int_str i t y u _ _ _ _ h
  ·rcases cJ hv with⟨j,u,rfl,rfl⟩|⟨y,u,rfl,rfl⟩
   ·rw[MP]at h;exact SeqAt.EqAt.str_int x t j u _ _ _ _ h
   ·rw[MO]at h;exact wpAny_eqBool_str h
 «strs» :=fun k x t v h=>by
  rcases cJ h with⟨i,u,rfl,e⟩|⟨y,u,rfl,e⟩
  ·exact nomatch e
  ·injection e with e1 _
   subst e1;cases v<;>rfl
theorem yP(prog:Program)(w:World)(i:Int)(t:Tok):(cD prog w).is (.inl i) (.int i t)=true:=F5 i t
theorem yO(prog:Program)(w:World)(x:Str)(t:Tok):(cD prog w).is (.inr x) (.str x t)=true:=F4 x t
inductive V where
 |non|bl (b:Bool)|int (i:Int)|str (x:Str)|byt (b:Array UInt8)|flt (b:UInt64)|ref (a:Addr)|ty (n:String)
 deriving DecidableEq
noncomputable def RelV:V->Value->Prop
 | .non,u=>u=Value.none
 | .bl b,u=>u=Value.bool b
 | .int i,u=>∃t,u=Value.int i t
 | .str x,u=>∃t,u=Value.str x t
 | .byt b,u=>∃t,u=Value.bytes b t
 | .flt b,u=>∃t,u=Value.float b t
 | .ref a,u=>u=Value.ref a
 | .ty n,u=>u=Value.type n
abbrev Vals:List V->List Value->Prop:=Paired RelV
theorem Vals.length{xs:List V}{us:List Value}(r:Vals xs us):xs.length=us.length:=Paired.length r
theorem Vals.get:∀{xs:List V}{us:List Value}{i:Nat}{x:V},Vals xs us->xs[i]? =some x->∃u,us[i]? =some u/\RelV x u
 |_,_,_,_,.nil,e=>by simp at e
 |_,_,0,_,.cons r _,e=>by simp at e;subst e;exact⟨_,rfl,r⟩
 |_,_,i+1,x,.cons _ t,e=>by obtain⟨u,h1,h2⟩:=Vals.get (i:=i) (x:=x) t (by simpa using e);exact⟨u,by simpa using h1,h2⟩
theorem Vals.set{x:V}{u:Value}(r:RelV x u):∀{xs:List V}{us:List Value}(i:Nat),Vals xs us->Vals (xs.set i x) (us.set i u)
 |_,_,_,.nil=>.nil
 |_,_,0,.cons _ t=>.cons r t
 |_,_,i+1,.cons q t=>.cons q (Vals.set r i t)
theorem Vals.append:∀{xs ys:List V}{us ws:List Value},Vals xs us->Vals ys ws->Vals (xs++ys) (us++ws)
 |_,_,_,_,.nil,s=>s
 |_,_,_,_,.cons r t,s=>.cons r (Vals.append t s)
theorem Vals.take:∀{xs:List V}{us:List Value}(n:Nat),Vals xs us->Vals (xs.take n) (us.take n)
 |_,_,0,_=>.nil
 |_,_,_+1,.nil=>.nil
 |_,_,n+1,.cons r t=>.cons r (Vals.take n t)
theorem Vals.drop:∀{xs:List V}{us:List Value}(n:Nat),Vals xs us->Vals (xs.drop n) (us.drop n)
 |_,_,0,r=>r
 |_,_,_+1,.nil=>.nil
 |_,_,n+1,.cons _ t=>Vals.drop n t
noncomputable def mX:Option V->Option Value->Prop
 |some v,some u=>RelV v u
 |none,none=>True
 |_,_=>False
noncomputable def KV{κ:Type}:List (κ×V)->List (κ×Value)->Prop:=Paired fun(p:κ×V)(q:κ×Value)=>p.1=q.1/\RelV p.2 q.2
def kV:Key->V
 | .inl i=>.int i
 | .inr x=>.str x
inductive HO where
 |lst (xs:List V)
 |tup (xs:List V)
 |dK (kvs:List (Key×V))|dT (kvs:List (List Key×V))
 |set (S:Int->Bool) (n:Nat)
 |ins (C dx:Addr) (fs:List (Str×V))
 |own (x:Addr)
 |xd (fs:List (Str×V))
 |met (f x:Addr)
 |rng (lo hi:Int)
 |frz (o:Obj) (u:HO)
 |tbl (ps:Array Value)
 |ext (φ:Heap->Prop)
abbrev Hp:=Addr->Option HO
def upd(H:Hp)(a:Addr)(o:HO):Hp:=fun b=>if b=a then some o else H b
theorem a8{H:Hp}{a:Addr}{o:HO}:upd H a o a=some o:=by unfold upd;rw[ah rfl]
theorem aB{H:Hp}{a b:Addr}{o:HO}(h:b≠a):upd H a o b=H b:=by unfold upd;rw[af h]
theorem dF{H:Hp}{a b:Addr}{o u:HO}(h:H a=some o)(h':H b=some u)(d:o≠u):a≠b:=by intro e;subst e;rw[h]at h';exact d (Option.some.inj h')
theorem aH{H:Hp}{a b:Addr}{o:HO}(h:H a=some o)(h':H b=none):a≠b:=by intro e;subst e;rw[h]at h';cases h'
section
variable (P:Program) (w:World)
noncomputable def dG(H:Hp)(h:Heap)(a:Addr):HO->Prop
 | .lst xs=>xs.length<=sizeLine/\∃(its:List Value)(n:Nat),Vals xs its/\h.get? a=some {cls:=.type "list",data:=.seq its.toArray n}
 | .tup xs=>xs.length<=sizeLine/\∃its:List Value,Vals xs its/\IsTup h a its.toArray
 | .dK kvs=>kvs.length<=sizeLine/\(a==sysModules)=false/\∃vs,KV kvs vs/\h.DictOf (cD P w) a vs
 | .dT kvs=>kvs.length<=sizeLine/\(a==sysModules)=false/\∃xs:List (List Key×Addr×Value),
   Paired (fun(p:List Key×V)(q:List Key×Addr×Value)=>p.1=q.1/\H q.2.1=some (.tup (p.1.map kV))/\RelV p.2 q.2.2) kvs xs/\
   ∃o es ep,h.get? a=some o/\o.ExactDict/\o.data=.dict es ep/\es.toList=xs.map (entryOfKey (tupleKind (cD P w)))/\(xs.map (·.1)).Nodup
 | .set S n=>h.SetOf (intKind P w) a S n
 | .ins C dx fs=>H dx=some (.own a)/\fs.length<=1000/\dx≠a/\h.get? a=some (W.instObj C dx)/\
   ∃mA,h.Ns1 dx mA/\(∀f,mX (fs.lookup f) (mA f))/\PySem.Within mA (fs.map (·.1))
 | .own _=>∃o,h.get? a=some o
 | .xd fs=>∃mA,h.Ns1 a mA/\∀f,mX (fs.lookup f) (mA f)
 | .rng lo hi=>∃t u v,h.get? a=some {cls:=.type "range",data:=.fields #[.int lo t,.int hi u,.int 1 v]}
 | .frz o u=>h.get? a=some o/\dG H h a u
 | .tbl ps=>h.get? a=some {cls:=.none,data:=.fields ps}
 | .met f x=>h.get? a=some (W.methodObj (.ref f) (.ref x))
 | .ext φ=>φ h/\(∃o,h.get? a=some o)/\∀h1 h2:Heap,φ h1->(∀o,h1.get? a=some o->h2.get? a=some o)->φ h2
def HOk(H:Hp)(h:Heap):Prop:=∀a o,H a=some o->dG P w H h a o
end
section
variable {P:Program}{w:World}{H H':Hp}{h h':Heap}{a:Addr}{o:HO}
theorem dG.lt(x:dG P w H h a o):a<h.objs.size:=by
 cases o with
 |lst xs=>obtain⟨_,_,_,_,e⟩:=x;exact bu e
 |tup xs=>obtain⟨_,_,_,p⟩:=x;exact p.lt
 |dK kvs=>obtain⟨_,_,_,_,o,_,_,e,_⟩:=x;exact bu e
 |dT kvs=>obtain⟨_,_,_,_,o,_,_,e,_⟩:=x;exact bu e
 |set S n=>obtain⟨o,_,_,_,e,_⟩:=x;exact bu e
 |ins C dx fs=>obtain⟨_,_,_,e,_⟩:=x;exact bu e
 |own y=>obtain⟨_,e⟩:=x;exact bu e
 |xd fs=>obtain⟨_,⟨_,_,_,e,_⟩,_⟩:=x;exact bu e
 |rng lo hi=>obtain⟨_,_,_,e⟩:=x;exact bu e
 |frz ob u=>obtain⟨e,_⟩:=x;exact bu e
 |tbl ps=>exact bu (show h.get? a=some _ from x)
 |met f y=>exact bu (show h.get? a=some _ from x)
 |ext φ=>obtain⟨_,⟨_,e⟩,_⟩:=x;exact bu e
theorem Paired.ML{α β:Type}{F G:α->β->Prop}:∀{l₁:List α}{l₂:List β},Paired F l₁ l₂->(∀a b,F a b->G a b)->Paired G l₁ l₂
 |_,_,.nil,_=>.nil
 |_,_,.cons r t,f=>.cons (f _ _ r) (Paired.ML t f)
theorem dG.nE(x:dG P w H h a o)(k:∀b u,(b=a\/H b=some (.own a))->h.get? b=some u->h'.get? b=some u)
  (ho:∀b,H b=some (.own a)->H' b=some (.own a)) (ht:∀b xs,H b=some (.tup xs)->H' b=some (.tup xs)):dG P w H' h' a o:=by
 induction o with
 |lst xs=>obtain⟨z,its,n,r,e⟩:=x;exact⟨z,its,n,r,k _ _ (.inl rfl) e⟩
 |tup xs=>obtain⟨z,its,r,ob,e,c⟩:=x;exact⟨z,its,r,ob,k _ _ (.inl rfl) e,c⟩
 |dK kvs=>obtain⟨z,y,vs,r,ob,es,ep,e,c⟩:=x;exact⟨z,y,vs,r,ob,es,ep,k _ _ (.inl rfl) e,c⟩
 |dT kvs=>obtain⟨z,y,xs,r,ob,es,ep,e,c⟩:=x;exact⟨z,y,xs,Paired.ML r fun p q z=>⟨z.1,ht _ _ z.2.1,z.2.2⟩,ob,es,ep,k _ _ (.inl rfl) e,c⟩
 |set S n=>obtain⟨ob,es,ep,t,e,c⟩:=x;exact⟨ob,es,ep,t,k _ _ (.inl rfl) e,c⟩
 |ins C dx fs=>obtain⟨d,z,ne,e,mA,⟨od,es,ep,e2,c⟩,r⟩:=x;exact⟨ho _ d,z,ne,k _ _ (.inl rfl) e,mA,⟨od,es,ep,k _ _ (.inr d) e2,c⟩,r⟩
 |own y=>obtain⟨ob,e⟩:=x;exact⟨ob,k _ _ (.inl rfl) e⟩
 |xd fs=>obtain⟨mA,⟨od,es,ep,e,c⟩,r⟩:=x;exact⟨mA,⟨od,es,ep,k _ _ (.inl rfl) e,c⟩,r⟩
 |rng lo hi=>obtain⟨t,u,v,e⟩:=x;exact⟨t,u,v,k _ _ (.inl rfl) e⟩
 |frz ob u ih=>obtain⟨e,q⟩:=x;exact⟨k _ _ (.inl rfl) e,ih q⟩
 |tbl ps=>
  have e:h.get? a=some {cls:=.none,data:=.fields ps}:=x;show h'.get? a=some {cls:=.none,data:=.fields ps}
  exact k a _ (.inl rfl) e
 |met f y=>
  have e:h.get? a=some (W.methodObj (.ref f) (.ref y)):=x;show h'.get? a=some (W.methodObj (.ref f) (.ref y))
  exact k a _ (.inl rfl) e
 |ext φ=>obtain⟨p,⟨o,e⟩,st⟩:=x;exact⟨st _ _ p fun o q=>k _ _ (.inl rfl) q,⟨o,k _ _ (.inl rfl) e⟩,st⟩
theorem HOk.lt(x:HOk P w H h)(e:H a=some o):a<h.objs.size:=(x a o e).lt
theorem HOk.fresh(x:HOk P w H h)(e:h.objs.size<=a):H a=none:=by
 cases q:H a with
 |none=>rfl
 |some u=>exact absurd (cb (x.lt q) e) (gz _)
theorem HOk.kept(x:HOk P w H h)(k:∀b u,h.get? b=some u->h'.get? b=some u):HOk P w H h':=fun a o e=>
 (x a o e).nE (fun b u _ q=>k b u q) (fun _ q=>q) fun _ _ q=>q
theorem HOk.laid(x:HOk P w H h)(k:∀b u,h.get? b=some u->h'.get? b=some u)(hp:h.objs.size<=a)(new:dG P w (upd H a o) h' a o):HOk P w (upd H a o) h':=fun b u e=>by
 have hn:=x.fresh hp;by_cases hb:b=a
 ·subst hb;rw[a8]at e;cases e;exact new
 ·rw[aB hb]at e;exact(x b u e).nE (fun c v _ q=>k c v q) (fun c q=>by rw[aB (aH q hn)];exact q) fun c xs q=>by rw[aB (aH q hn)];exact q
end
def Rd(H:Hp)(a:Addr)(u:HO):Prop:=H a=some u\/∃o,H a=some (.frz o u)
theorem Rd.ok{P:Program}{w:World}{H:Hp}{h:Heap}{a:Addr}{u:HO}(r:Rd H a u)(x:HOk P w H h):dG P w H h a u:=by
 rcases r with r|⟨o,r⟩
 ·exact x a u r
 ·obtain⟨_,q⟩:=x a _ r;exact q
noncomputable def Mut:Option HO->Prop
 |some (.lst _)=>True
 |some (.dK _)=>True
 |some (.dT _)=>True
 |some (.set _ _)=>True
 |some (.ins _ _ _)=>True
 |some (.ext _)=>True
 |_=>False
section
variable {P:Program}{w:World}{H:Hp}{h h':Heap}{x e:Addr}{o':HO}
theorem HOk.write(ok:HOk P w H h)(mu:Mut (H x))(he:e=x\/H e=some (.own x))(k:∀b u,b≠e->h.get? b=some u->h'.get? b=some u)(xi:∃u,h'.get? e=some u)
  (new:dG P w (upd H x o') h' x o'):HOk P w (upd H x o') h':=fun b u q=>by
 have By:∀c y,H c=some (.own y)->c≠x:=fun c y r z=>by subst z;rw[r]at mu;exact mu
 have ntup:∀c xs,H c=some (.tup xs)->c≠x:=fun c xs r z=>by subst z;rw[r]at mu;exact mu
 by_cases hb:b=x
 ·subst hb;rw[a8]at q;cases q;exact new
 ·rw[aB hb]at q;by_cases hbe:b=e
  ·have q':H b=some (.own x):=by
    rcases he with z|z
    ·exact absurd (hbe.trans z) hb
    ·rw[hbe];exact z
   rw[q]at q';cases q';obtain⟨v,hv⟩:=xi;exact⟨v,by rw[hbe];exact hv⟩
  ·refine(ok b u q).nE (fun c v hc r=>k c v ?_ r) (fun c r=>by rw[aB (By c b r)];exact r) fun c xs r=>by rw[aB (ntup c xs r)];exact r
   rcases hc with rfl|hc
   ·exact hbe
   ·rintro rfl;rcases he with z|z
    ·exact By c b hc z
    ·rw[hc]at z;cases z;exact hb rfl
end
structure Un(fs ex:List Addr)(H H':Hp)(h h':Heap):Prop where
 keep:∀b o,h.get? b=some o->H b=none->b∉fs->b∉ex->h'.get? b=some o
 slot:∀b o,h.get? b=some o->H b=none->b∈fs->b∉ex->∃sl,h'.get? b=some {o with slots:=sl}
 free:∀b o,h.get? b=some o->H b=none->b∉ex->H' b=none
 there:∀b o,h.get? b=some o->b∉ex->∃o',h'.get? b=some o'
 uF:∀b xs,H b=some (.tup xs)->H' b=some (.tup xs)
 oH:∀b o u,H b=some (.frz o u)->H' b=some (.frz o u)
 sD:∀b ps,H b=some (.tbl ps)->∃more,H' b=some (.tbl (ps++more))
section
variable {fs fs' ex ex':List Addr}{H H1 H2:Hp}{h h1 h2 h':Heap}{a x e:Addr}{o:HO}
theorem Un.any(u:Un fs ex H H1 h h1){b:Addr}{ob:Obj}(q:h.get? b=some ob)(n:H b=none)(hx:b∉ex):∃sl,h1.get? b=some {ob with slots:=sl}:=by
 by_cases hb:b∈fs
 ·exact u.slot b ob q n hb hx
 ·exact⟨ob.slots,u.keep b ob q n hb hx⟩
theorem Un.kept(k:∀b u,h.get? b=some u->h'.get? b=some u):Un fs ex H H h h':=
 ⟨fun b ob q _ _ _=>k b ob q,fun b ob q _ _ _=>⟨ob.slots,k b ob q⟩,fun _ _ _ n _=>n,fun b ob q _=>⟨ob,k b ob q⟩,fun _ _ q=>q,fun _ _ _ q=>q,fun _ ps q=>⟨#[],by rw[q];simp⟩⟩
theorem Un.refl:Un fs ex H H h h:=Un.kept fun _ _ q=>q
theorem Un.laid(k:∀b u,h.get? b=some u->h'.get? b=some u)(hp:h.objs.size<=a)(hn:H a=none):Un fs ex H (upd H a o) h h' where
 keep:=fun b u q _ _ _=>k b u q
 slot:=fun b u q _ _ _=>⟨u.slots,k b u q⟩
 free:=fun b u q n _=>by rw[aB (da (cb (bu q) hp))];exact n
 there:=fun b u q _=>⟨u,k b u q⟩
 uF:=fun b xs q=>by rw[aB (aH q hn)];exact q
 oH:=fun b u xs q=>by rw[aB (aH q hn)];exact q
 sD:=fun b ps q=>⟨#[],by rw[aB (aH q hn),q];simp⟩
theorem Un.write(mu:Mut (H x))(he:e=x\/H e=some (.own x))(k:∀b u,b≠e->h.get? b=some u->h'.get? b=some u)(xi:∃u,h'.get? e=some u):Un fs ex H (upd H x o) h h':=by
 have hx:∀b,H b=none->b≠x:=fun b n z=>by subst z;rw[n]at mu;exact mu
 have hb:∀b,H b=none->b≠e:=fun b n z=>by
  subst z;rcases he with r|r
  ·exact hx b n r
  ·rw[n]at r;cases r
 have hm:∀b u,H b=some u->¬Mut (some u)->b≠x:=fun b u q nm z=>by subst z;rw[q]at mu;exact nm mu
 refine⟨fun b u q n _ _=>k b u (hb b n) q,fun b u q n _ _=>⟨u.slots,k b u (hb b n) q⟩,fun b u q n _=>by rw[aB (hx b n)];exact n,fun b u q _=>?_,
  fun b xs q=>by rw[aB (hm b _ q fun z=>z)];exact q,fun b u xs q=>by rw[aB (hm b _ q fun z=>z)];exact q,fun b ps q=>⟨#[],by rw[aB (hm b _ q fun z=>z),q];simp⟩⟩
 by_cases hbe:b=e
 ·subst hbe;exact xi
 ·exact⟨u,k b u hbe q⟩
end
def trk(h:Heap)(H:Hp):List Addr:=(List.range h.objs.size).filter fun a=>(H a).isSome
def xE(h:Heap)(H:Hp):Heap:=W.hideAll h (trk h H)
theorem F7(h:Heap)(H:Hp):(xE h H).objs.size=h.objs.size:=W.hideAll_size _ _
theorem IW{h:Heap}{H:Hp}{b:Addr}{o:Obj}(e:h.get? b=some o)(n:H b=none):(xE h H).get? b=some o:=
 W.hideAll_get _ e fun hm=>by have q:(H b).isSome=true:=(cf.mp hm).2;rw[n]at q;simp at q
theorem K7{h:Heap}{H:Hp}{b:Addr}{o:Obj}(e:(xE h H).get? b=some o):h.get? b=some o/\H b=none:=by
 have e':h.get? b=some o:=W.of_hideAll (trk h H) e;refine⟨e',?_⟩;cases q:H b with
 |none=>rfl
 |some x=>have hm:b∈trk h H:=cf.mpr ⟨iy.mpr (bu e'),by simp[q]⟩;have z:(xE h H).get? b=none:=W.hideAll_none (trk h H) hm;rw[z]at e;cases e
structure Mod(K:W.Frag)(mg:Str->Option Value)(base:Heap):Prop where
 kin:K.In base
 glob:base.Ns mainGlobals mg
 blt:∃mb,base.Ns builtinsNs mb/\∀x:Str,x≠ "__name__" ->mb x=bootBuiltins x
 nolimit:base.NoLimit
structure Cx where
 prog:Program
 w:World
 K:W.Frag
 mg:Str->Option Value
 base:Heap
 A:Around
 N:List Str
 s_0:Shared
 H_0:Hp
 env:Env
 outer:List Env
 stack:List Env
 ex:List Addr
 fn:Str->Bool
 calm:Bool
 pn:List (Addr×Obj)
 xe:Value->Shared->Prop
def frs(l:List Env):List Addr:=l.filterMap (·.frame)
abbrev Cx.fs(X:Cx):List Addr:=frs X.outer
noncomputable def Vis(sc:Scope)(x:Str):Prop:=sc.names.lookup x=some .local\/sc.names.lookup x=some .cell\/sc.names.lookup x=some .free
noncomputable def Loc(sc:Scope)(x:Str):Prop:=sc.names.lookup x=some .local\/sc.names.lookup x=some .cell
noncomputable def Look(env:Env)(h:Heap)(m:Str->Option Value)(x:Str)(u:Value):Prop:=
 (env.kindOf x=some .local/\m x=some u)\/((env.kindOf x=some .cell\/env.kindOf x=some .free)/\∃c,env.cells.lookup x=some c/\h.IsCell c (some u))
structure Cx.Ok(X:Cx):Prop where
 mod:Mod X.K X.mg X.base
 kind:X.env.scope.kind=.function
 glob:X.env.globals=mainGlobals
 blt:X.env.builtins=builtinsNs
 above:X.s_0.heap.objs.size<=X.env.locals
 inj:∀x y c,X.env.cells.lookup x=some c->X.env.cells.lookup y=some c->x=y
 has:∀x,(X.env.kindOf x=some .cell\/X.env.kindOf x=some .free)->∃c,X.env.cells.lookup x=some c
 cab:∀x c,X.fn x=true->X.env.cells.lookup x=some c->X.s_0.heap.objs.size<=c
 hd:X.calm=true->X.A.handled=none
 frames:X.A.frames=some X.stack
 stk:X.stack=X.outer\/(X.stack=X.env::X.outer/\X.env.frame=some X.env.locals)
 exf:∀b∈X.ex,b≠X.env.locals/\∀x c,X.env.cells.lookup x=some c->c≠b
 bs:∀b o,X.base.get? b=some o->X.s_0.heap.get? b=some o/\X.H_0 b=none
 bsz:X.base.objs.size<=X.s_0.heap.objs.size
 HX:∀b o,X.base.get? b=some o->b∉X.ex
 C0:∀b∈X.ex,b∉X.fs
 kO:X.s_0.heap.FunFrames X.base X.outer
 frf:∀b∈X.fs,X.H_0 b=none
structure Inv(X:Cx)(jx:List (Addr×Obj))(σ:List (Option V))(H:Hp)(s:Shared):Prop where
 ok:X.Ok
 os:s.os=X.s_0.os
 bare:AllBare s.gens
 base:Un X.fs X.ex X.H_0 H X.s_0.heap s.heap
 loc:∃m,s.heap.Ns X.env.locals m/\∀(i:Nat)(x:Str)(v:V),X.N[i]? =some x->σ[i]? =some (some v)->Vis X.env.scope x->∃u,RelV v u/\Look X.env s.heap m x u
 cell:∀x c,X.env.cells.lookup x=some c->∃v,s.heap.IsCell c v
 free:H X.env.locals=none
 iC:∀x c,X.env.cells.lookup x=some c->H c=none
 pin:∀p∈X.pn++jx,s.heap.get? p.1=some p.2/\H p.1=none/\p.1≠X.env.locals/\p.1∉X.fs/\∀v,p.2.data≠ .cell v
 hok:HOk X.prog X.w H s.heap
 len:σ.length=X.N.length
section
variable {X:Cx}{jx:List (Addr×Obj)}{σ:List (Option V)}{H H':Hp}{s:Shared}{h':Heap}
theorem Cx.Ok.X5(ok:X.Ok){b:Addr}{o:Obj}(e:X.base.get? b=some o):b∉X.fs:=fun hb=>by have:=(ok.kO.mem hb).1;rw[e]at this;cases this
theorem Inv.bs(I:Inv X jx σ H s):∀b o,X.base.get? b=some o->s.heap.get? b=some o/\H b=none:=fun b o e=>
 ⟨I.base.keep b o (I.ok.bs b o e).1 (I.ok.bs b o e).2 (I.ok.X5 e) (I.ok.HX b o e),I.base.free b o (I.ok.bs b o e).1 (I.ok.bs b o e).2 (I.ok.HX b o e)⟩
theorem Inv.bk(I:Inv X jx σ H s):∀b o,X.base.get? b=some o->s.heap.get? b=some o:=fun b o e=>(I.bs b o e).1
theorem Inv.mod(I:Inv X jx σ H s):Mod X.K X.mg X.base:=I.ok.mod
theorem Inv.kIn(I:Inv X jx σ H s):X.K.In s.heap:=I.ok.mod.kin.keeps I.bk
theorem Inv.lt(I:Inv X jx σ H s):X.env.locals<s.heap.objs.size:=let⟨_,hn,_⟩:=I.loc;hn.lt
theorem Inv.sz(I:Inv X jx σ H s):X.s_0.heap.objs.size<=s.heap.objs.size:=df I.ok.above (le_of_lt I.lt)
theorem Inv.X4(I:Inv X jx σ H s){a:Addr}(h:s.heap.objs.size<=a):a∉X.fs:=fun hb=>by obtain⟨_,o,ho,_⟩:=I.ok.kO.mem hb;exact absurd (cb (bu ho) (df I.sz h)) (gz _)
theorem Inv.cne(I:Inv X jx σ H s):∀x c,X.env.cells.lookup x=some c->c≠X.env.locals:=fun x c e z=>by obtain⟨v,o,ho,hd⟩:=I.cell x c e;obtain⟨m,⟨o',es,ep,vt,xn,_⟩,_⟩:=I.loc;rw[z,vt]at ho;cases ho;rw[xn]at hd;cases hd
theorem Inv.kO(I:Inv X jx σ H s):s.heap.FunFrames X.base X.outer:=by
 have all:∀(l:List Env),(∀b∈frs l,b∈X.fs)->X.s_0.heap.FunFrames X.base l->s.heap.FunFrames X.base l:=by
  intro l;induction l with
  |nil=>intro _ _;trivial
  |cons env r ih=>
   intro hs hl;obtain⟨hk,⟨L,o,hf,hn,ho,hd⟩,hr⟩:=hl;have hL:L∈X.fs:=hs L (by unfold frs;rw[ej,hf];exact bj);obtain⟨sl,e⟩:=I.base.slot L o ho (I.ok.frf L hL) hL fun z=>I.ok.C0 L z hL
   exact⟨hk,⟨L,_,hf,hn,e,hd⟩,ih (fun b hb=>hs b (by unfold frs;rw[ej,hf];exact aq _ hb)) hr⟩
 exact all X.outer (fun _ hb=>hb) I.ok.kO
theorem Inv.stack(I:Inv X jx σ H s):s.heap.FunFrames X.base X.stack:=by
 rcases I.ok.stk with e|⟨e,hf⟩
 ·rw[e];exact I.kO
 ·rw[e];obtain⟨m,hn,_⟩:=I.loc;refine .cons (by rw[I.ok.kind];decide) hf hn ?_ I.kO;exact Heap.get?_none_of_le (df I.ok.bsz I.ok.above)
theorem Inv.sF(I:Inv X jx σ H s):∀b∈frs X.stack,b∈X.env.locals::X.fs:=fun b hb=>by
 rcases I.ok.stk with e|⟨e,hf⟩
 ·rw[e]at hb;exact aq _ hb
 ·rw[e]at hb;unfold frs at hb;rw[ej,hf]at hb;exact hb
theorem Inv.wO(I:Inv X jx σ H s):∀b∈frs X.stack,H b=none:=fun b hb=>by
 rcases ar.mp (I.sF b hb)with e|hb
 ·rw[e];exact I.free
 ·obtain⟨_,o,ho,_⟩:=I.ok.kO.mem hb;exact I.base.free b o ho (I.ok.frf b hb) fun z=>I.ok.C0 b z hb
theorem Inv.step{g':Array GenState}{t':Nat}{d':Drawn}{ch:List Addr}(I:Inv X jx σ H s)
  (wd:∀b∈ch,(b∈X.ex\/X.s_0.heap.objs.size<=b)/\b≠X.env.locals/\(∀x c,X.env.cells.lookup x=some c->c≠b)/\∀p∈X.pn++jx,p.1≠b)
  (keep:∀b o,b≠X.env.locals->b∉X.fs->b∉ch->s.heap.get? b=some o->H b=none->h'.get? b=some o)
  (slot:∀b o,b≠X.env.locals->b∈X.fs->b∉ch->s.heap.get? b=some o->H b=none->∃sl,h'.get? b=some {o with slots:=sl}) (free:∀b o,b∉ch->s.heap.get? b=some o->H b=none->H' b=none)
  (there:∀b o,b∉ch->s.heap.get? b=some o->∃o',h'.get? b=some o')
  (uF:∀b xs,H b=some (.tup xs)->H' b=some (.tup xs)) (oH:∀b o u,H b=some (.frz o u)->H' b=some (.frz o u)) (sD:∀b ps,H b=some (.tbl ps)->∃more,H' b=some (.tbl (ps++more)))
  (ns:∀m,s.heap.Ns X.env.locals m->h'.Ns X.env.locals m) (hok:HOk X.prog X.w H' h') (hg:AllBare g'):
  Inv X jx σ H' {s with heap:=h',gens:=g',drawn:=d',toks:=t'}:=by
 have neL:∀b o,X.s_0.heap.get? b=some o->b≠X.env.locals:=fun b o e=>da (cb (bu e) I.ok.above)
 have neC:∀b o,X.s_0.heap.get? b=some o->b∉X.ex->b∉ch:=fun b o e hx hb=>by
  rcases(wd b hb).1 with z|z
  ·exact hx z
  ·exact absurd (cb (bu e) z) (gz _)
 have yw:∀x c,X.env.cells.lookup x=some c->∀v,s.heap.IsCell c v->h'.IsCell c v:=fun x c e v ⟨o,ho,hd⟩=>by
  have zg:c∉ch:=fun z=>(wd c z).2.2.1 x c e rfl
  by_cases hc:c∈X.fs
  ·obtain⟨sl,q⟩:=slot c o (I.cne x c e) hc zg ho (I.iC x c e);exact⟨_,q,hd⟩
  ·exact⟨o,keep c o (I.cne x c e) hc zg ho (I.iC x c e),hd⟩
 refine⟨I.ok,I.os,hg,⟨fun b o e n hb hx=>?_,fun b o e n hb hx=>?_,fun b o e n hx=>?_,fun b o e hx=>?_,fun b xs e=>uF b xs (I.base.uF b xs e),fun b o xs e=>oH b o xs (I.base.oH b o xs e),fun b ps e=>?_⟩,?_,fun x c e=>?_,?_,fun x c e=>?_,fun p hp=>?_,hok,I.len⟩
 ·exact keep b o (neL b o e) hb (neC b o e hx) (I.base.keep b o e n hb hx) (I.base.free b o e n hx)
 ·obtain⟨sl,e1⟩:=I.base.slot b o e n hb hx;obtain⟨sl',e2⟩:=slot b _ (neL b o e) hb (neC b o e hx) e1 (I.base.free b o e n hx);exact⟨sl',e2⟩
 ·obtain⟨o',e1⟩:=I.base.there b o e hx;exact free b o' (neC b o e hx) e1 (I.base.free b o e n hx)
 ·obtain⟨o',e1⟩:=I.base.there b o e hx;exact there b o' (neC b o e hx) e1
 ·obtain⟨m1,e1⟩:=I.base.sD b ps e;obtain⟨m2,e2⟩:=sD b _ e1;exact⟨m1++m2,by rw[e2,Array.append_assoc]⟩
 ·obtain⟨m,hn,hl⟩:=I.loc;refine⟨m,ns m hn,fun i x v e1 e2 e3=>?_⟩;obtain⟨u,r,l⟩:=hl i x v e1 e2 e3;refine⟨u,r,?_⟩;rcases l with l|⟨k,c,e,z⟩
  ·exact .inl l
  ·exact .inr ⟨k,c,e,yw x c e _ z⟩
 ·obtain⟨v,z⟩:=I.cell x c e;exact⟨v,yw x c e v z⟩
 ·obtain⟨m,⟨o,_,_,ho,_⟩,_⟩:=I.loc;exact free _ o (fun z=>(wd _ z).2.1 rfl) ho I.free
 ·obtain⟨v,o,ho,hd⟩:=I.cell x c e;exact free c o (fun z=>(wd c z).2.2.1 x c e rfl) ho (I.iC x c e)
 ·obtain⟨e,n,ne,nf,d⟩:=I.pin p hp;have zg:p.1∉ch:=fun z=>(wd p.1 z).2.2.2 p hp rfl
  exact⟨keep p.1 p.2 ne nf zg e n,free p.1 p.2 zg e n,ne,nf,d⟩
theorem Inv.un{t':Nat}(I:Inv X jx σ H s)(u:Un X.fs [] H H' s.heap h')(hok:HOk X.prog X.w H' h'):Inv X jx σ H' {s with heap:=h',toks:=t'}:=by
 obtain⟨m,⟨o,es,ep,ho,r⟩,_⟩:=id I.loc;obtain⟨sl,hL⟩:=u.any ho I.free (by simp);exact I.step (g':=s.gens) (d':=s.drawn) (ch:=[]) (fun _ z=>nomatch z) (fun b o _ hb _ e n=>u.keep b o e n hb (by simp)) (fun b o _ hb _ e n=>u.slot b o e n hb (by simp)) (fun b o _ e n=>u.free b o e n (by simp)) (fun b o _ e=>u.there b o e (by simp)) u.uF u.oH u.sD (fun m' hm=>by
  obtain⟨o',vh,vj,vt,r'⟩:=hm;rw[ho]at vt;cases vt;exact⟨_,vh,vj,hL,r'⟩) hok I.bare
theorem Inv.call{g':Array GenState}{t':Nat}{d':Drawn}{ch:List Addr}(I:Inv X jx σ H s)(u:Un (frs X.stack) ch H H' s.heap h')(hok:HOk X.prog X.w H' h')(hg:AllBare g')
  (wd:∀b∈ch,(b∈X.ex\/X.s_0.heap.objs.size<=b)/\b≠X.env.locals/\(∀x c,X.env.cells.lookup x=some c->c≠b)/\∀p∈X.pn++jx,p.1≠b):
  Inv X jx σ H' {s with heap:=h',gens:=g',drawn:=d',toks:=t'}:=by
 obtain⟨m,⟨o,es,ep,ho,r⟩,_⟩:=id I.loc;obtain⟨sl,hL⟩:=u.any ho I.free fun z=>(wd _ z).2.1 rfl
 exact I.step (ch:=ch) wd (fun b o hL hb hc e n=>u.keep b o e n (fun z=>(ar.mp (I.sF b z)).elim hL hb) hc) (fun b o _ _ hc e n=>u.any e n hc) (fun b o hc e n=>u.free b o e n hc) (fun b o hc e=>u.there b o e hc) u.uF u.oH u.sD (fun m' hm=>by
  obtain⟨o',vh,vj,vt,r'⟩:=hm;rw[ho]at vt;cases vt;exact⟨_,vh,vj,hL,r'⟩) hok hg
theorem Inv.turned{t':Nat}{it:Addr}(I:Inv X jx σ H s)(k:∀b o,b≠it->s.heap.get? b=some o->h'.get? b=some o)(hn:H it=none)(hL:it≠X.env.locals)
  (h1:it∈X.ex\/X.s_0.heap.objs.size<=it) (h2:∀x c,X.env.cells.lookup x=some c->c≠it) (h3:∀p∈X.pn++jx,p.1≠it):Inv X jx σ H {s with heap:=h',toks:=t'}:=by
 have Bz:∀b u,H b=some u->b≠it:=fun b u e z=>by rw[z,hn]at e;cases e
 refine I.step (g':=s.gens) (d':=s.drawn) (ch:=[it]) (fun b hb=>?_) (fun b o _ _ hc e _=>k b o (fun z=>hc (by simp[z])) e) (fun b o _ _ hc e _=>⟨o.slots,k b o (fun z=>hc (by simp[z])) e⟩) (fun _ _ _ _ n=>n)
  (fun b o hc e=>⟨o,k b o (fun z=>hc (by simp[z])) e⟩) (fun _ _ e=>e) (fun _ _ _ e=>e) (fun b ps e=>⟨#[],by rw[e];simp⟩) (fun m hm=>?_) (fun b u e=>?_) I.bare
 ·have e:b=it:=by simpa using hb
  subst e;exact⟨h1,hL,h2,h3⟩
 ·obtain⟨o,es,ep,ho,r⟩:=hm;exact⟨o,es,ep,k _ o (Ne.symm hL) ho,r⟩
 ·refine(I.hok b u e).nE (fun c v hc q=>k c v ?_ q) (fun _ q=>q) fun _ _ q=>q
  rcases hc with z|z
  ·rw[z];exact Bz b u e
  ·exact Bz c _ z
theorem Inv.tok(I:Inv X jx σ H s)(t:Nat):Inv X jx σ H {s with toks:=t}:=I.un (h':=s.heap) (t':=t) Un.refl I.hok
theorem Inv.kept{t':Nat}(I:Inv X jx σ H s)(k:∀b u,s.heap.get? b=some u->h'.get? b=some u):Inv X jx σ H {s with heap:=h',toks:=t'}:=I.un (Un.kept k) (I.hok.kept k)
theorem Inv.laid{a:Addr}{o:HO}{t':Nat}(I:Inv X jx σ H s)(k:∀b u,s.heap.get? b=some u->h'.get? b=some u)(hp:s.heap.objs.size<=a)(new:dG X.prog X.w (upd H a o) h' a o):
  Inv X jx σ (upd H a o) {s with heap:=h',toks:=t'}:=I.un (Un.laid k hp (I.hok.fresh hp)) (I.hok.laid k hp new)
theorem Inv.write{x e:Addr}{o:HO}{t':Nat}(I:Inv X jx σ H s)(mu:Mut (H x))(he:e=x\/H e=some (.own x))(k:∀b u,b≠e->s.heap.get? b=some u->h'.get? b=some u)(xi:∃u,h'.get? e=some u)
  (new:dG X.prog X.w (upd H x o) h' x o):Inv X jx σ (upd H x o) {s with heap:=h',toks:=t'}:=I.un (Un.write mu he k xi) (I.hok.write mu he k xi new)
theorem Inv.weak{σ':List (Option V)}(I:Inv X jx σ H s)(hl:σ'.length=σ.length)(w:∀(i:Nat) v,σ'[i]? =some (some v)->σ[i]? =some (some v)):Inv X jx σ' H s:=
 ⟨I.ok,I.os,I.bare,I.base,let⟨m,hn,hl'⟩:=I.loc;⟨m,hn,fun i x v e1 e2 e3=>hl' i x v e1 (w i v e2) e3⟩,I.cell,I.free,I.iC,I.pin,I.hok,hl.trans I.len⟩
theorem Inv.CT{yc:List (Addr×Obj)}(I:Inv X jx σ H s)(h:∀p∈yc,s.heap.get? p.1=some p.2/\H p.1=none/\p.1≠X.env.locals/\p.1∉X.fs/\∀v,p.2.data≠ .cell v):Inv X yc σ H s:=
 ⟨I.ok,I.os,I.bare,I.base,I.loc,I.cell,I.free,I.iC,fun p hp=>(aw.mp hp).elim (fun z=>I.pin p (cc _ z)) (h p),I.hok,I.len⟩
theorem tF{N:List Str}(hN:N.Nodup){i j:Nat}{x:Str}(a:N[i]? =some x)(b:N[j]? =some x):i=j:=by obtain⟨h1,e1⟩:=ak.mp a;obtain⟨h2,e2⟩:=ak.mp b;exact(List.getElem_inj hN).mp (e1.trans e2.symm)
theorem pE{M:Model}{A:Around}{E:Value->Shared->Prop}{i:Nat}{x:Str}{v:V}{u:Value}{Q:Unit->Shared->Prop}(I:Inv X jx σ H s)(hN:X.N.Nodup)(hi:X.N[i]? =some x)(hx:Loc X.env.scope x)(r:RelV v u)
  (h:∀s',Inv X jx (σ.set i (some v)) H s'->(∃a,Heap.SameBut a s.heap s'.heap/\(a=X.env.locals\/X.env.cells.lookup x=some a))->Q () s') (hf:X.fn x=true\/X.env.scope.names.lookup x=some .local:=by first|exact .inl rfl|exact .inr rfl|assumption):wpAny M A (storeName X.env x u) Q E s:=by
 obtain⟨m,hn,hl⟩:=id I.loc;have qt:(X.env.scope.kind== .class||(X.env.scope.kind== .module&& X.env.locals !=X.env.globals))=false:=by rw[I.ok.kind];rfl
 have hiσ:i<σ.length:=by rw[I.len];exact(ak.mp hi).1
 have cne:=I.cne;have sg:∀{a:Addr}{h':Heap},(∃o,s.heap.get? a=some o/\H a=none)->Heap.SameBut a s.heap h'->HOk X.prog X.w H h':=fun{a h'} ha hs b ob e=>by
  obtain⟨_,_,mh⟩:=ha;refine(I.hok b ob e).nE (fun c w' hc q=>(hs.2 c ?_).trans q) (fun _ q=>q) fun _ _ q=>q
  rintro rfl;rcases hc with rfl|hc
  ·rw[mh]at e;cases e
  ·rw[mh]at hc;cases hc
 rcases hx with hk|hk
 ·refine wpAny_storeName_local hk hn (fun h' sh hs=>?_) qt;obtain⟨oL,_,_,Cu,_⟩:=id hn;refine h _ ⟨I.ok,I.os,I.bare,⟨fun b o e n hb hx=>?_,fun b o e n hb hx=>?_,I.base.free,fun b o e hx=>?_,I.base.uF,I.base.oH,I.base.sD⟩,⟨_,sh,fun j y v' e1 e2 e3=>?_⟩,fun y c e=>?_,I.free,I.iC,fun p hp=>?_,sg ⟨oL,Cu,I.free⟩ hs,by simpa using I.len⟩ ⟨_,hs,.inl rfl⟩
  ·exact(hs.2 b (da (cb (bu e) I.ok.above))).trans (I.base.keep b o e n hb hx)
  ·obtain⟨sl,e1⟩:=I.base.slot b o e n hb hx;exact⟨sl,(hs.2 b (da (cb (bu e) I.ok.above))).trans e1⟩
  ·obtain⟨o',e1⟩:=I.base.there b o e hx;exact⟨o',(hs.2 b (da (cb (bu e) I.ok.above))).trans e1⟩
  ·by_cases hj:j=i
   ·subst hj;rw[hi]at e1;cases e1;rw[List.getElem?_set_self hiσ]at e2;cases e2;exact⟨u,r,.inl ⟨hk,by simp⟩⟩
   ·rw[List.getElem?_set_ne (Ne.symm hj)]at e2;obtain⟨u',r',q⟩:=hl j y v' e1 e2 e3;refine⟨u',r',?_⟩;rcases q with⟨k,e⟩|⟨k,c,e,z⟩
    ·refine .inl ⟨k,?_⟩;have:y≠x:=fun e=>hj (tF hN e1 (e▸hi))
     simp[this,e]
    ·exact .inr ⟨k,c,e,z.sameBut hs (cne y c e)⟩
  ·obtain⟨w',z⟩:=I.cell y c e;exact⟨w',z.sameBut hs (cne y c e)⟩
  ·obtain⟨e,n,ne,nf,d⟩:=I.pin p hp;exact⟨(hs.2 p.1 ne).trans e,n,ne,nf,d⟩
 ·have Dj:X.fn x=true:=by
   rcases hf with z|z
   ·exact z
   ·rw[z]at hk;cases hk
  obtain⟨c,hc⟩:=I.ok.has x (.inl hk);obtain⟨w',z⟩:=I.cell x c hc;refine wpAny_storeName_cell I.ok.kind hk hc z (fun h' we hs=>?_);obtain⟨oc,hoc,hocd⟩:=id z;refine h {s with heap:=h'} ⟨I.ok,I.os,I.bare,⟨fun b o e n hb hx=>?_,fun b o e n hb hx=>?_,I.base.free,fun b o e hx=>?_,I.base.uF,I.base.oH,I.base.sD⟩,⟨m,hn.sameBut hs (Ne.symm (cne x c hc)),fun j y v' e1 e2 e3=>?_⟩,fun y c' e=>?_,I.free,I.iC,fun p hp=>?_,sg ⟨oc,hoc,I.iC x c hc⟩ hs,by simpa using I.len⟩ ⟨c,hs,.inr hc⟩
  ·exact(hs.2 b (da (cb (bu e) (I.ok.cab x c Dj hc)))).trans (I.base.keep b o e n hb hx)
  ·obtain⟨sl,e1⟩:=I.base.slot b o e n hb hx;exact⟨sl,(hs.2 b (da (cb (bu e) (I.ok.cab x c Dj hc)))).trans e1⟩
  ·obtain⟨o',e1⟩:=I.base.there b o e hx;exact⟨o',(hs.2 b (da (cb (bu e) (I.ok.cab x c Dj hc)))).trans e1⟩
  ·by_cases hj:j=i
   ·subst hj;rw[hi]at e1;cases e1;rw[List.getElem?_set_self hiσ]at e2;cases e2;exact⟨u,r,.inr ⟨.inl hk,c,hc,we⟩⟩
   ·rw[List.getElem?_set_ne (Ne.symm hj)]at e2;obtain⟨u',r',q⟩:=hl j y v' e1 e2 e3;refine⟨u',r',?_⟩;rcases q with q|⟨k,c',e,z'⟩
    ·exact .inl q
    ·refine .inr ⟨k,c',e,z'.sameBut hs ?_⟩;rintro rfl;exact hj (tF hN e1 (I.ok.inj _ _ _ e hc▸hi))
  ·by_cases hcc:c'=c
   ·subst hcc;exact⟨_,we⟩
   ·obtain⟨w2,z2⟩:=I.cell y c' e;exact⟨w2,z2.sameBut hs hcc⟩
  ·obtain⟨e,n,ne,nf,d⟩:=I.pin p hp;refine⟨(hs.2 p.1 ?_).trans e,n,ne,nf,d⟩;intro q;rw[q,hoc]at e;have q':oc=p.2:=Option.some.inj e;exact d w' (by rw[<- q'];exact hocd)
theorem sE{M:Model}{A:Around}{E:Value->Shared->Prop}{i:Nat}{x:Str}{v:V}{u:Value}{Q:Unit->Shared->Prop}(I:Inv X jx σ H s)(hN:X.N.Nodup)(hi:X.N[i]? =some x)(hx:Loc X.env.scope x)(r:RelV v u)
  (h:∀s',Inv X jx (σ.set i (some v)) H s'->Q () s') (hf:X.fn x=true\/X.env.scope.names.lookup x=some .local:=by first|exact .inl rfl|exact .inr rfl|assumption):wpAny M A (storeName X.env x u) Q E s:=
 pE I hN hi hx r (fun s' I' _=>h s' I') hf
theorem Inv.DU{s':Shared}{ch:List Addr}(I:Inv X jx σ H s)(ho:s'.os=s.os)(u:Un (frs X.stack) ch H H' s.heap s'.heap)(hok:HOk X.prog X.w H' s'.heap)(hg:AllBare s'.gens)
  (wd:∀b∈ch,(b∈X.ex\/X.s_0.heap.objs.size<=b)/\b≠X.env.locals/\(∀x c,X.env.cells.lookup x=some c->c≠b)/\∀p∈X.pn++jx,p.1≠b):Inv X jx σ H' s':=by
 obtain⟨h',g',d',t',o'⟩:=s';have e:o'=s.os:=ho;subst e;exact I.call (g':=g') (t':=t') (d':=d') u hok hg wd
end
abbrev XK:=Value->Option Addr->Hp->Prop
abbrev St:=List (Option V)
abbrev VK:=V->Hp->Prop
abbrev TE:=St->Hp->VK->Prop
abbrev TT:=St->Hp->(Bool->Hp->Prop)->Prop
abbrev TA:=St->Hp->(List V->Hp->Prop)->Prop
structure Ends where
 nx:St->Hp->Prop
 rt:VK
 bk:St->Hp->Prop:=fun _ _=>False
 ct:St->Hp->Prop:=fun _ _=>False
abbrev TS:=Ends->St->Hp->Prop
noncomputable def EP(X:Cx)(jx:List (Addr×Obj))(σ:St)(Q:VK)(u:Value)(s':Shared):Prop:=∃v H',Inv X jx σ H' s'/\RelV v u/\Q v H'
noncomputable def TP(X:Cx)(jx:List (Addr×Obj))(σ:St)(Q:Bool->Hp->Prop)(b:Bool)(s':Shared):Prop:=∃H',Inv X jx σ H' s'/\Q b H'
noncomputable def AP(X:Cx)(jx:List (Addr×Obj))(σ:St)(Q:List V->Hp->Prop)(us:List Value)(s':Shared):Prop:=∃vs H',Inv X jx σ H' s'/\Vals vs us/\Q vs H'
noncomputable def SP(X:Cx)(jx:List (Addr×Obj))(D:Ends)(f:Flow)(s':Shared):Prop:=
 match f with
 | .next=>∃σ' H',Inv X jx σ' H' s'/\D.nx σ' H'
 | .brk=>∃σ' H',Inv X jx σ' H' s'/\D.bk σ' H'
 | .cont=>∃σ' H',Inv X jx σ' H' s'/\D.ct σ' H'
 | .ret u=>∃v σ' H',Inv X jx σ' H' s'/\RelV v u/\D.rt v H'
noncomputable def PE(X:Cx)(e:Expr)(t:TE):Prop:=
 ∀(jx:List (Addr×Obj))(s:Shared)(σ:St)(H:Hp)(Q:VK),Inv X jx σ H s->t σ H Q->wpAny (model X.prog X.w) X.A (eval e X.env) (EP X jx σ Q) X.xe s
noncomputable def PT(X:Cx)(e:Expr)(t:TT):Prop:=
 ∀(jx:List (Addr×Obj))(s:Shared)(σ:St)(H:Hp)(Q:Bool->Hp->Prop),Inv X jx σ H s->t σ H Q->wpAny (model X.prog X.w) X.A (isTrue e X.env (eval e X.env)) (TP X jx σ Q) X.xe s
noncomputable def PW(X:Cx)(e:Expr)(t:TT):Prop:=
 ∀(ny:Sem Value)(jx:List (Addr×Obj))(s:Shared)(σ:St)(H:Hp)(Q:Bool->Hp->Prop),Inv X jx σ H s->t σ H Q->wpAny (model X.prog X.w) X.A (isTrue e X.env ny) (TP X jx σ Q) X.xe s
theorem PW.pt{X:Cx}{e:Expr}{t:TT}(h:PW X e t):PT X e t:=h _
noncomputable def PA(X:Cx)(es:List Expr)(t:TA):Prop:=
 ∀(pos:Pos)(jx:List (Addr×Obj))(s:Shared)(σ:St)(H:Hp)(Q:List V->Hp->Prop),Inv X jx σ H s->t σ H Q->wpAny (model X.prog X.w) X.A (spliced (backTo pos (starEach es X.env))) (AP X jx σ Q) X.xe s
noncomputable def PS(X:Cx)(st:Stmt)(t:TS):Prop:=
 ∀(jx:List (Addr×Obj))(s:Shared)(σ:St)(H:Hp)(D:Ends),Inv X jx σ H s->t D σ H->wpAny (model X.prog X.w) X.A (exec st X.env) (SP X jx D) X.xe s
noncomputable def PSs(X:Cx)(st:List Stmt)(t:TS):Prop:=
 ∀(jx:List (Addr×Obj))(s:Shared)(σ:St)(H:Hp)(D:Ends),Inv X jx σ H s->t D σ H->wpAny (model X.prog X.w) X.A (execs st X.env) (SP X jx D) X.xe s
theorem thn{α:Type}{t:Sem α}{Q Q':α->Shared->Prop}{M:Model}{A:Around}{E:Value->Shared->Prop}{s:Shared}(h:wpAny M A t Q E s)(hQ:∀a s,Q a s->Q' a s):wpAny M A t Q' E s:=wpAny_mono h hQ fun _ _ x=>x
section
variable {X:Cx}
def M0(i:Nat):TE:=fun σ H Q=>∃v,σ[i]? =some (some v)/\Q v H
def tC(v:V):TE:=fun _ H Q=>Q v H
theorem HB{i:Nat}{x:Str}{pos:Pos}(hN:X.N[i]? =some x)(hv:Vis X.env.scope x)(hd:(x==("__debug__" : Str))=false:=by decide)(pf:(x==("__classdict__" : Str))=false:=by decide):PE X (.Name x pos) (M0 i):=by
 intro jx s σ H Q I h;obtain⟨v,e,h⟩:=h;obtain⟨m,hn,hl⟩:=I.loc;obtain⟨u,r,l⟩:=hl i x v hN e hv;have fin:EP X jx σ Q u s:=⟨v,H,I,r,h⟩;rcases l with⟨hk,hm⟩|⟨hk,c,hc,pz⟩
 ·exact wpAny_Name (wpAny_loadName_local I.ok.kind hk hn hm fin) hd
 ·rcases hk with hk|hk
  ·exact wpAny_Name (wpAny_loadName_cell I.ok.kind hk hc pz fin) hd
  ·exact wpAny_Name (wpAny_loadName_free I.ok.kind hk hc pz fin pf) hd
theorem aL{i j pos}:PE X (.Constant (.int i) j pos) (tC (.int i)):=fun _ _ _ H _ I h=>wpAny_Constant_int ⟨.int i,H,I.tok _,⟨_,rfl⟩,h⟩
theorem iX{b j pos}:PE X (.Constant (.bool b) j pos) (tC (.bl b)):=fun _ _ _ H _ I h=>Constant_bool ⟨.bl b,H,I,rfl,h⟩
theorem HG{j pos}:PE X (.Constant .none j pos) (tC .non):=fun _ _ _ H _ I h=>Constant_none ⟨.non,H,I,rfl,h⟩
def Gl(X:Cx)(x:Str):Prop:=X.env.kindOf x=some .globalImplicit
theorem jH{E:Value->Shared->Prop}{jx:List (Addr×Obj)}{s:Shared}{σ:St}{H:Hp}{x:Str}{u:Value}{pos:Pos}{Q:Value->Shared->Prop}(I:Inv X jx σ H s)(hg:Gl X x)(hm:X.mg x=some u)(h:Q u s)
  (hd:(x==("__debug__" : Str))=false:=by decide):wpAny (model X.prog X.w) X.A (eval (.Name x pos) X.env) Q E s:=
 Calls.Name_function_global I.ok.kind hg (Calls.loadGlobal_global (by rw[I.ok.glob];exact I.mod.glob.keeps I.bk) hm h) hd
theorem pR{E:Value->Shared->Prop}{jx:List (Addr×Obj)}{s:Shared}{σ:St}{H:Hp}{x:Str}{u:Value}{pos:Pos}{Q:Value->Shared->Prop}(I:Inv X jx σ H s)(hg:Gl X x)(hm:X.mg x=none)(hv:bootBuiltins x=some u)(h:Q u s)
  (hn:x≠ "__name__" :=by decide) (hd:(x==("__debug__" : Str))=false:=by decide):wpAny (model X.prog X.w) X.A (eval (.Name x pos) X.env) Q E s:=by
 obtain⟨mb,h1,h2⟩:=I.mod.blt;exact Calls.Name_function_global I.ok.kind hg (Calls.loadGlobal_builtin (by rw[I.ok.glob];exact I.mod.glob.keeps I.bk) hm (by rw[I.ok.blt];exact h1.keeps I.bk) ((h2 x hn).trans hv) h) hd
theorem CV{x:Str}{v:V}{u:Value}{pos:Pos}(hg:Gl X x)(hm:X.mg x=some u)(r:RelV v u)(hd:(x==("__debug__" : Str))=false:=by decide):PE X (.Name x pos) (tC v):=
 fun _ _ _ H _ I h=>jH I hg hm ⟨v,H,I,r,h⟩ hd
variable {a b:Expr}{ta tb:TE}{pos:Pos}
noncomputable def PC(X:Cx)(op:CmpOp)(a b:Expr)(t:TE):Prop:=
 ∀(jx:List (Addr×Obj))(s:Shared)(σ:St)(H:Hp)(Q:VK),Inv X jx σ H s->t σ H Q ->
  wpAny (model X.prog X.w) X.A (eval a X.env) (fun v s₁=>wpAny (model X.prog X.w) X.A (eval b X.env) (fun u s₂=>wpAny (model X.prog X.w) X.A (compareOp op v u) (EP X jx σ Q) X.xe s₂) X.xe s₁) X.xe s
theorem HZ(b:Expr){op:CmpOp}(h:op≠ .In)(h2:op≠ .NotIn):behindInMarks op b=false:=by
 have e1:(op==CmpOp.In)=false:=by cases op<;>first|rfl|exact absurd rfl h
 have e2:(op==CmpOp.NotIn)=false:=by cases op<;>first|rfl|exact absurd rfl h2
 cases b<;>simp[behindInMarks,e1,e2]
def T7(ta:TE):TE:=fun σ H Q=>ta σ H fun x H1=>Q (.bl (decide (x=.non))) H1
theorem RelV.HW{x:V}{v:Value}(r:RelV x v):(v==Value.none)=decide (x=.non):=by
 cases x with
 |non=>cases r;rfl
 |bl _=>cases r;rfl
 |int _=>obtain⟨t,rfl⟩:=r;rfl
 |str _=>obtain⟨t,rfl⟩:=r;rfl
 |byt _=>obtain⟨t,rfl⟩:=r;rfl
 |flt _=>obtain⟨t,rfl⟩:=r;rfl
 |ref _=>cases r;rfl
 |ty _=>cases r;rfl
theorem MI{j lj}(ha:PE X a ta):PC X .Is a (.Constant .none j lj) (T7 ta):=by
 intro jx s σ H Q I h;refine thn (ha jx s σ H _ I h) fun v s1 ⟨x,H1,I1,r1,q1⟩=>?_
 exact Constant_none (is_none_gen ⟨.bl _,H1,I1,by rw[r1.HW];rfl,q1⟩)
def tB(t:TE):TT:=fun σ H Q=>t σ H fun x H1=>∃c,x=.bl c/\Q c H1
theorem eS{op:CmpOp}{t:TE}(h:PC X op a b t)(h1:behindInMarks op b=false:=by first|exact HZ _ (by decide) (by decide)|rfl):PT X (.Compare a [op] [b] pos) (tB t):=by intro jx s σ H Q I hw;refine wpAny_isTrue_Compare1 (thn (h jx s σ H _ I hw) fun v s1 h1=>thn h1 fun u s2 h2=>thn h2 fun c s3 ⟨x,H1,I1,r1,q1⟩=>?_) h1;obtain⟨d,rfl,q⟩:=q1;cases r1;exact wpAny_truthy_bool ⟨H1,I1,q⟩
theorem jB{e:Expr}{t:TE}(h:PE X e t)(he:∀ny,isTrue e X.env ny=(do let v<- ny;standAt e.pos;holding [v] (truthy v)):=by intro _;rfl):PT X e (tB t):=by intro jx s σ H Q I hw;refine isTrue_plain (thn (h jx s σ H _ I hw) fun v s1 ⟨x,H1,I1,r1,q1⟩=>?_) (he _);obtain⟨d,rfl,q⟩:=q1;cases r1;exact wpAny_truthy_bool ⟨H1,I1,q⟩
variable {tA tB':TT}{rest:List Expr}
noncomputable def TJ(t u:TT):TT:=fun σ H Q=>t σ H fun c H1=>if c=true then u σ H1 Q else Q false H1
noncomputable def tOr(t u:TT):TT:=fun σ H Q=>t σ H fun c H1=>if c=true then Q true H1 else u σ H1 Q
def T5(t:TT):TT:=fun σ H Q=>t σ H fun c H1=>Q (!c) H1
theorem nH(ha:PT X a tA):PW X (.BoolOp .And [a] pos) tA:=by
 intro wh jx s σ H Q I h;refine isTrue_and (thn (ha jx s σ H Q I h) fun c s1 e=>?_);cases c with
 |true=>exact isTrue_and_nil e
 |false=>exact e
theorem sU(ha:PT X a tA):PW X (.BoolOp .Or [a] pos) tA:=by
 intro wh jx s σ H Q I h;refine isTrue_or (thn (ha jx s σ H Q I h) fun c s1 e=>?_);cases c with
 |false=>exact isTrue_or_nil e
 |true=>exact e
theorem pJ(ha:PT X a tA)(hb:PW X (.BoolOp .And (b::rest) pos) tB'):PW X (.BoolOp .And (a::b::rest) pos) (TJ tA tB'):=by
 intro wh jx s σ H Q I h;refine isTrue_and (thn (ha jx s σ H _ I h) fun c s1 ⟨H1,I1,q1⟩=>?_);cases c with
 |true=>exact hb wh jx s1 σ H1 Q I1 q1
 |false=>exact⟨H1,I1,q1⟩
theorem yE(ha:PT X a tA)(hb:PW X (.BoolOp .Or (b::rest) pos) tB'):PW X (.BoolOp .Or (a::b::rest) pos) (tOr tA tB'):=by
 intro wh jx s σ H Q I h;refine isTrue_or (thn (ha jx s σ H _ I h) fun c s1 ⟨H1,I1,q1⟩=>?_);cases c with
 |true=>exact⟨H1,I1,q1⟩
 |false=>exact hb wh jx s1 σ H1 Q I1 q1
theorem ME(ha:PT X a tA):PT X (.UnaryOp .Not a pos) (T5 tA):=by intro jx s σ H Q I h;exact isTrue_not (ha jx s σ H (fun c H1=>Q (!c) H1) I h)
def NV(ta:TE):TE:=fun σ H Q=>ta σ H fun x H1=>∃c,x=.bl c/\Q (.bl (!c)) H1
theorem MF(ha:PE X a ta):PE X (.UnaryOp .Not a pos) (NV ta):=by intro jx s σ H Q I h;refine UnaryOp_ (thn (ha jx s σ H _ I h) fun v s1 ⟨x,H1,I1,r1,q1⟩=>?_);obtain⟨c,rfl,q1⟩:=q1;cases r1;exact not_of (wpAny_truthy_bool ⟨.bl (!c),H1,I1,rfl,q1⟩)
end
noncomputable def SqL(K:W.Frag)(H:Hp)(a:Addr)(xs:List V):Prop:=
 Rd H a (.lst xs)\/
  ∃(o:Obj)(its:Array Value)(n:Nat),K.lookup a=some o/\o.cls=.type "list" /\o.dict=none/\o.data=.seq its n/\its.size<=sizeLine/\Vals xs its.toList
noncomputable def SqT(K:W.Frag)(H:Hp)(a:Addr)(xs:List V):Prop:=
 Rd H a (.tup xs)\/
  ∃(o:Obj)(its:Array Value)(n:Nat),K.lookup a=some o/\o.cls=.type "tuple" /\o.data=.seq its n/\its.size<=sizeLine/\Vals xs its.toList
noncomputable def XE:Value->Option V
 | .none=>some .non
 | .bool b=>some (.bl b)
 | .int i _=>some (.int i)
 | .str x _=>some (.str x)
 | .bytes b _=>some (.byt b)
 | .float b _=>some (.flt b)
 | .ref a=>some (.ref a)
 | .type n=>some (.ty n)
 |_=>none
theorem RelV.abs{x:V}{u:Value}(r:RelV x u):XE u=some x:=by
 cases x with
 |non=>cases r;rfl
 |bl _=>cases r;rfl
 |int _=>obtain⟨t,rfl⟩:=r;rfl
 |str _=>obtain⟨t,rfl⟩:=r;rfl
 |byt _=>obtain⟨t,rfl⟩:=r;rfl
 |flt _=>obtain⟨t,rfl⟩:=r;rfl
 |ref _=>cases r;rfl
 |ty _=>cases r;rfl
theorem RelV.inj{x y:V}{u:Value}(r:RelV x u)(q:RelV y u):x=y:=Option.some.inj (r.abs.symm.trans q.abs)
theorem Vals.inj:∀{xs ys:List V}{us:List Value},Vals xs us->Vals ys us->xs=ys
 |_,_,_,.nil,.nil=>rfl
 |_,_,_,.cons r t,.cons r' t'=>by rw[r.inj r',Vals.inj t t']
section
variable {X:Cx}{jx:List (Addr×Obj)}{σ:St}{H:Hp}{s:Shared}{a:Addr}{xs ys:List V}
theorem SqL.of{K:W.Frag}(h:H a=some (.lst xs)):SqL K H a xs:=.inl (.inl h)
theorem SqT.of{K:W.Frag}(h:H a=some (.tup xs)):SqT K H a xs:=.inl (.inl h)
theorem Inv.list(I:Inv X jx σ H s)(h:SqL X.K H a xs):∃its:List Value,Vals xs its/\PlainL s.heap a its.toArray/\xs.length<=sizeLine:=by
 rcases h with h|⟨o,its,n,hk,hc,hd,hs,hz,r⟩
 ·obtain⟨z,its,n,r,e⟩:=h.ok I.hok;exact⟨its,r,⟨_,n,e,rfl,rfl,rfl⟩,z⟩
 ·refine⟨its.toList,r,⟨o,n,I.kIn a o hk,hc,hd,by simpa using hs⟩,?_⟩;have e:=r.length;simp only[dq]at e;omega
theorem Inv.tuple(I:Inv X jx σ H s)(h:SqT X.K H a xs):∃its:List Value,Vals xs its/\IsTup s.heap a its.toArray/\xs.length<=sizeLine:=by
 rcases h with h|⟨o,its,n,hk,hc,hs,hz,r⟩
 ·obtain⟨z,its,r,p⟩:=h.ok I.hok;exact⟨its,r,p,z⟩
 ·refine⟨its.toList,r,⟨o,I.kIn a o hk,hc,n,by simpa using hs⟩,?_⟩;have e:=r.length;simp only[dq]at e;omega
theorem Inv.yS(I:Inv X jx σ H s)(h:SqL X.K H a xs)(h':SqL X.K H a ys):xs=ys:=by
 obtain⟨its,r,⟨o,n,e,_,_,d⟩,_⟩:=I.list h;obtain⟨its',r',⟨o',n',e',_,_,d'⟩,_⟩:=I.list h';rw[e]at e';cases e';rw[d]at d';injection d' with d1 _
 have:its=its':=by simpa using congrArg Array.toList d1
 subst this;exact r.inj r'
theorem Inv.EE(I:Inv X jx σ H s)(h:SqT X.K H a xs)(h':SqT X.K H a ys):xs=ys:=by
 obtain⟨its,r,⟨o,e,_,n,d⟩,_⟩:=I.tuple h;obtain⟨its',r',⟨o',e',_,n',d'⟩,_⟩:=I.tuple h';rw[e]at e';cases e';rw[d]at d';injection d' with d1 _
 have:its=its':=by simpa using congrArg Array.toList d1
 subst this;exact r.inj r'
end
abbrev Cx.rF(X:Cx)(E:Value->Shared->Prop):Cx:={X with xe:=E}
abbrev Cx.nox(X:Cx):Cx:=X.rF fun _ _=>False
theorem Cx.Ok.rF{X:Cx}(ok:X.Ok)(E:Value->Shared->Prop):(X.rF E).Ok:=
 ⟨ok.mod,ok.kind,ok.glob,ok.blt,ok.above,ok.inj,ok.has,ok.cab,ok.hd,ok.frames,ok.stk,ok.exf,ok.bs,ok.bsz,ok.HX,ok.C0,ok.kO,ok.frf⟩
theorem Cx.Ok.kA{X:Cx}{E:Value->Shared->Prop}(ok:(X.rF E).Ok):X.Ok:=
 ⟨ok.mod,ok.kind,ok.glob,ok.blt,ok.above,ok.inj,ok.has,ok.cab,ok.hd,ok.frames,ok.stk,ok.exf,ok.bs,ok.bsz,ok.HX,ok.C0,ok.kO,ok.frf⟩
section
variable {X:Cx}{jx:List (Addr×Obj)}{σ:St}{H:Hp}{s:Shared}{E:Value->Shared->Prop}
theorem Inv.rF(I:Inv X jx σ H s)(E:Value->Shared->Prop):Inv (X.rF E) jx σ H s:=⟨I.ok.rF E,I.os,I.bare,I.base,I.loc,I.cell,I.free,I.iC,I.pin,I.hok,I.len⟩
theorem Inv.kA(I:Inv (X.rF E) jx σ H s):Inv X jx σ H s:=⟨I.ok.kA,I.os,I.bare,I.base,I.loc,I.cell,I.free,I.iC,I.pin,I.hok,I.len⟩
theorem SP.kA{D:Ends}{f:Flow}{s':Shared}(h:SP (X.rF E) jx D f s'):SP X jx D f s':=by
 cases f with
 |next=>obtain⟨σ',H',I,q⟩:=h;exact⟨σ',H',I.kA,q⟩
 |brk=>obtain⟨σ',H',I,q⟩:=h;exact⟨σ',H',I.kA,q⟩
 |cont=>obtain⟨σ',H',I,q⟩:=h;exact⟨σ',H',I.kA,q⟩
 |ret u=>obtain⟨v,σ',H',I,r,q⟩:=h;exact⟨v,σ',H',I.kA,r,q⟩
theorem PSs.nox{st:List Stmt}{t:TS}(h:PSs X.nox st t):PSs X st t:=fun jx s σ H D I hw=>
 wpAny_mono (h jx s σ H D (I.rF _) hw) (fun _ _ q=>q.kA) fun _ _ z=>False.elim z
end
section
variable {X:Cx}{st:Stmt}{rest:List Stmt}{t u:TS}{e:Expr}{te:TE}{pos:Pos}
def NW:TS:=fun D σ H=>D.nx σ H
def AK(t u:TS):TS:=fun D σ H=>t {D with nx:=u D} σ H
theorem bH:PSs X [] NW:=fun _ _ σ H _ I h=>wpAny_execs_nil ⟨σ,H,I,h⟩
theorem aA(h1:PS X st t)(h2:PSs X rest u):PSs X (st::rest) (AK t u):=by
 intro jx s σ H D I h;refine wpAny_execs_cons (thn (h1 jx s σ H {D with nx:=u D} I h) fun f s1 q=>?_);cases f with
 |next=>obtain⟨σ',H',I',q⟩:=q;exact h2 jx s1 σ' H' D I' q
 |ret v=>exact q
 |brk=>exact q
 |cont=>exact q
theorem aE(h1:PS X st t):PSs X [st] t:=by
 intro jx s σ H D I h;refine wpAny_execs_cons (thn (h1 jx s σ H D I h) fun f s1 q=>?_);cases f with
 |next=>exact wpAny_execs_nil q
 |ret v=>exact q
 |brk=>exact q
 |cont=>exact q
theorem Inv.quiet{jx:List (Addr×Obj)}{σ:St}{H:Hp}{s:Shared}(I:Inv X jx σ H s):interactive X.env=false:=by simp[interactive,I.ok.kind]
def O0(te:TE):TS:=fun D σ H=>te σ H fun _ H1=>D.nx σ H1
theorem cZ(he:PE X e te)(hs:swapsWith e none pos.line X.env=pure false:=by rfl):PS X (.Expr e pos) (O0 te):=by intro jx s σ H D I h;exact wpAny_Expr_any (thn (he jx s σ H _ I h) fun v s1 ⟨x,H1,I1,r1,q1⟩=>⟨σ,H1,I1,q1⟩) I.quiet hs
def T1(te:TE):TS:=fun D σ H=>te σ H D.rt
theorem aR(he:PE X e te):PS X (.Return (some e) pos) (T1 te):=by intro jx s σ H D I h;exact wpAny_Return_some (thn (he jx s σ H _ I h) fun v s1 ⟨x,H1,I1,r1,q1⟩=>⟨x,σ,H1,I1,r1,q1⟩)
noncomputable def T8(c:TT)(t u:TS):TS:=fun D σ H=>c σ H fun b H1=>if b=true then t D σ H1 else u D σ H1
theorem cI{c:Expr}{a b:List Stmt}{tc:TT}(hc:PT X c tc)(ha:PSs X a t)(hb:PSs X b u):PS X (.If c a b pos) (T8 tc t u):=by
 intro jx s σ H D I h;refine wpAny_If (thn (hc jx s σ H _ I h) fun d s1 ⟨H1,I1,q1⟩=>?_);cases d with
 |true=>exact ha jx s1 σ H1 D I1 q1
 |false=>exact hb jx s1 σ H1 D I1 q1
end
abbrev TG:=V->St->Hp->(St->Hp->Prop)->Prop
abbrev TGs:=List V->St->Hp->(St->Hp->Prop)->Prop
noncomputable def PG(X:Cx)(nh:Expr)(t:TG):Prop:=
 ∀(jx:List (Addr×Obj))(s:Shared)(σ:St)(H:Hp)(v:V)(u:Value)(Q:St->Hp->Prop),Inv X jx σ H s->RelV v u->t v σ H Q ->
  wpAny (model X.prog X.w) X.A (assign nh X.env u) (fun _ s'=>∃σ' H',Inv X jx σ' H' s'/\Q σ' H') X.xe s
noncomputable def PGs(X:Cx)(ts:List Expr)(t:TGs):Prop:=
 ∀(jx:List (Addr×Obj))(s:Shared)(σ:St)(H:Hp)(vs:List V)(us:List Value)(Q:St->Hp->Prop),Inv X jx σ H s->Vals vs us->t vs σ H Q ->
  wpAny (model X.prog X.w) X.A (assignInOrder ((assignEach ts X.env).map (·.2)) us) (fun _ s'=>∃σ' H',Inv X jx σ' H' s'/\Q σ' H') X.xe s
abbrev NM:=V->V->V->Hp->(Hp->Prop)->Prop
noncomputable def SS(X:Cx)(t:NM):Prop:=
 ∀(jx:List (Addr×Obj))(s:Shared)(σ:St)(H:Hp)(o i v:V)(ov iv u:Value)(Q:Hp->Prop),Inv X jx σ H s->RelV o ov->RelV i iv->RelV v u->t o i v H Q ->
  wpAny (model X.prog X.w) X.A (setItem ov iv u) (fun _ s'=>∃H',Inv X jx σ H' s'/\Q H') X.xe s
abbrev TIp:=V->V->Hp->VK->Prop
noncomputable def PIp(X:Cx)(op:Operator)(t:TIp):Prop:=
 ∀(jx:List (Addr×Obj))(s:Shared)(σ:St)(H:Hp)(x y:V)(v u:Value)(Q:VK),Inv X jx σ H s->RelV x v->RelV y u->t x y H Q ->
  wpAny (model X.prog X.w) X.A (inplaceOp op v u) (EP X jx σ Q) X.xe s
section
variable {X:Cx}{pos:Pos}
def iB(i:Nat):TG:=fun v σ H Q=>Q (σ.set i (some v)) H
theorem K0{i:Nat}{x:Str}(hN:X.N.Nodup)(hi:X.N[i]? =some x)(hx:Loc X.env.scope x)(hf:X.fn x=true\/X.env.scope.names.lookup x=some .local:=by first|exact .inl rfl|exact .inr rfl|assumption):PG X (.Name x pos) (iB i):=by intro jx s σ H v u Q I r h;exact wpAny_assign_Name (sE I hN hi hx r (fun s' I'=>⟨_,H,I',h⟩) hf)
def XB:TGs:=fun vs σ H Q=>vs=[]/\Q σ H
noncomputable def SI(t:TG)(u:TGs):TGs:=fun vs σ H Q=>∃v r,vs=v::r/\t v σ H fun σ' H'=>u r σ' H' Q
theorem hO:PGs X [] XB:=by intro jx s σ H vs us Q I r h;obtain⟨e,h⟩:=h;subst e;cases r;exact assignInOrder_nil ⟨σ,H,I,h⟩
theorem bW{e:Expr}{es:List Expr}{t:TG}{u:TGs}(h1:PG X e t)(h2:PGs X es u)
  (hs:(assignEach (e::es) X.env).map (·.2)=assign e X.env::(assignEach es X.env).map (·.2):=by rfl):PGs X (e::es) (SI t u):=by
 intro jx s σ H vs us Q I r h;obtain⟨v,vr,e1,h⟩:=h;subst e1;cases r with
 |cons r rr=>rw[hs];refine assignInOrder_cons (thn (h1 jx s σ H _ _ _ I r h) fun _ s1 ⟨σ1,H1,I1,q1⟩=>?_);exact h2 jx s1 σ1 H1 _ _ Q I1 rr q1
noncomputable def X9(K:W.Frag)(n:Nat)(t:TGs):TG:=fun v σ H Q=>∃a xs,v=.ref a/\SqT K H a xs/\xs.length=n/\t xs σ H Q
theorem kG{es:List Expr}{k:Nat}{t:TGs}{n:Nat}(hc:X.calm=true)(h:PGs X es t)
  (hn:(assignEach es X.env).length=n:=by rfl) (xa:(assignEach es X.env).findIdx? (·.1)=none:=by rfl):PG X (.Tuple es k pos) (X9 X.K n t):=by
 intro jx s σ H v u Q I r hw;obtain⟨a,xs,e1,hq,hl,hw⟩:=hw;subst e1;cases r;obtain⟨its,rv,ht,hz⟩:=I.tuple hq;refine assign_Tuple_tuple (I.ok.hd hc) ht (by simp[hn,<- hl,rv.length]) xa fun h' hx=>?_
 have I1:Inv X jx σ H {s with heap:=h'}:=I.kept (t':=s.toks) fun b o e=>hx b o (da (bu e)) e
 exact h jx _ σ H xs _ Q I1 (by simpa using rv) hw
def AL(te:TE)(g:TG):TS:=fun D σ H=>te σ H fun x H1=>g x σ H1 D.nx
theorem AW{tg e:Expr}{te:TE}{g:TG}(he:PE X e te)(hg:PG X tg g)(hs:swapsWithSole [tg] e pos.line X.env=pure false:=by rfl)(hw:swappedStores [tg] e X.env=pure none:=by rfl)
  (h1:(assignEach [tg] X.env).map (·.2)=[assign tg X.env]:=by rfl):PS X (.Assign [tg] e pos) (AL te g):=by
 intro jx s σ H D I h;refine wpAny_Assign_stores (thn (he jx s σ H _ I h) fun v s1 ⟨x,H1,I1,r1,q1⟩=>?_) hs hw;rw[h1];exact thn (hg jx s1 σ H1 x v _ I1 r1 q1) fun _ s2 q=>q
theorem GY{i:Nat}{x:Str}{e:Expr}{te:TE}{lj:Pos}(hN:X.N.Nodup)(hi:X.N[i]? =some x)(hx:Loc X.env.scope x)(he:PE X e te)(hs:swapsWith e (some (.Name x lj)) pos.line X.env=pure false:=by rfl)(hf:X.fn x=true\/X.env.scope.names.lookup x=some .local:=by first|exact .inl rfl|exact .inr rfl|assumption):
  PS X (.Assign [.Name x lj] e pos) (AL te (iB i)):=by
 intro jx s σ H D I h;refine wpAny_Assign_Name (thn (he jx s σ H _ I h) fun v s1 ⟨y,H1,I1,r1,q1⟩=>?_) hs;exact sE I1 hN hi hx r1 (fun s2 I2=>⟨_,H1,I2,q1⟩) hf
noncomputable def TF(i:Nat)(te:TE)(ti:TIp):TS:=fun D σ H=>∃x,σ[i]? =some (some x)/\te σ H fun y H1=>ti x y H1 fun z H2=>D.nx (σ.set i (some z)) H2
theorem GZ{i:Nat}{x:Str}{e:Expr}{te:TE}{op:Operator}{ti:TIp}{lj:Pos}(hN:X.N.Nodup)(hi:X.N[i]? =some x)(hx:Loc X.env.scope x)(he:PE X e te)(ho:PIp X op ti)(hf:X.fn x=true\/X.env.scope.names.lookup x=some .local:=by first|exact .inl rfl|exact .inr rfl|assumption):
  PS X (.AugAssign (.Name x lj) op e pos) (TF i te ti):=by
 intro jx s σ H D I h;obtain⟨v,e1,h⟩:=h;obtain⟨m,hn,hl⟩:=I.loc;have vis:Vis X.env.scope x:=by rcases hx with k|k;exact .inl k;exact .inr (.inl k)
 obtain⟨u,r,l⟩:=hl i x v hi e1 vis;refine wpAny_AugAssign_Name ?_;have go:wpAny (model X.prog X.w) X.A (eval e X.env) (fun w s₂=>wpAny (model X.prog X.w) X.A (inplaceOp op u w) (fun r s₃=>wpAny (model X.prog X.w) X.A (storeName X.env x r) (fun _=>SP X jx D .next) X.xe s₃) X.xe s₂) X.xe s:=by
  refine thn (he jx s σ H _ I h) fun w s1 ⟨y,H1,I1,r1,q1⟩=>?_
  refine thn (ho jx s1 σ H1 v y u w _ I1 r r1 q1) fun z s2 ⟨zv,H2,I2,r2,q2⟩=>?_
  exact sE I2 hN hi hx r2 (fun s3 I3=>⟨_,H2,I3,q2⟩) hf
 rcases l with⟨hk,hm⟩|⟨hk,c,hc,pz⟩
 ·exact wpAny_loadName_local I.ok.kind hk hn hm go
 ·rcases hk with hk|hk
  ·exact wpAny_loadName_cell I.ok.kind hk hc pz go
  ·rcases hx with k|k
   ·have:X.env.scope.names.lookup x=some .free:=hk;rw[k]at this;cases this
   ·have:X.env.scope.names.lookup x=some .free:=hk;rw[k]at this;cases this
noncomputable def O3(to ti te:TE)(wj:V->V->Hp->VK->Prop)(tip:TIp)(wg:NM):TS:=fun D σ H=>to σ H fun o H1=>ti σ H1 fun i H2=>wj o i H2 fun x H3=>te σ H3 fun y H4=>tip x y H4 fun z H5=>wg o i z H5 fun H6=>D.nx σ H6
noncomputable def SU(X:Cx)(t:V->V->Hp->VK->Prop):Prop:=
 ∀(jx:List (Addr×Obj))(s:Shared)(σ:St)(H:Hp)(o i:V)(ov iv:Value)(Q:VK),Inv X jx σ H s->RelV o ov->RelV i iv->t o i H Q ->
  wpAny (model X.prog X.w) X.A (getItem ov iv) (EP X jx σ Q) X.xe s
theorem JX{o i e:Expr}{to ti te:TE}{wj:V->V->Hp->VK->Prop}{tip:TIp}{wg:NM}{op:Operator}{nu:Pos}(ho:PE X o to)(hi:PE X i ti)(hg:SU X wj)(he:PE X e te)(hp:PIp X op tip)(hs:SS X wg)
  (ha:∀ov iv new,augStore i ov iv new=(do holding [new,ov,iv] (setItem ov iv new);release [new,ov,iv] [];pure .next):=by intros;rfl):PS X (.AugAssign (.Subscript o i nu) op e pos) (O3 to ti te wj tip wg):=by
 intro jx s σ H D I h;refine wpAny_AugAssign_SubscriptAny (thn (ho jx s σ H _ I h) fun ov s1 ⟨x1,H1,I1,r1,q1⟩=>?_) ha;refine thn (hi jx s1 σ H1 _ I1 q1) fun iv s2 ⟨x2,H2,I2,r2,q2⟩=>?_
 refine thn (hg jx s2 σ H2 x1 x2 ov iv _ I2 r1 r2 q2) fun old s3 ⟨x3,H3,I3,r3,q3⟩=>?_
 refine thn (he jx s3 σ H3 _ I3 q3) fun v s4 ⟨x4,H4,I4,r4,q4⟩=>?_
 refine thn (hp jx s4 σ H4 x3 x4 old v _ I4 r3 r4 q4) fun new s5 ⟨x5,H5,I5,r5,q5⟩=>?_
 exact thn (hs jx s5 σ H5 x1 x2 x5 ov iv new _ I5 r1 r2 r5 q5) fun _ s6 ⟨H6,I6,q6⟩=>⟨σ,H6,I6,q6⟩
noncomputable def ipI(f:Int->Int->Int):TIp:=fun x y H Q=>∃i j,x=.int i/\y=.int j/\Q (.int (f i j)) H
theorem BN:PIp X .Add (ipI fun i j=>i+j):=by intro jx s σ H x y v u Q I r1 r2 h;obtain⟨i,j,e1,e2,q⟩:=h;subst e1;subst e2;obtain⟨t,rfl⟩:=r1;obtain⟨t',rfl⟩:=r2;exact iadd_int ⟨.int _,H,I.tok _,⟨_,rfl⟩,q⟩
end
section
variable {X:Cx}{pos:Pos}
noncomputable def GI(c:TT)(tb:TS):TS:=fun D σ H=>∃W:Nat->St->Hp->Prop,(∃m,W m σ H)/\∀m σ H,W m σ H ->
 c σ H fun b H1=>if b=true then∃N:St->Hp->Prop,(∀σ' H',N σ' H'->∃m',m'<m/\W m' σ' H')/\tb {D with nx:=N,ct:=N,bk:=D.nx} σ H1 else D.nx σ H1
theorem iV{c:Expr}{body:List Stmt}{tc:TT}{tb:TS}(hp:PassesOwn (model X.prog X.w) X.A X.env X.xe)(hc:PT X c tc)(hb:PSs X body tb):PS X (.While c body [] pos) (GI tc tb):=by
 intro jx s σ H D I h;obtain⟨W,⟨m0,w0⟩,lh⟩:=h;refine wpAny_While (codeAny_whileLoop (fun n s'=>∃σ' H',Inv X jx σ' H' s'/\W n σ' H') ?_ m0 ⟨σ,H,I,w0⟩);rintro n s1 ⟨σ1,H1,I1,w1⟩;refine wpAny_passesOwn hp (thn (hc jx s1 σ1 H1 _ I1 (lh n σ1 H1 w1)) fun b s2 ⟨H2,I2,q2⟩=>?_);cases b with
 |true=>
  obtain⟨N,hN,q2⟩:=q2;rw[ah rfl];refine wpAny_passesOwn hp (thn (hb jx s2 σ1 H2 _ I2 q2) fun f s3 q3=>?_);cases f with
  |next=>obtain⟨σ3,H3,I3,n3⟩:=q3;obtain⟨m',hm,w3⟩:=hN σ3 H3 n3;exact⟨m',hm,σ3,H3,I3,w3⟩
  |cont=>obtain⟨σ3,H3,I3,n3⟩:=q3;obtain⟨m',hm,w3⟩:=hN σ3 H3 n3;exact⟨m',hm,σ3,H3,I3,w3⟩
  |brk=>exact q3
  |ret v=>exact q3
 |false=>rw[af bp];exact wpAny_execs_nil ⟨σ1,H2,I2,q2⟩
end
structure It where
 go:Nat->Hp->Prop
 yld:Nat->Hp->V->Hp->Prop
 stop:Nat->Hp->Prop
noncomputable def mY(X:Cx)(jx:List (Addr×Obj))(H:Hp)(b:Addr):Prop:=
 H b=none/\b≠X.env.locals/\b∉X.fs/\(b∈X.ex\/X.s_0.heap.objs.size<=b)/\(∀x c,X.env.cells.lookup x=some c->c≠b)/\∀p∈X.pn++jx,p.1≠b
theorem Inv.BX{X:Cx}{jx:List (Addr×Obj)}{σ:St}{H H':Hp}{s:Shared}{b:Addr}(I:Inv X jx σ H s)(hb:s.heap.objs.size<=b)(hn:H' b=none):mY X jx H' b:=by
 refine⟨hn,jo (cb I.lt hb),I.X4 hb,.inr (df I.sz hb),fun x c e z=>?_,fun p hp z=>?_⟩
 ·obtain⟨v,q⟩:=I.cell x c e;exact absurd (cb q.lt (by rw[z];exact hb)) (gz _)
 ·exact absurd (cb (bu (I.pin p hp).1) (by rw[z];exact hb)) (gz _)
structure Turn(P:Program)(w:World)(K:W.Frag)(tg:Expr)(J:It)(fp:List Addr)(it:Addr)(tn:Nat->Heap->Prop):Prop where
 mem:it∈fp
 obj:∀i h,tn i h->∀b∈fp,∃o,h.get? b=some o/\∀v,o.data≠ .cell v
 keep:∀i h h',tn i h->(∀b∈fp,∀o,h.get? b=some o->h'.get? b=some o)->tn i h'
 item:∀(X:Cx),X.prog=P->X.w=w->X.K=K->X.calm=true->∀(i:Nat)(jx:List (Addr×Obj))(s:Shared)(σ:St)(H:Hp)(E:Value->Shared->Prop),Inv X jx σ H s->(∀b∈fp,mY X jx H b)->tn i s.heap->J.go i H ->
  wpAny (model P w) X.A (pyNext (.ref it)) (fun r s1=>∃u,r=some u/\
   wpAny (model P w) X.A (letOwnedTupleGo tg (.ref it) u) (fun _ s2=>∃x H',Inv X jx σ H' s2/\RelV x u/\J.yld i H x H'/\tn (i+1) s2.heap/\∀b∈fp,H' b=none) E s1) E s
 done:∀(X:Cx),X.prog=P->X.w=w->X.K=K->X.calm=true->∀(i:Nat)(jx:List (Addr×Obj))(s:Shared)(σ:St)(H:Hp)(E:Value->Shared->Prop),Inv X jx σ H s->(∀b∈fp,mY X jx H b)->tn i s.heap->J.stop i H ->
  wpAny (model P w) X.A (pyNext (.ref it)) (fun r s1=>r=none/\Inv X jx σ H s1) E s
 self:∀(A:Around)(i:Nat)(s:Shared)(Q:Value->Shared->Prop)(E:Value->Shared->Prop),tn i s.heap->Q (.ref it) s->wpAny (model P w) A (pyIter (.ref it)) Q E s
abbrev TI:=St->Hp->(It->Hp->Prop)->Prop
noncomputable def PIE(X:Cx)(jx:List (Addr×Obj))(σ:St)(tg:Expr)(R:It->Hp->Prop)(itv:Value)(s2:Shared):Prop:=
 ∃(it:Addr)(fp:List Addr)(tn:Nat->Heap->Prop)(J:It)(H':Hp),itv=.ref it/\Inv X jx σ H' s2/\Turn X.prog X.w X.K tg J fp it tn/\tn 0 s2.heap/\(∀b∈fp,mY X jx H' b)/\R J H'
noncomputable def PI(X:Cx)(tg iter:Expr)(wi:TI):Prop:=
 ∀(jx:List (Addr×Obj))(s:Shared)(σ:St)(H:Hp)(R:It->Hp->Prop),Inv X jx σ H s->wi σ H R ->
  wpAny (model X.prog X.w) X.A (eval iter X.env) (fun v s1=>wpAny (model X.prog X.w) X.A (pyIter v) (PIE X jx σ tg R) X.xe s1) X.xe s
theorem zF{M:Model}{A:Around}{E:Value->Shared->Prop}{s:Shared}{tg:Expr}{it:Addr}{u:Value}{o:Obj}{n:String}{vs:Array Value}{Q:Unit->Shared->Prop}(ho:s.heap.get? it=some o)(hc:o.cls=.type n)(hd:o.data=.fields vs)
  (hn:["enumerate","zip","dict_itemiterator","dict_reverseitemiterator","odict_iterator","itertools.zip_longest","itertools.pairwise"].contains n=false) (hQ:Q () s):wpAny M A (letOwnedTupleGo tg (.ref it) u) Q E s:=by
 unfold letOwnedTupleGo;cases tg<;>first
  |exact ai hQ
  |(cases u<;>first
    |exact ai hQ
    |(refine aa (wpAny_load ho ?_);rw[hc,hd];show wpAny M A (if(["enumerate","zip","dict_itemiterator","dict_reverseitemiterator","odict_iterator","itertools.zip_longest","itertools.pairwise"].contains n&& vs[0]? ==some (rawInt _))=true then _ else _) Q E s;rw[af (by intro h;rw[hn,Bool.false_and]at h;cases h)];exact ai hQ))
noncomputable def Itl(K:W.Frag)(a:Addr):It:=
 ⟨fun i H=>∃xs x,SqL K H a xs/\xs[i]? =some x,fun i H x H'=>H'=H/\∀xs,SqL K H a xs->xs[i]? =some x,fun i H=>∃xs,SqL K H a xs/\xs.length<=i⟩
noncomputable def Itt(K:W.Frag)(a:Addr):It:=
 ⟨fun i H=>∃xs x,SqT K H a xs/\xs[i]? =some x,fun i H x H'=>H'=H/\∀xs,SqT K H a xs->xs[i]? =some x,fun i H=>∃xs,SqT K H a xs/\xs.length<=i⟩
noncomputable def Itr(lo:Int)(n:Nat):It:=⟨fun i _=>i<n,fun i H x H'=>H'=H/\x=.int (lo+i),fun i _=>n<=i⟩
theorem EA{P:Program}{w:World}{K:W.Frag}{tg:Expr}(a it:Addr):Turn P w K tg (Itl K a) [it] it (fun i h=>h.IsListIter it a i) where
 mem:=by simp
 obj:=fun i h st b hb=>by
  have e:b=it:=by simpa using hb
  subst e;obtain⟨o,e,c,d⟩:=st;exact⟨o,e,fun v z=>by rw[d]at z;cases z⟩
 keep:=fun i h h' st k=>st.at fun o e=>k it (by simp) o e
 item:=by
  intro X hP hw hK hc i jx s σ H E I hf st hg;subst hP hw hK;obtain⟨xs,x,hq,hx⟩:=hg;obtain⟨its,rv,p,hz⟩:=I.list hq;obtain⟨u,hu,ru⟩:=rv.get hx;obtain⟨f0,f1,f2,f3,f4,f5⟩:=hf it (by simp);refine wpAny_pyNext_list_item st p.isList (x:=u) (by simpa using hu) fun h' qi sb=>?_
  have I1:Inv X jx σ H {s with heap:=h'}:=I.turned (t':=s.toks) (fun b o hb e=>(sb.2 b hb).trans e) f0 f1 f3 f4 f5;obtain⟨o,e,c,d⟩:=id qi;exact⟨u,rfl,zF (s:={s with heap:=h'}) e c d (by decide) ⟨x,H,I1,ru,⟨rfl,fun ys hy=>by rw[I.yS hy hq];exact hx⟩,qi,fun b hb=>(hf b hb).1⟩⟩
 done:=by intro X hP hw hK hc i jx s σ H E I hf st hg;subst hP hw hK;obtain⟨xs,hq,hx⟩:=hg;obtain⟨its,rv,p,hz⟩:=I.list hq;obtain⟨f0,f1,f2,f3,f4,f5⟩:=hf it (by simp);have hl:=rv.length;exact wpAny_pyNext_list_end (I.ok.hd hc) st p.isList (by simp;omega) fun h' eb=>⟨rfl,I.turned (t':=s.toks) (fun b o hb e=>eb b o hb e) f0 f1 f3 f4 f5⟩
 self:=fun _ _ _ _ _ st h=>wpAny_pyIter_listiter st h
theorem AE{P:Program}{w:World}{K:W.Frag}{tg:Expr}(a it:Addr):Turn P w K tg (Itt K a) [it] it (fun i h=>h.IsTupleIter it a i) where
 mem:=by simp
 obj:=fun i h st b hb=>by
  have e:b=it:=by simpa using hb
  subst e;obtain⟨o,e,c,d⟩:=st;exact⟨o,e,fun v z=>by rw[d]at z;cases z⟩
 keep:=fun i h h' st k=>st.at fun o e=>k it (by simp) o e
 item:=by
  intro X hP hw hK hc i jx s σ H E I hf st hg;subst hP hw hK;obtain⟨xs,x,hq,hx⟩:=hg;obtain⟨its,rv,p,hz⟩:=I.tuple hq;obtain⟨u,hu,ru⟩:=rv.get hx;obtain⟨f0,f1,f2,f3,f4,f5⟩:=hf it (by simp);refine wpAny_pyNext_tuple_item st (show s.heap.IsTuple a its.toArray from p) (x:=u) (by simpa using hu) fun h' qi sb=>?_
  have I1:Inv X jx σ H {s with heap:=h'}:=I.turned (t':=s.toks) (fun b o hb e=>(sb.2 b hb).trans e) f0 f1 f3 f4 f5;obtain⟨o,e,c,d⟩:=id qi;exact⟨u,rfl,zF (s:={s with heap:=h'}) e c d (by decide) ⟨x,H,I1,ru,⟨rfl,fun ys hy=>by rw[I.EE hy hq];exact hx⟩,qi,fun b hb=>(hf b hb).1⟩⟩
 done:=by intro X hP hw hK hc i jx s σ H E I hf st hg;subst hP hw hK;obtain⟨xs,hq,hx⟩:=hg;obtain⟨its,rv,p,hz⟩:=I.tuple hq;obtain⟨f0,f1,f2,f3,f4,f5⟩:=hf it (by simp);have hl:=rv.length;exact wpAny_pyNext_tuple_end (I.ok.hd hc) st (show s.heap.IsTuple a its.toArray from p) (by simp;omega) fun h' eb=>⟨rfl,I.turned (t':=s.toks) (fun b o hb e=>eb b o hb e) f0 f1 f3 f4 f5⟩
 self:=fun _ _ _ _ _ st h=>wpAny_pyIter_tupleiter st h
theorem AF{P:Program}{w:World}{K:W.Frag}{tg:Expr}(it:Addr)(lo:Int)(n:Nat):Turn P w K tg (Itr lo n) [it] it (fun i h=>IsRangeIter h it (lo+(i:Nat)*1) ((n:Int) - (i:Nat)) 1) where
 mem:=by simp
 obj:=fun i h st b hb=>by
  have e:b=it:=by simpa using hb
  subst e;exact⟨_,st,fun v z=>by
   have z':Data.fields _=Data.cell v:=z;cases z'⟩
 keep:=fun i h h' st k=>k it (by simp) _ st
 item:=by
  intro X hP hw hK hc i jx s σ H E I hf st hg;subst hP hw hK;obtain⟨f0,f1,f2,f3,f4,f5⟩:=hf it (by simp);have W:=Walks.range (prog:=X.prog) (w:=X.w) (I.ok.hd hc) it lo 1 n;refine W.item i s _ _ hg st fun v h' tk hv qi kk=>?_
  obtain⟨t,rfl⟩:=hv;have I1:Inv X jx σ H {s with heap:=h',toks:=tk}:=I.turned (fun b o hb e=>kk b o (by simpa using hb) e) f0 f1 f3 f4 f5;refine⟨_,rfl,zF (s:={s with heap:=h',toks:=tk}) (n:= "range_iterator") qi rfl rfl (by decide) ⟨.int (lo+i),H,I1,⟨t,?_⟩,⟨rfl,rfl⟩,qi,fun b hb=>(hf b hb).1⟩⟩;rw[Int.mul_one]
 done:=by intro X hP hw hK hc i jx s σ H E I hf st hg;subst hP hw hK;obtain⟨f0,f1,f2,f3,f4,f5⟩:=hf it (by simp);exact wpAny_pyNext_range_end (I.ok.hd hc) st (by have:n<=i:=hg;omega) fun h' eb=>⟨rfl,I.turned (t':=s.toks) (fun b o hb e=>eb b o hb e) f0 f1 f3 f4 f5⟩
 self:=fun _ _ _ _ _ st h=>wpAny_pyIter_rangeiter st h
section
variable {X:Cx}{tg:Expr}
noncomputable def SF(K:W.Frag)(tl:TE):TI:=fun σ H R=>tl σ H fun x H1=>∃a,x=.ref a/\(∃xs,SqL K H1 a xs)/\R (Itl K a) H1
noncomputable def X8(K:W.Frag)(tl:TE):TI:=fun σ H R=>tl σ H fun x H1=>∃a,x=.ref a/\(∃xs,SqT K H1 a xs)/\R (Itt K a) H1
theorem d8{l:Expr}{tl:TE}(hl:PE X l tl):PI X tg l (SF X.K tl):=by
 intro jx s σ H R I h;refine thn (hl jx s σ H _ I h) fun v s1 ⟨x,H1,I1,r1,q1⟩=>?_
 obtain⟨a,e,⟨xs,hq⟩,q⟩:=q1;subst e;cases r1;obtain⟨its,rv,p,hz⟩:=I1.list hq;refine wpAny_pyIter_list p.isList ?_;refine⟨s1.heap.objs.size,[s1.heap.objs.size],_,_,H1,rfl,I1.kept (t':=s1.toks) fun b o e=>ao _ e,EA a _,⟨_,bc _ rfl,rfl,rfl⟩,fun b hb=>?_,q⟩;have e:b=s1.heap.objs.size:=by simpa using hb
 subst e;exact I1.BX (ay _) (I1.hok.fresh (ay _))
theorem jD{l:Expr}{tl:TE}(hl:PE X l tl):PI X tg l (X8 X.K tl):=by
 intro jx s σ H R I h;refine thn (hl jx s σ H _ I h) fun v s1 ⟨x,H1,I1,r1,q1⟩=>?_
 obtain⟨a,e,⟨xs,hq⟩,q⟩:=q1;subst e;cases r1;obtain⟨its,rv,p,hz⟩:=I1.tuple hq;refine wpAny_pyIter_tuple (show s1.heap.IsTuple a its.toArray from p) ?_;refine⟨s1.heap.objs.size,[s1.heap.objs.size],_,_,H1,rfl,I1.kept (t':=s1.toks) fun b o e=>ao _ e,AE a _,⟨_,bc _ rfl,rfl,rfl⟩,fun b hb=>?_,q⟩;have e:b=s1.heap.objs.size:=by simpa using hb
 subst e;exact I1.BX (ay _) (I1.hok.fresh (ay _))
theorem yB{jx:List (Addr×Obj)}{σ:St}{H:Hp}{s:Shared}{R:It->Hp->Prop}{E:Value->Shared->Prop}{lo hi:Int}{t u v:Tok}{tk:Nat}(I:Inv X jx σ H s)(h1:-(2^62)<=lo)(h2:lo<2^62)(h3:-(2^62)<=hi)(h4:hi<2^62)
  (q:R (Itr lo (hi - lo).toNat) H):wpAny (model X.prog X.w) X.A (pyIter (.ref s.heap.objs.size)) (PIE X jx σ tg R) E {s with heap:=s.heap.push {cls:=.type "range",data:=.fields #[.int lo t,.int hi u,.int 1 v]},toks:=tk}:=by
 refine wpAny_pyIter_range (IsRange.new ..) (small_one h1 h2 h3 h4) ?_;have I1:Inv X jx σ H {s with heap:=s.heap.push {cls:=.type "range",data:=.fields #[.int lo t,.int hi u,.int 1 v]},toks:=tk}:=I.kept fun b o e=>ao _ e
 refine⟨(s.heap.push {cls:=.type "range",data:=.fields #[.int lo t,.int hi u,.int 1 v]}).objs.size,[(s.heap.push {cls:=.type "range",data:=.fields #[.int lo t,.int hi u,.int 1 v]}).objs.size],_,_,H,rfl,
  I1.kept (t':=tk) fun b o e=>ao _ e,AF _ lo (hi - lo).toNat,?_,fun b hb=>?_,q⟩
 ·have e1:lo+((0:Nat):Int)*1=lo:=by simp
  have e2:(((hi - lo).toNat:Nat):Int) - ((0:Nat):Int)=Builtin.Range.rangeSize lo hi 1:=by rw[rangeSize_one];split<;>omega
  show IsRangeIter _ _ (lo+((0:Nat):Int)*1) ((((hi - lo).toNat:Nat):Int) - ((0:Nat):Int)) 1
  rw[e1,e2];exact bc _ rfl
 ·have e:b=(s.heap.push {cls:=.type "range",data:=.fields #[.int lo t,.int hi u,.int 1 v]}).objs.size:=by simpa using hb
  subst e;exact I1.BX (ay _) (I1.hok.fresh (ay _))
noncomputable def SE(ta:TA):TI:=fun σ H R=>ta σ H fun vs H1=>∃j:Int,vs=[.int j]/\-(2^62)<=j/\j<2^62/\R (Itr 0 j.toNat) H1
noncomputable def SD(ta:TA):TI:=fun σ H R=>ta σ H fun vs H1=>∃i j:Int,vs=[.int i,.int j]/\(-(2^62)<=i/\i<2^62/\-(2^62)<=j/\j<2^62)/\R (Itr i (j - i).toNat) H1
theorem vE{a:Expr}{ta:TA}{p pos:Pos}(hg:Gl X "range")(hm:X.mg "range" =none)(ha:PA X [a] ta)(hs:starEach [a] X.env=[(false,eval a X.env)]:=by rfl):PI X tg (.Call (.Name "range" p) [a] [] pos) (SE ta):=by
 intro jx s σ H R I h;refine Call_ (pR I hg hm boot_range (PyProof.Rows.callWith_type1 (thn (ha pos jx s σ H _ I h) fun us s1 ⟨vs,H1,I1,r1,q1⟩=>?_) hs rfl));obtain⟨j,e,q1,q2,q⟩:=q1;subst e;cases r1 with
 |cons r rr=>cases rr;obtain⟨t,rfl⟩:=r;exact call_range_1 (yB I1 (by omega) (by omega) q1 q2 (by simpa using q))
theorem ES{a b:Expr}{ta:TA}{p pos:Pos}(hg:Gl X "range")(hm:X.mg "range" =none)(ha:PA X [a,b] ta)(hs:starEach [a,b] X.env=[(false,eval a X.env),(false,eval b X.env)]:=by rfl)(vb:starEach [b] X.env=[(false,eval b X.env)]:=by rfl):
  PI X tg (.Call (.Name "range" p) [a,b] [] pos) (SD ta):=by
 intro jx s σ H R I h;refine Call_ (pR I hg hm boot_range (PyProof.Rows.callWith_type1 (thn (ha pos jx s σ H _ I h) fun us s1 ⟨vs,H1,I1,r1,q1⟩=>?_) (by rw[hs,vb]) (by rw[vb];rfl)));obtain⟨i,j,e,⟨q1,q2,q3,q4⟩,q⟩:=q1;subst e;cases r1 with
 |cons r rr=>
  cases rr with
  |cons r' rr=>cases rr;obtain⟨t,rfl⟩:=r;obtain⟨t',rfl⟩:=r';exact call_range_2 (yB I1 q1 q2 q3 q4 q)
noncomputable def T9(wi:TI)(g:TG)(tb:TS):TS:=fun D σ H=>wi σ H fun J H1=>∃W:Nat->Nat->St->Hp->Prop,(∃m,W 0 m σ H1)/\∀i m σ H,W i m σ H ->
 (J.stop i H/\D.nx σ H)\/(J.go i H/\∃N:St->Hp->Prop,(∀σ' H',N σ' H'->∃m',m'<m/\W (i+1) m' σ' H')/\∀x H',J.yld i H x H'->g x σ H' fun σ2 H2=>tb {D with nx:=N,ct:=N,bk:=D.nx} σ2 H2)
noncomputable def pM(fp:List Addr)(h:Heap):List (Addr×Obj):=fp.filterMap fun b=>(h.get? b).map fun o=>(b,o)
theorem jG{fp:List Addr}{h:Heap}{b:Addr}{o:Obj}(hb:b∈fp)(e:h.get? b=some o):(b,o)∈pM fp h:=List.mem_filterMap.mpr ⟨b,hb,by rw[e];rfl⟩
theorem ET{fp:List Addr}{h:Heap}{p:Addr×Obj}(hp:p∈pM fp h):p.1∈fp/\h.get? p.1=some p.2:=by
 obtain⟨b,hb,e⟩:=List.mem_filterMap.mp hp;cases q:h.get? b with
 |none=>rw[q]at e;cases e
 |some o=>rw[q]at e;have e':(b,o)=p:=Option.some.inj e;subst e';exact⟨hb,q⟩
theorem Inv.pinned{jx:List (Addr×Obj)}{σ:St}{H:Hp}{s:Shared}{fp:List Addr}(I:Inv X jx σ H s)(hf:∀b∈fp,mY X jx H b)(ho:∀b∈fp,∃o,s.heap.get? b=some o/\∀v,o.data≠ .cell v):Inv X (jx++pM fp s.heap) σ H s:=
 I.CT fun p hp=>(aw.mp hp).elim (fun z=>I.pin p (bh _ z)) fun z=>by obtain⟨hb,e⟩:=ET z;obtain⟨f0,f1,f2,_⟩:=hf p.1 hb;obtain⟨o,e',d⟩:=ho p.1 hb;rw[e]at e';cases e';exact⟨e,f0,f1,f2,d⟩
theorem Inv.kB{jx pl:List (Addr×Obj)}{σ:St}{H:Hp}{s:Shared}(I:Inv X (jx++pl) σ H s):Inv X jx σ H s:=I.CT fun p hp=>I.pin p (bh _ (cc _ hp))
theorem bY{iter:Expr}{body:List Stmt}{wi:TI}{g:TG}{tb:TS}{pos:Pos}(hp:PassesOwn (model X.prog X.w) X.A X.env X.xe)(hc:X.calm=true)(hi:PI X tg iter wi)(hg:PG X tg g)(hb:PSs X body tb)
  (hs:∀x,foldedSetIterable iter X.env x=pure x:=by intro _;rfl):PS X (.For tg iter body [] pos) (T9 wi g tb):=by
 intro jx s σ H D I h;refine wpAny_For (thn (hi jx s σ H _ I h) fun v s1 h1=>thn h1 fun itv s2 h2=>?_) hs;obtain⟨it,fp,tn,J,H2,e,I2,T,zb,f2,W,⟨m0,w0⟩,lh⟩:=h2;subst e;have oa:∀{H':Hp},(∀b∈fp,H' b=none)->∀b∈fp,mY X jx H' b:=fun hn b hb=>⟨hn b hb,(f2 b hb).2⟩
 refine codeAny_forLoop_any (fun n s'=>∃i σ' H',Inv X jx σ' H' s'/\tn i s'.heap/\(∀b∈fp,H' b=none)/\W i n σ' H') ?_ m0 ⟨0,σ,H2,I2,zb,fun b hb=>(f2 b hb).1,w0⟩;rintro n s3 ⟨i,σ3,H3,I3,As,fr3,w3⟩;rcases lh i n σ3 H3 w3 with⟨stop,qn⟩|⟨go,N,hN,step⟩
 ·refine wpAny_passesOwn hp (thn (T.done X rfl rfl rfl hc i jx s3 σ3 H3 X.xe I3 (oa fr3) As stop) fun r s4 ⟨hr,I4⟩=>?_);subst hr;exact wpAny_execs_nil ⟨σ3,H3,I4,qn⟩
 ·refine wpAny_passesOwn hp (thn (T.item X rfl rfl rfl hc i jx s3 σ3 H3 X.xe I3 (oa fr3) As go) fun r s4 ⟨u,hr,h4⟩=>?_);subst hr;refine wpAny_passesOwn hp (thn h4 fun _ s5 ⟨x,H5,I5,r5,y5,wo,fr5⟩=>?_);have I5':=I5.pinned (oa fr5) (T.obj _ _ wo);refine wpAny_passesOwn hp (thn (hg _ s5 σ3 H5 x u _ I5' r5 (step x H5 y5)) fun _ s6 ⟨σ6,H6,I6,q6⟩=>?_);refine wpAny_passesOwn hp (thn (hb _ s6 σ6 H6 _ I6 q6) fun f s7 q7=>?_);have again:∀{σ7:St}{H7:Hp},Inv X (jx++pM fp s5.heap) σ7 H7 s7->N σ7 H7->∃m,m<n/\∃i σ' H',Inv X jx σ' H' s7/\tn i s7.heap/\(∀b∈fp,H' b=none)/\W i m σ' H':=fun{σ7 H7} I7 n7=>by obtain⟨m',hm,w7⟩:=hN σ7 H7 n7;refine⟨m',hm,i+1,σ7,H7,I7.kB,T.keep _ _ _ wo fun b hb o e=>(I7.pin (b,o) (bh _ (bh _ (jG hb e)))).1,fun b hb=>?_,w7⟩;obtain⟨o,e,d⟩:=T.obj _ _ wo b hb;exact(I7.pin (b,o) (bh _ (bh _ (jG hb e)))).2.1
  cases f with
  |next=>obtain⟨σ7,H7,I7,n7⟩:=q7;exact again I7 n7
  |cont=>obtain⟨σ7,H7,I7,n7⟩:=q7;exact again I7 n7
  |brk=>obtain⟨σ7,H7,I7,q7⟩:=q7;exact⟨σ7,H7,I7.kB,q7⟩
  |ret v=>obtain⟨x7,σ7,H7,I7,r7,q7⟩:=q7;exact⟨x7,σ7,H7,I7.kB,r7,q7⟩
end
theorem fW{K:W.Frag}{a:Addr}{xs:List V}{g:TG}{tb:TS}{D:Ends}{σ:St}{H:Hp}(Pv:Nat->St->Hp->Prop)(h0:Pv 0 σ H)(hl:∀i σ H,i<=xs.length->Pv i σ H->SqL K H a xs)
  (hs:∀i x σ H,xs[i]? =some x->Pv i σ H->g x σ H fun σ2 H2=>tb {D with nx:=Pv (i+1),ct:=Pv (i+1),bk:=D.nx} σ2 H2) (hd:∀σ H,Pv xs.length σ H->D.nx σ H):
  ∃W:Nat->Nat->St->Hp->Prop,(∃m,W 0 m σ H)/\∀i m σ H,W i m σ H ->
   ((Itl K a).stop i H/\D.nx σ H)\/((Itl K a).go i H/\∃N:St->Hp->Prop,(∀σ' H',N σ' H'->∃m',m'<m/\W (i+1) m' σ' H')/\∀x H',(Itl K a).yld i H x H'->g x σ H' fun σ2 H2=>tb {D with nx:=N,ct:=N,bk:=D.nx} σ2 H2):=by
 refine⟨fun i m σ H=>m=xs.length - i/\i<=xs.length/\Pv i σ H,⟨xs.length,by simp,cj _,h0⟩,?_⟩;rintro i m σ H ⟨rfl,hi,p⟩;have q:=hl i σ H hi p;by_cases kh:i<xs.length
 ·refine .inr ⟨⟨xs,xs[i],q,by simp[kh]⟩,Pv (i+1),fun σ' H' p'=>⟨xs.length - (i+1),by omega,rfl,kh,p'⟩,fun x H' y=>?_⟩;obtain⟨e,y⟩:=y;subst e;exact hs i x σ _ (y xs q) p
 ·have e:i=xs.length:=by omega
  subst e;exact .inl ⟨⟨xs,q,ay _⟩,hd σ H p⟩
theorem jP{K:W.Frag}{a:Addr}{xs:List V}{g:TG}{tb:TS}{D:Ends}{σ:St}{H:Hp}(Pv:Nat->St->Hp->Prop)(h0:Pv 0 σ H)(hl:∀i σ H,i<=xs.length->Pv i σ H->SqT K H a xs)
  (hs:∀i x σ H,xs[i]? =some x->Pv i σ H->g x σ H fun σ2 H2=>tb {D with nx:=Pv (i+1),ct:=Pv (i+1),bk:=D.nx} σ2 H2) (hd:∀σ H,Pv xs.length σ H->D.nx σ H):
  ∃W:Nat->Nat->St->Hp->Prop,(∃m,W 0 m σ H)/\∀i m σ H,W i m σ H ->
   ((Itt K a).stop i H/\D.nx σ H)\/((Itt K a).go i H/\∃N:St->Hp->Prop,(∀σ' H',N σ' H'->∃m',m'<m/\W (i+1) m' σ' H')/\∀x H',(Itt K a).yld i H x H'->g x σ H' fun σ2 H2=>tb {D with nx:=N,ct:=N,bk:=D.nx} σ2 H2):=by
 refine⟨fun i m σ H=>m=xs.length - i/\i<=xs.length/\Pv i σ H,⟨xs.length,by simp,cj _,h0⟩,?_⟩;rintro i m σ H ⟨rfl,hi,p⟩;have q:=hl i σ H hi p;by_cases kh:i<xs.length
 ·refine .inr ⟨⟨xs,xs[i],q,by simp[kh]⟩,Pv (i+1),fun σ' H' p'=>⟨xs.length - (i+1),by omega,rfl,kh,p'⟩,fun x H' y=>?_⟩;obtain⟨e,y⟩:=y;subst e;exact hs i x σ _ (y xs q) p
 ·have e:i=xs.length:=by omega
  subst e;exact .inl ⟨⟨xs,q,ay _⟩,hd σ H p⟩
theorem pZ{lo:Int}{n:Nat}{g:TG}{tb:TS}{D:Ends}{σ:St}{H:Hp}(Pv:Nat->St->Hp->Prop)(h0:Pv 0 σ H)
  (hs:∀i σ H,i<n->Pv i σ H->g (.int (lo+i)) σ H fun σ2 H2=>tb {D with nx:=Pv (i+1),ct:=Pv (i+1),bk:=D.nx} σ2 H2) (hd:∀σ H,Pv n σ H->D.nx σ H):
  ∃W:Nat->Nat->St->Hp->Prop,(∃m,W 0 m σ H)/\∀i m σ H,W i m σ H ->
   ((Itr lo n).stop i H/\D.nx σ H)\/((Itr lo n).go i H/\∃N:St->Hp->Prop,(∀σ' H',N σ' H'->∃m',m'<m/\W (i+1) m' σ' H')/\∀x H',(Itr lo n).yld i H x H'->g x σ H' fun σ2 H2=>tb {D with nx:=N,ct:=N,bk:=D.nx} σ2 H2):=by
 refine⟨fun i m σ H=>m=n - i/\i<=n/\Pv i σ H,⟨n,by simp,cj _,h0⟩,?_⟩;rintro i m σ H ⟨rfl,hi,p⟩;by_cases kh:i<n
 ·refine .inr ⟨kh,Pv (i+1),fun σ' H' p'=>⟨n - (i+1),by omega,rfl,kh,p'⟩,fun x H' y=>?_⟩;obtain⟨e,y⟩:=y;subst e y;exact hs i σ _ kh p
 ·have e:i=n:=by omega
  subst e;exact .inl ⟨ay _,hd σ H p⟩
theorem iS{c:TT}{tb:TS}{D:Ends}{σ:St}{H:Hp}(Pv:St->Hp->Prop)(μ:St->Hp->Nat)(h0:Pv σ H)
  (hs:∀σ H,Pv σ H->c σ H fun b H1=>if b=true then tb {D with nx:=fun σ' H'=>Pv σ' H'/\μ σ' H'<μ σ H,ct:=fun σ' H'=>Pv σ' H'/\μ σ' H'<μ σ H,bk:=D.nx} σ H1 else D.nx σ H1)
  (mono:∀σ H Q Q',(∀b H1,Q b H1->Q' b H1)->c σ H Q->c σ H Q'):GI c tb D σ H:=by
 refine⟨fun m σ H=>m=μ σ H/\Pv σ H,⟨_,rfl,h0⟩,?_⟩;rintro m σ H ⟨rfl,p⟩;refine mono σ H _ _ (fun b H1 q=>?_) (hs σ H p);cases b with
 |true=>exact⟨_,fun σ' H' ⟨p',l⟩=>⟨_,l,rfl,p'⟩,q⟩
 |false=>exact q
abbrev R2:=V->V->Hp->VK->Prop
noncomputable def OpR(X:Cx)(f:Value->Value->Sem Value)(r:R2):Prop:=
 ∀(jx:List (Addr×Obj))(s:Shared)(σ:St)(H:Hp)(x y:V)(v u:Value)(Q:VK),Inv X jx σ H s->RelV x v->RelV y u->r x y H Q ->
  wpAny (model X.prog X.w) X.A (f v u) (EP X jx σ Q) X.xe s
noncomputable def UnR(X:Cx)(f:Value->Sem Value)(r:V->Hp->VK->Prop):Prop:=
 ∀(jx:List (Addr×Obj))(s:Shared)(σ:St)(H:Hp)(x:V)(v:Value)(Q:VK),Inv X jx σ H s->RelV x v->r x H Q ->
  wpAny (model X.prog X.w) X.A (f v) (EP X jx σ Q) X.xe s
noncomputable def lH(X:Cx)(f:Value)(r:List V->Hp->VK->Prop):Prop:=
 ∀(jx:List (Addr×Obj))(s:Shared)(σ:St)(H:Hp)(xs:List V)(us:List Value)(Q:VK),Inv X jx σ H s->Vals xs us->r xs H Q ->
  wpAny (model X.prog X.w) X.A (call f us) (EP X jx σ Q) X.xe s
noncomputable def XF(X:Cx)(r:V->Hp->(Bool->Hp->Prop)->Prop):Prop:=
 ∀(jx:List (Addr×Obj))(s:Shared)(σ:St)(H:Hp)(x:V)(v:Value)(Q:Bool->Hp->Prop),Inv X jx σ H s->RelV x v->r x H Q ->
  wpAny (model X.prog X.w) X.A (truthy v) (TP X jx σ Q) X.xe s
noncomputable def tOp(r:R2)(ta tb:TE):TE:=fun σ H Q=>ta σ H fun x H1=>tb σ H1 fun y H2=>r x y H2 Q
def tUn(r:V->Hp->VK->Prop)(ta:TE):TE:=fun σ H Q=>ta σ H fun x H1=>r x H1 Q
noncomputable def rI(C:Int->Int->Prop)(g:Int->Int->V):R2:=fun x y H Q=>∃i j,x=.int i/\y=.int j/\C i j/\Q (g i j) H
noncomputable def rI0(g:Int->Int->V):R2:=fun x y H Q=>∃i j,x=.int i/\y=.int j/\Q (g i j) H
def rU(g:Int->V):V->Hp->VK->Prop:=fun x H Q=>∃i,x=.int i/\Q (g i) H
section
variable {X:Cx}{a b c:Expr}{ta tb tc:TE}{pos:Pos}
theorem NK(ha:PE X a ta)(hb:PE X b tb){jx:List (Addr×Obj)}{s:Shared}{σ:St}{H:Hp}{R:V->V->Hp->Prop}(I:Inv X jx σ H s)
  (h:ta σ H fun x H1=>tb σ H1 fun y H2=>R x y H2) {Q:Value->Shared->Prop}{f:Value->Value->Sem Value}
  (hf:∀v u s2 x y H2,Inv X jx σ H2 s2->RelV x v->RelV y u->R x y H2->wpAny (model X.prog X.w) X.A (f v u) Q X.xe s2):
  wpAny (model X.prog X.w) X.A (eval a X.env) (fun v s₁=>wpAny (model X.prog X.w) X.A (eval b X.env) (fun u s₂=>wpAny (model X.prog X.w) X.A (f v u) Q X.xe s₂) X.xe s₁) X.xe s:=by
 refine thn (ha jx s σ H _ I h) fun v s1 ⟨x,H1,I1,r1,q1⟩=>?_
 refine thn (hb jx s1 σ H1 _ I1 q1) fun u s2 ⟨y,H2,I2,r2,q2⟩=>?_
 exact hf v u s2 x y H2 I2 r1 r2 q2
theorem dE{op:Operator}{r:R2}(ho:OpR X (binaryOp op) r)(ha:PE X a ta)(hb:PE X b tb):PE X (.BinOp a op b pos) (tOp r ta tb):=by intro jx s σ H Q I h;exact wpAny_BinOp (NK ha hb I h fun v u s2 x y H2 I2 rx ry q=>ho jx s2 σ H2 x y v u Q I2 rx ry q)
theorem LN{op:UnaryOp}{r:V->Hp->VK->Prop}(ho:UnR X (unaryOp op) r)(ha:PE X a ta):PE X (.UnaryOp op a pos) (tUn r ta):=by intro jx s σ H Q I h;exact UnaryOp_ (thn (ha jx s σ H _ I h) fun v s1 ⟨x,H1,I1,r1,q1⟩=>ho jx s1 σ H1 x v Q I1 r1 q1)
theorem opI{f:Value->Value->Sem Value}{C:Int->Int->Prop}{g:Int->Int->Int}
  (rule:∀(i j:Int)(t u:Tok)(s:Shared)(Q:Value->Shared->Prop)(E:Value->Shared->Prop),C i j->Q (.int (g i j) s.toks) {s with toks:=s.toks+1}->wpAny (model X.prog X.w) X.A (f (.int i t) (.int j u)) Q E s):
  OpR X f (rI C fun i j=>.int (g i j)):=by
 intro jx s σ H x y v u Q I rx ry h;obtain⟨i,j,rfl,rfl,hc,q⟩:=h;obtain⟨t,rfl⟩:=rx;obtain⟨t',rfl⟩:=ry;exact rule i j t t' s _ _ hc ⟨.int (g i j),H,I.tok _,⟨_,rfl⟩,q⟩
theorem OC{f:Value->Value->Sem Value}{g:Int->Int->Int}
  (rule:∀(i j:Int)(t u:Tok)(s:Shared)(Q:Value->Shared->Prop)(E:Value->Shared->Prop),Q (.int (g i j) s.toks) {s with toks:=s.toks+1}->wpAny (model X.prog X.w) X.A (f (.int i t) (.int j u)) Q E s):
  OpR X f (rI0 fun i j=>.int (g i j)):=by
 intro jx s σ H x y v u Q I rx ry h;obtain⟨i,j,rfl,rfl,q⟩:=h;obtain⟨t,rfl⟩:=rx;obtain⟨t',rfl⟩:=ry;exact rule i j t t' s _ _ ⟨.int (g i j),H,I.tok _,⟨_,rfl⟩,q⟩
theorem OD{f:Value->Value->Sem Value}{g:Int->Int->Bool}
  (rule:∀(i j:Int)(t u:Tok)(s:Shared)(Q:Value->Shared->Prop)(E:Value->Shared->Prop),Q (.bool (g i j)) s->wpAny (model X.prog X.w) X.A (f (.int i t) (.int j u)) Q E s):
  OpR X f (rI0 fun i j=>.bl (g i j)):=by
 intro jx s σ H x y v u Q I rx ry h;obtain⟨i,j,rfl,rfl,q⟩:=h;obtain⟨t,rfl⟩:=rx;obtain⟨t',rfl⟩:=ry;exact rule i j t t' s _ _ ⟨.bl (g i j),H,I,rfl,q⟩
def XH(i j:Int):Prop:=0<j/\j<1073741824
def NO(i j:Int):Prop:=(-(2^64)<i/\i<2^64)\/(-(2^64)<j/\j<2^64)
theorem NO.ok{i j:Int}(h:NO i j):IntMulOk i j:=by
 rcases h with⟨h1,h2⟩|⟨h1,h2⟩
 ·exact .of_left (intBits_le_64 h1 h2)
 ·exact .of_right (intBits_le_64 h1 h2)
theorem kI:OpR X (binaryOp .Add) (rI0 fun i j=>.int (i+j)):=OC fun _ _ _ _ _ _ _ q=>add_int q
theorem pO:OpR X (binaryOp .Sub) (rI0 fun i j=>.int (i - j)):=OC fun _ _ _ _ _ _ _ q=>sub_int q
theorem t9:OpR X (binaryOp .Mult) (rI NO fun i j=>.int (i*j)):=opI fun _ _ _ _ _ _ _ hc q=>mul_int q hc.ok
theorem CY:OpR X (binaryOp .FloorDiv) (rI XH fun i j=>.int (i/j)):=opI fun i j _ _ _ _ _ hc q=>by have h1:(0:Int)<j:=hc.1;have h2:j<1073741824:=hc.2;exact floordiv_int (by omega) (by rw[Int.fdiv_eq_ediv_of_nonneg i (by omega)];exact q) (.inl (PyProof.noPylong_small (by omega)))
theorem wY:OpR X (binaryOp .Mod) (rI (fun _ j=>0<j) fun i j=>.int (i%j)):=opI fun i j _ _ _ _ _ hc q=>by have h1:(0:Int)<j:=hc;exact mod_int' (by omega) (by rw[Int.fmod_eq_emod_of_nonneg i (by omega)];exact q)
theorem unI{f:Value->Sem Value}{g:Int->Int}
  (rule:∀(i:Int)(t:Tok)(s:Shared)(Q:Value->Shared->Prop)(E:Value->Shared->Prop),Q (.int (g i) s.toks) {s with toks:=s.toks+1}->wpAny (model X.prog X.w) X.A (f (.int i t)) Q E s):
  UnR X f (rU fun i=>.int (g i)):=by
 intro jx s σ H x v Q I rx h;obtain⟨i,rfl,q⟩:=h;obtain⟨t,rfl⟩:=rx;exact rule i t s _ _ ⟨.int (g i),H,I.tok _,⟨_,rfl⟩,q⟩
theorem GD:UnR X (unaryOp .USub) (rU fun i=>.int (-i)):=unI fun _ _ _ _ _ q=>neg_int q
end
noncomputable def O5:V->V->Bool
 | .non,.non=>true| .non,.int _=>true| .int _,.non=>true| .non,.bl _=>true| .bl _,.non=>true| .non,.str _=>true| .str _,.non=>true
 | .int _,.int _=>true| .bl _,.bl _=>true| .str _,.str _=>true| .byt _,.byt _=>true
 | .int _,.str _=>true| .str _,.int _=>true| .bl _,.str _=>true| .str _,.bl _=>true
 |_,_=>false
def rEq:R2:=fun x y H Q=>O5 x y=true/\Q (.bl (decide (x=y))) H
def rNe:R2:=fun x y H Q=>O5 x y=true/\Q (.bl (!decide (x=y))) H
theorem jT{i j:Int}:decide (V.int i=V.int j)=(i==j):=by rw[di];simp
theorem JB{i j:Bool}:decide (V.bl i=V.bl j)=(i==j):=by rw[di];simp
theorem DQ{i j:Str}:decide (V.str i=V.str j)=(i==j):=by rw[di];simp
theorem DR{i j:Array UInt8}:decide (V.byt i=V.byt j)=(i.toList==j.toList):=by rw[di];cases i;cases j;simp
section
variable {X:Cx}{a b c:Expr}{ta tb tc:TE}{pos:Pos}
theorem bV{jx:List (Addr×Obj)}{σ:St}{H:Hp}{s:Shared}{Q:VK}{k k':Bool}(I:Inv X jx σ H s)(q:Q (.bl k) H)(e:k=k'):EP X jx σ Q (.bool k') s:=by subst e;exact⟨.bl k,H,I,rfl,q⟩
theorem hV:OpR X (compareOp .Eq) rEq:=by
 intro jx s σ H x y v u Q I rx ry h;obtain⟨hs,q⟩:=h;cases x with
 |non=>
  cases rx;cases y with
  |non=>cases ry;exact PySem.EqNone.eq_none_none (bV I q (by simp))
  |bl j=>cases ry;exact PySem.EqNone.eq_none_bool (bV I q (by simp))
  |int j=>obtain⟨t',rfl⟩:=ry;exact PySem.EqNone.eq_none_int (bV I q (by simp))
  |str j=>obtain⟨t',rfl⟩:=ry;exact PySem.EqNone.eq_none_str (bV I q (by simp))
  |_=>exact absurd (show false=true from hs) bp
 |bl i=>
  cases rx;cases y with
  |non=>cases ry;exact PySem.EqNone.eq_bool_none (bV I q (by simp))
  |bl j=>cases ry;exact eq_bool (bV I q JB)
  |str j=>obtain⟨t',rfl⟩:=ry;exact PySem.EqMixed.eq_bool_str (bV I q (by simp))
  |_=>exact absurd (show false=true from hs) bp
 |int i=>
  obtain⟨t,rfl⟩:=rx;cases y with
  |non=>cases ry;exact PySem.EqNone.eq_int_none (bV I q (by simp))
  |int j=>obtain⟨t',rfl⟩:=ry;exact eq_int (bV I q jT)
  |str j=>obtain⟨t',rfl⟩:=ry;exact PySem.EqMixed.eq_int_str (bV I q (by simp))
  |_=>exact absurd (show false=true from hs) bp
 |str i=>
  obtain⟨t,rfl⟩:=rx;cases y with
  |non=>cases ry;exact PySem.EqNone.eq_str_none (bV I q (by simp))
  |bl j=>cases ry;exact PySem.EqMixed.eq_str_bool (bV I q (by simp))
  |int j=>obtain⟨t',rfl⟩:=ry;exact PySem.EqMixed.eq_str_int (bV I q (by simp))
  |str j=>obtain⟨t',rfl⟩:=ry;exact eq_str (bV I q DQ)
  |_=>exact absurd (show false=true from hs) bp
 |byt i=>
  obtain⟨t,rfl⟩:=rx;cases y with
  |byt j=>obtain⟨t',rfl⟩:=ry;exact W.eq_bytes (bV I q DR)
  |_=>exact absurd (show false=true from hs) bp
 |_=>cases y<;>exact absurd (show false=true from hs) bp
theorem LO:OpR X (compareOp .NotEq) rNe:=by
 intro jx s σ H x y v u Q I rx ry h;obtain⟨hs,q⟩:=h;cases x with
 |non=>
  cases rx;cases y with
  |non=>cases ry;exact PySem.EqNone.ne_none_none (bV I q (by simp))
  |bl j=>cases ry;exact PySem.EqNone.ne_none_bool (bV I q (by simp))
  |int j=>obtain⟨t',rfl⟩:=ry;exact PySem.EqNone.ne_none_int (bV I q (by simp))
  |str j=>obtain⟨t',rfl⟩:=ry;exact PySem.EqNone.ne_none_str (bV I q (by simp))
  |_=>exact absurd (show false=true from hs) bp
 |bl i=>
  cases rx;cases y with
  |non=>cases ry;exact PySem.EqNone.ne_bool_none (bV I q (by simp))
  |bl j=>cases ry;exact ne_bool (bV I q (congrArg not JB))
  |str j=>obtain⟨t',rfl⟩:=ry;exact PySem.EqMixed.ne_bool_str (bV I q (by simp))
  |_=>exact absurd (show false=true from hs) bp
 |int i=>
  obtain⟨t,rfl⟩:=rx;cases y with
  |non=>cases ry;exact PySem.EqNone.ne_int_none (bV I q (by simp))
  |int j=>obtain⟨t',rfl⟩:=ry;exact ne_int (bV I q (congrArg not jT))
  |str j=>obtain⟨t',rfl⟩:=ry;exact PySem.EqMixed.ne_int_str (bV I q (by simp))
  |_=>exact absurd (show false=true from hs) bp
 |str i=>
  obtain⟨t,rfl⟩:=rx;cases y with
  |non=>cases ry;exact PySem.EqNone.ne_str_none (bV I q (by simp))
  |bl j=>cases ry;exact PySem.EqMixed.ne_str_bool (bV I q (by simp))
  |int j=>obtain⟨t',rfl⟩:=ry;exact PySem.EqMixed.ne_str_int (bV I q (by simp))
  |str j=>obtain⟨t',rfl⟩:=ry;exact ne_str (bV I q (congrArg not DQ))
  |_=>exact absurd (show false=true from hs) bp
 |byt i=>
  obtain⟨t,rfl⟩:=rx;cases y with
  |byt j=>obtain⟨t',rfl⟩:=ry;exact W.ne_bytes (bV I q (congrArg not DR))
  |_=>exact absurd (show false=true from hs) bp
 |_=>cases y<;>exact absurd (show false=true from hs) bp
theorem HR:OpR X (compareOp .Lt) (rI0 fun i j=>.bl (decide (i<j))):=OD fun _ _ _ _ _ _ _ q=>lt_int q
theorem vL:OpR X (compareOp .Gt) (rI0 fun i j=>.bl (decide (j<i))):=OD fun _ _ _ _ _ _ _ q=>gt_int q
theorem c7(b:Expr){op:CmpOp}(h:op≠ .In:=by decide)(h2:op≠ .NotIn:=by decide):behindInMarks op b=false:=by
 have e1:(op==CmpOp.In)=false:=by cases op<;>first|rfl|exact absurd rfl h
 have e2:(op==CmpOp.NotIn)=false:=by cases op<;>first|rfl|exact absurd rfl h2
 cases b<;>simp[behindInMarks,e1,e2]
theorem wX{op:CmpOp}{r:R2}(ho:OpR X (compareOp op) r)(ha:PE X a ta)(hb:PE X b tb)(hm:behindInMarks op b=false):PE X (.Compare a [op] [b] pos) (tOp r ta tb):=by intro jx s σ H Q I h;exact wpAny_Compare1 (NK ha hb I h fun v u s2 x y H2 I2 rx ry q=>ho jx s2 σ H2 x y v u Q I2 rx ry q) hm
def NS(t:TE):TT:=fun σ H Q=>t σ H fun x H'=>∃k,x=.bl k/\Q k H'
theorem bU{op:CmpOp}{r:R2}(ho:OpR X (compareOp op) r)(ha:PE X a ta)(hb:PE X b tb)(hm:behindInMarks op b=false):PT X (.Compare a [op] [b] pos) (NS (tOp r ta tb)):=by
 intro jx s σ H Q I h;refine wpAny_isTrue_Compare1 (thn (ha jx s σ H _ I h) fun v s1 ⟨x,H1,I1,r1,q1⟩=>thn (hb jx s1 σ H1 _ I1 q1) fun u s2 ⟨y,H2,I2,r2,q2⟩=>
  thn (ho jx s2 σ H2 x y v u _ I2 r1 r2 q2) fun c s3 ⟨z,H3,I3,r3,k,e,q3⟩=>?_) hm
 subst e;cases r3;exact wpAny_truthy_bool ⟨H3,I3,q3⟩
noncomputable def SR(K:W.Frag)(x:V)(H:Hp)(k:Bool):Prop:=
 match x with
 | .non=>k=false
 | .bl b=>k=b
 | .int i=>k=(i !=0)
 | .str y=>y.length<=sizeLine/\k=((y.length:Int) !=0)
 | .byt y=>y.size<=sizeLine/\k=((y.size:Int) !=0)
 | .ref p=>(∃xs,SqL K H p xs/\k=!xs.isEmpty)\/(∃xs,SqT K H p xs/\k=!xs.isEmpty)\/∃kvs,H p=some (.dK kvs)/\k=!kvs.isEmpty
 |_=>False
theorem BM{κ:Type}{kvs:List (κ×V)}{vs:List (κ×Value)}(r:KV kvs vs):(!vs.isEmpty)=!kvs.isEmpty:=by cases r<;>rfl
theorem tM{xs:List V}{its:List Value}(r:Vals xs its):(!its.toArray.isEmpty)=!xs.isEmpty:=by cases r<;>simp
theorem mP:(sizeLine:Nat)<2^63:=by rw[sizeLine_eq];decide
theorem LY:XF X (fun x H Q=>∃k,SR X.K x H k/\Q k H):=by
 intro jx s σ H x v Q I rx h;obtain⟨k,e,q⟩:=h;have hl:=mP;have hs:sizeLine=16777216:=sizeLine_eq;cases x with
 |non=>cases rx;have e':k=false:=e;subst e';exact truthy_none ⟨H,I,q⟩
 |bl b=>cases rx;have e':k=b:=e;subst e';exact wpAny_truthy_bool ⟨H,I,q⟩
 |int i=>obtain⟨t,rfl⟩:=rx;have e':k=(i !=0):=e;subst e';exact PySem.P.truthy_int ⟨H,I,q⟩
 |str y=>obtain⟨t,rfl⟩:=rx;obtain⟨hy,e'⟩:y.length<=sizeLine/\k=((y.length:Int) !=0):=e;subst e';exact PySem.P.truthy_str (by omega) ⟨H,I.tok _,q⟩
 |byt y=>obtain⟨t,rfl⟩:=rx;obtain⟨hy,e'⟩:y.size<=sizeLine/\k=((y.size:Int) !=0):=e;subst e';exact W.truthy_bytes (by omega) ⟨H,I.tok _,q⟩
 |ref p=>
  cases rx;have e':(∃xs,SqL X.K H p xs/\k=!xs.isEmpty)\/(∃xs,SqT X.K H p xs/\k=!xs.isEmpty)\/∃kvs,H p=some (.dK kvs)/\k=!kvs.isEmpty:=e
  rcases e' with⟨xs,hx,e'⟩|⟨xs,hx,e'⟩|⟨kvs,hx,e'⟩
  ·subst e';obtain⟨its,r,pl,hz⟩:=I.list hx;have km:=r.length;exact wpAny_truthy_list pl.isList (by simp only[bg];omega) ⟨H,I.tok _,by rw[tM r];exact q⟩
  ·subst e';obtain⟨its,r,pl,hz⟩:=I.tuple hx;have km:=r.length;exact truthy_tuple pl (by simp only[bg];omega) ⟨H,I.tok _,by rw[tM r];exact q⟩
  ·subst e';obtain⟨hz,hS,vs,r,m⟩:kvs.length<=sizeLine/\(p==sysModules)=false/\∃vs,KV kvs vs/\s.heap.DictOf (cD X.prog X.w) p vs:=I.hok p _ hx
   have km:kvs.length=vs.length:=Paired.length r;exact wpAny_truthy_dict hS m (by omega) ⟨H,I.tok _,by rw[BM r];exact q⟩
 |_=>exact(show False from e).elim
theorem sW(ha:PE X a ta)(he:∀ny,isTrue a X.env ny=(do let v<- ny;standAt a.pos;holding [v] (truthy v))):
  PT X a (fun σ H Q=>ta σ H fun x H'=>∃k,SR X.K x H' k/\Q k H'):=by
 intro jx s σ H Q I h;exact isTrue_plain (thn (ha jx s σ H _ I h) fun v s1 ⟨x,H1,I1,r1,q1⟩=>LY jx s1 σ H1 x v Q I1 r1 q1) (he _)
theorem vals1{x:V}{us:List Value}(r:Vals [x] us):∃u,us=[u]/\RelV x u:=by
 cases r with
 |cons r1 r2=>cases r2;exact⟨_,rfl,r1⟩
theorem vals2{x y:V}{us:List Value}(r:Vals [x,y] us):∃u w',us=[u,w']/\RelV x u/\RelV y w':=by
 cases r with
 |cons r1 r2=>
  cases r2 with
  |cons r3 r4=>cases r4;exact⟨_,_,rfl,r1,r3⟩
theorem G0(hc:X.calm=true):lH X (.builtin "max") (fun xs H Q=>∃i j,xs=[.int i,.int j]/\Q (.int (if j>i then j else i)) H):=by
 intro jx s σ H xs us Q I r h;obtain⟨i,j,rfl,q⟩:=h;obtain⟨u,w',rfl,⟨t,rfl⟩,⟨t',rfl⟩⟩:=vals2 r;refine max_two_ints (I.ok.hd hc) fun h' tk k=>⟨_,H,I.kept k,?_,q⟩
 by_cases hj:j>i
 ·rw[ah hj,ah hj];exact⟨_,rfl⟩
 ·rw[af hj,af hj];exact⟨_,rfl⟩
theorem FZ(hc:X.calm=true):lH X (.builtin "min") (fun xs H Q=>∃i j,xs=[.int i,.int j]/\Q (.int (if j<i then j else i)) H):=by
 intro jx s σ H xs us Q I r h;obtain⟨i,j,rfl,q⟩:=h;obtain⟨u,w',rfl,⟨t,rfl⟩,⟨t',rfl⟩⟩:=vals2 r;refine min_two_ints (I.ok.hd hc) fun h' tk k=>⟨_,H,I.kept k,?_,q⟩
 by_cases hj:j<i
 ·rw[ah hj,ah hj];exact⟨_,rfl⟩
 ·rw[af hj,af hj];exact⟨_,rfl⟩
end
structure G5(h:Heap)(x dx C:Addr)(mA:Str->Option Value):Prop where
 obj:h.get? x=some (W.instObj C dx)
 ns:h.Ns1 dx mA
 ne:dx≠x
theorem EX{h:Heap}{dx:Addr}{mA:Str->Option Value}(n:h.Ns1 dx mA):∃od,h.get? dx=some od/\∀name,W.lookIn name od=some (mA name):=by
 obtain⟨o,es,ep,ho,hd,hk,_,hm⟩:=n;refine⟨o,ho,fun name=>?_⟩;have e:=hm name;unfold nsFind findBy at e;rw[<- Array.find?_toList]at e;unfold W.lookIn;rw[hd];dsimp only;split
 ·rename_i y q;rw[q]at e;exact congrArg some e
 ·rename_i q;rw[q]at e;have a:es.toList.any (·.refKey)=false:=by rw[List.any_eq_false];intro y hy;obtain⟨z,t,oz⟩:=hk y (Array.mem_toList_iff.mp hy);simp[DictEntry.refKey,oz]
  have a':¬es.toList.any (·.refKey)=true:=by rw[a];exact bp
  rw[af a'];exact congrArg some e
theorem G5.look{h:Heap}{x dx C:Addr}{mA:Str->Option Value}(I:G5 h x dx C mA):∃od,W.InstAt h x (W.instObj C dx) C (some od)/\∀name,W.lookIn name od=some (mA name):=
 let⟨od,ho,hl⟩:=EX I.ns
 ⟨od,⟨I.obj,rfl,rfl,ho⟩,hl⟩
section
variable {prog:Program}{w:World}{A:Around}{E:Value->Shared->Prop}{s:Shared}{K:W.Frag}{x dx C f:Addr}{mA:Str->Option Value}{name:Str}{v:Value}
theorem get_map{expr:Bool}{Q:Value->Shared->Prop}(X:K.In s.heap)(I:G5 s.heap x dx C mA)(hg:W.plainGet K C name=true)(hh:W.hasDictIn K C=true)
  (ha:W.findIn K (.ref C) name=some none) (hv:mA name=some v) (hv':W.handedIn v=true) (h:Q v {s with toks:=s.toks+1}):
  wpAny (model prog w) A (getAttr (.ref x) name expr) Q E s:=by
 obtain⟨od,J,hl⟩:=I.look;exact W.get_value X J (W.plainGet_of hg).1 (W.findObj_own hh ha rfl (by rw[hl,hv])) hv' h
theorem JT{ns:List Str}{Q:Unit->Shared->Prop}(X:K.In s.heap)(I:G5 s.heap x dx C mA)
  (hs:W.findIn K (.ref C) "__setattr__" =some (some (.builtin "object.__setattr__"))) (hp:W.plainOver K C=true) (ht:W.takerIn K C name=some none) (hh:W.hasDictIn K C=true)
  (hw:PySem.Within mA ns) (hsz:ns.length<=sizeLine)
  (h:∀h',G5 h' x dx C (fun y=>if y=name then some v else mA y)->Heap.SameBut dx s.heap h'->Q () {s with heap:=h',toks:=s.toks+2}):
  wpAny (model prog w) A (setAttr (.ref x) name v) Q E s:=by
 obtain⟨od,J,hl⟩:=I.look;refine W.set_plain X J hs (W.osa_open (s:={s with toks:=s.toks+1}) (r:=none) X J hp ht fun b=>?_);obtain⟨cd,hc,xn⟩:=W.any_some hh;have hx:s.heap.get? x=some ⟨.ref C,some dx,.plain,#[]⟩:=I.obj;refine aa (ai (aa (aa (wpAny_loadPart hx (aa (W.Looks.here (s:={s with toks:=s.toks+1}) (W.looks_clsIn X hc) ?_))))));rw[xn];refine ai (a:=some dx) (aa (ai (aa ?_)));refine wpAny_nsSet1 (s:={s with toks:=s.toks+1}) I.ns fun h' Bc vb=>?_
 obtain⟨oD,esD,epD,hoD,hdD,hcD⟩:=Bc.count (PySem.Within.cons name v hw);refine aa (wpAny_lookBehind hoD (by rw[hdD];exact pastItsLine_dict (df hcD (by rw[bq];omega))) ?_);exact ai (h _ ⟨(vb.2 _ (Ne.symm I.ne)).trans I.obj,Bc,I.ne⟩ vb)
theorem ID{R:Result->Shared->Prop}{vs:List Value}{kw:List (Str×Value)}(X:K.In s.heap)(hm:W.makesIn K C=true)
  (hi:W.findIn K (.ref C) "__init__" =some (some (.ref f))) (hf:W.typeIn K (.ref f)=some (.type "function"))
  (h:codeAny (model prog w) (A.under (.builtin "type.__call__" ⟨.ref C::vs,kw⟩)) (.call (.ref f) ⟨.ref (s.heap.objs.size+1)::vs,kw⟩) (W.InitBack (s.heap.objs.size+1) R)
   {s with heap:=(s.heap.push W.emptyDict).push (W.instObj C s.heap.objs.size)}):
  codeAny (model prog w) A (.call (.ref C) ⟨vs,kw⟩) R s:=by
 obtain⟨hh,g,d,t,os⟩:=s;exact W.make_core (W.makes_of X hm) (W.looks_findIn X hi) (fun self=>W.bind_fn X self hf) (.inl rfl) h
end
noncomputable def bZ(f:Str)(v:V):List (Str×V)->List (Str×V)
 |[]=>[(f,v)]
 |(g,x)::r=>if g=f then(g,v)::r else(g,x)::bZ f v r
theorem bS(f g:Str)(v:V):∀fs:List (Str×V),(bZ f v fs).lookup g=if g=f then some v else fs.lookup g
 |[]=>by
  show List.lookup g [(f,v)]=_
  by_cases h:g=f
  ·have hb:(g==f)=true:=beq_iff_eq.mpr h;simp only[List.lookup,hb,ah h]
  ·have hb:(g==f)=false:=beq_eq_false_iff_ne.mpr h;simp only[List.lookup,hb,af h]
 |(k,x)::r=>by
  have ih:=bS f g v r;rw[show bZ f v ((k,x)::r)=(if k=f then(k,v)::r else(k,x)::bZ f v r)from rfl];by_cases hk:k=f
  ·rw[ah hk];by_cases h:g=k
   ·have hb:(g==k)=true:=beq_iff_eq.mpr h;simp only[List.lookup,hb,ah (h.trans hk)]
   ·have hb:(g==k)=false:=beq_eq_false_iff_ne.mpr h;simp only[List.lookup,hb,af (fun e:g=f=>h (e.trans hk.symm))]
  ·rw[af hk];by_cases h:g=k
   ·have hb:(g==k)=true:=beq_iff_eq.mpr h;simp only[List.lookup,hb,af (fun e:g=f=>hk (h.symm.trans e))]
   ·have hb:(g==k)=false:=beq_eq_false_iff_ne.mpr h;simp only[List.lookup,hb];exact ih
theorem pS(f:Str)(v:V):∀fs:List (Str×V),f∈(bZ f v fs).map (·.1)/\∀g,g∈fs.map (·.1)->g∈(bZ f v fs).map (·.1)
 |[]=>⟨by simp[bZ],fun g h=>by simp at h⟩
 |(k,x)::r=>by
  obtain⟨i1,i2⟩:=pS f v r;rw[show bZ f v ((k,x)::r)=(if k=f then(k,v)::r else(k,x)::bZ f v r)from rfl];by_cases hk:k=f
  ·rw[ah hk];subst hk;exact⟨by simp,fun g h=>by simpa using h⟩
  ·rw[af hk];refine⟨?_,fun g h=>?_⟩
   ·rw[bo];exact aq _ i1
   ·rw[bo]at h ⊢;rcases ar.mp h with e|e
    ·exact ar.mpr (.inl e)
    ·exact aq _ (i2 g e)
theorem dQ(f:Str)(v:V):∀fs:List (Str×V),(bZ f v fs).length<=fs.length+1
 |[]=>by simp[bZ]
 |(k,x)::r=>by
  have ih:=dQ f v r;rw[show bZ f v ((k,x)::r)=(if k=f then(k,v)::r else(k,x)::bZ f v r)from rfl];by_cases hk:k=f
  ·rw[ah hk,bq,bq];omega
  ·rw[af hk,bq,bq];omega
theorem mX.some_of{v:V}{o:Option Value}(r:mX (some v) o):∃u,o=some u/\RelV v u:=by
 cases o with
 |none=>exact(show False from r).elim
 |some u=>exact⟨u,rfl,r⟩
theorem F9{v:V}{u:Value}(r:RelV v u):W.handedIn u=true:=by
 cases v with
 |non=>cases (show u=Value.none from r);rfl
 |bl b=>cases (show u=Value.bool b from r);rfl
 |int i=>obtain⟨t,e⟩:=(show∃t,u=Value.int i t from r);cases e;rfl
 |str x=>obtain⟨t,e⟩:=(show∃t,u=Value.str x t from r);cases e;rfl
 |byt b=>obtain⟨t,e⟩:=(show∃t,u=Value.bytes b t from r);cases e;rfl
 |flt b=>obtain⟨t,e⟩:=(show∃t,u=Value.float b t from r);cases e;rfl
 |ref a=>cases (show u=Value.ref a from r);rfl
 |ty n=>cases (show u=Value.type n from r);rfl
section
variable {P:Program}{w:World}{H H':Hp}{h h':Heap}{a C dx:Addr}{fs fs':List (Str×V)}
theorem DF(hok:HOk P w H h)(e:H a=some (.ins C dx fs)):∃mA,G5 h a dx C mA/\(∀f,mX (fs.lookup f) (mA f))/\PySem.Within mA (fs.map (·.1))/\fs.length<=1000/\H dx=some (.own a):=by obtain⟨d,z,ne,ob,mA,n,r,q⟩:=(show dG P w H h a (.ins C dx fs)from hok a _ e);exact⟨mA,⟨ob,n,ne⟩,r,q,z,d⟩
end
structure Cls(K:W.Frag)(C:Addr):Prop where
 pg:W.plainGet K C Str.empty=true
 hd:W.hasDictIn K C=true
 po:W.plainOver K C=true
 sa:W.findIn K (.ref C) "__setattr__" =some (some (.builtin "object.__setattr__"))
theorem Cls.get{K:W.Frag}{C:Addr}(c:Cls K C)(f:Str):W.plainGet K C f=true:=c.pg
def g9(K:W.Frag)(C:Addr)(f:Str):Prop:=W.findIn K (.ref C) f=some none
theorem g9.NR{K:W.Frag}{C:Addr}{f:Str}(n:g9 K C f):W.takerIn K C f=some none:=by unfold W.takerIn;rw[show W.findIn K (.ref C) f=some none from n];rfl
section
variable {X:Cx}{jx:List (Addr×Obj)}{σ:St}{H:Hp}{s:Shared}{a C dx:Addr}{fs:List (Str×V)}{f:Str}{v:V}{A:Around}{E:Value->Shared->Prop}
theorem BU{b:Bool}{Q:Value->Shared->Prop}(I:Inv X jx σ H s)(e:H a=some (.ins C dx fs))(c:Cls X.K C)(n:g9 X.K C f)(l:fs.lookup f=some v)
  (h:∀u s',Inv X jx σ H s'->RelV v u->Q u s'):wpAny (model X.prog X.w) A (getAttr (.ref a) f b) Q E s:=by
 obtain⟨mA,O,r,_,_,_⟩:=DF I.hok e;obtain⟨u,hu,ru⟩:=mX.some_of (v:=v) (o:=mA f) (by rw[<- l];exact r f);exact get_map I.kIn O (c.get f) c.hd n hu (F9 ru) (h u _ (I.tok _) ru)
theorem AR{y:V}{u:Value}{Q:Unit->Shared->Prop}(I:Inv X jx σ H s)(e:H a=some (.ins C dx fs))(c:Cls X.K C)(n:g9 X.K C f)(hl:fs.length<1000)(ry:RelV y u)
  (h:∀s',Inv X jx σ (upd H a (.ins C dx (bZ f y fs))) s'->Q () s'):wpAny (model X.prog X.w) A (setAttr (.ref a) f u) Q E s:=by
 obtain⟨mA,O,r,wi,_,ho⟩:=DF I.hok e;have hz:(fs.map (·.1)).length<=sizeLine:=by rw[ag,sizeLine_eq];omega
 refine JT I.kIn O c.sa c.po n.NR c.hd wi hz fun h' O' sb=>h _ ?_
 have hd:∃o,h'.get? dx=some o:=let⟨o,_,_,e',_⟩:=O'.ns;⟨o,e'⟩
 refine I.write (x:=a) (e:=dx) (by rw[e];exact True.intro) (.inr ho) (fun b q hb z=>(sb.2 b hb).trans z) hd ?_;refine⟨by rw[aB O.ne];exact ho,?_,O.ne,O'.obj,_,O'.ns,fun g=>?_,fun g hg=>?_⟩
 ·have:=dQ f y fs;omega
 ·show mX ((bZ f y fs).lookup g) (if g=f then some u else mA g)
  rw[bS];by_cases q:g=f
  ·rw[ah q,ah q];exact ry
  ·rw[af q,af q];exact r g
 ·by_cases q:g=f
  ·rw[q];exact(pS f y fs).1
  ·refine(pS f y fs).2 g (wi g fun z=>hg ?_);show(if g=f then some u else mA g)=none
   rw[af q];exact z
theorem Inv.made(I:Inv X jx σ H s):Inv X jx σ (upd (upd H s.heap.objs.size (.own (s.heap.objs.size+1))) (s.heap.objs.size+1) (.ins C s.heap.objs.size []))
  {s with heap:=(s.heap.push W.emptyDict).push (W.instObj C s.heap.objs.size)}:=by
 have e1:(s.heap.push W.emptyDict).get? s.heap.objs.size=some W.emptyDict:=bc s.heap rfl;have e2:((s.heap.push W.emptyDict).push (W.instObj C s.heap.objs.size)).get? (s.heap.objs.size+1)=some (W.instObj C s.heap.objs.size):=by
  have:=bc (s.heap.push W.emptyDict) (o:=W.instObj C s.heap.objs.size) rfl
  rwa [fy]at this
 have e3:(s.heap.push W.emptyDict).Ns s.heap.objs.size (fun _=>none):=⟨W.emptyDict,#[],_,e1,rfl,(fun e he=>absurd he (by simp)),fun _=>rfl⟩;have I1:=I.laid (a:=s.heap.objs.size) (o:=.own (s.heap.objs.size+1)) (h':=s.heap.push W.emptyDict) (t':=s.toks) (fun b u q=>ao _ q) (ay _) ⟨_,e1⟩;refine I1.laid (a:=s.heap.objs.size+1) (o:=.ins C s.heap.objs.size []) (t':=s.toks) (fun b u q=>ao _ q) (ie (fy _ _)) ?_;have ne:s.heap.objs.size≠s.heap.objs.size+1:=da (Nat.lt_succ_self _);refine⟨by rw[aB ne,a8],cj _,ne,e2,fun _=>none,(Heap.Ns1.of_empty e3).at fun o q=>ao _ q,fun _=>True.intro,fun y hy=>absurd rfl hy⟩
theorem LB{prog:Program}{w:World}{env:Env}{e:Expr}{f:Str}{pos:Pos}{s:Shared}{Q:Value->Shared->Prop}(hb:attributeBase e f env (eval e env)=eval e env)
  (h:wpAny (model prog w) A (eval e env) (fun o s₁=>wpAny (model prog w) A (getAttr o f true) Q E s₁) E s):wpAny (model prog w) A (eval (.Attribute e f pos) env) Q E s:=
 Attribute_any_ h (by rw[arm_eval_Attribute,hb])
end
noncomputable def NZ(K:W.Frag)(ta:TE)(f:Str):TE:=fun σ H Q=>ta σ H fun x H1=>∃a C dx fs v,x=.ref a/\H1 a=some (.ins C dx fs)/\Cls K C/\g9 K C f/\fs.lookup f=some v/\Q v H1
noncomputable def TM(K:W.Frag)(ta tv:TE)(f:Str):TS:=fun D σ H=>tv σ H fun y H1=>ta σ H1 fun x H2=>∃a C dx fs,x=.ref a/\H2 a=some (.ins C dx fs)/\Cls K C/\g9 K C f/\fs.length<1000/\
 D.nx σ (upd H2 a (.ins C dx (bZ f y fs)))
section
variable {X:Cx}{o e kq:Expr}{f:Str}{pos lj nu:Pos}{ta tv:TE}
theorem gP(he:PE X e ta)(hb:attributeBase e f X.env (eval e X.env)=eval e X.env):PE X (.Attribute e f pos) (NZ X.K ta f):=by intro jx s σ H Q I h;refine LB hb (thn (he jx s σ H _ I h) fun u s1 ⟨x,H1,I1,rx,a,C,dx,fs,v,ex,ea,c,n,l,q⟩=>?_);subst ex;obtain rfl:u=Value.ref a:=rx;exact BU I1 ea c n l fun u' s2 I2 ru=>⟨v,H1,I2,ru,q⟩
theorem pK(ha:PE X o ta)(hv:PE X kq tv)(hs:swapsWith kq (some (.Attribute o f lj)) pos.line X.env=pure false):PS X (.Assign [.Attribute o f lj] kq pos) (TM X.K ta tv f):=by intro jx s σ H D I h;refine plainObj_wpAny_Assign_Attribute (thn (hv jx s σ H _ I h) fun u s1 ⟨y,H1,I1,ry,q⟩=>thn (ha jx s1 σ H1 _ I1 q) fun ov s2 ⟨x,H2,I2,rx,a,C,dx,fs,ex,ea,c,n,l,q2⟩=>?_) hs;subst ex;obtain rfl:ov=Value.ref a:=rx;exact AR I2 ea c n l ry fun s3 I3=>⟨σ,_,I3,q2⟩
end
structure cY(k:Nat)(A:Around):Prop where
 hd:A.handled=none
 dp:A.depth+3*k+5<recursionLimit
 un:A.units+16*k+200<cLine
theorem cY.mono{j k:Nat}{A:Around}(r:cY k A)(h:j<=k):cY j A:=⟨r.hd,by have:=r.dp;omega,by have:=r.un;omega⟩
theorem cY.deeper{k:Nat}{A:Around}(r:cY (k+1) A)(env:Env):cY k (A.deeper env):=
 ⟨r.hd,by have:=r.dp;show A.depth+1+3*k+5< _;omega,by have:=r.un;show A.units+3+16*k+200< _;omega⟩
theorem cY.in1{k:Nat}{A:Around}(r:cY (k+1) A):cY k A.in1:=
 ⟨r.hd,by have:=r.dp;show A.depth+3*k+5< _;omega,by have:=r.un;show A.units+1+16*k+200< _;omega⟩
theorem BF{A:Around}{C:Addr}{us:List Value}{kw:List (Str×Value)}:(A.under (.builtin "type.__call__" ⟨.ref C::us,kw⟩)).depth=A.depth+1:=by first|rfl|simp[Around.under,Code.weight,Code.isCreation,Code.isGuard,Code.isCaller,Code.frames,Code.isFrame,guardIds]
theorem BE{A:Around}{C:Addr}{us:List Value}{kw:List (Str×Value)}:(A.under (.builtin "type.__call__" ⟨.ref C::us,kw⟩)).units=A.units+1:=by first|rfl|simp[Around.under,Code.cUnits,Code.frames,Code.isFrame]
theorem cY.make{k:Nat}{A:Around}(r:cY (k+1) A)(C:Addr)(us:List Value)(kw:List (Str×Value)):cY k (A.under (.builtin "type.__call__" ⟨.ref C::us,kw⟩)):=
 ⟨r.hd,by have:=r.dp;rw[BF];omega,by have:=r.un;rw[BE];omega⟩
theorem cY.depth{k:Nat}{A:Around}(r:cY k A):A.depth<recursionLimit:=by have:=r.dp;omega
theorem cY.units{k:Nat}{A:Around}(r:cY k A):A.units+64<cLine:=by have:=r.un;omega
def JP:TA:=fun _ H Q=>Q [] H
noncomputable def CK(ta:TE)(tr:TA):TA:=fun σ H Q=>ta σ H fun x H1=>tr σ H1 fun xs H2=>Q (x::xs) H2
section
variable {X:Cx}{e:Expr}{es:List Expr}{te:TE}{t:TA}{pos:Pos}
theorem aD:PA X [] JP:=fun _ _ _ _ H Q I h=>Calls.spliced_nil ⟨[],H,I,.nil,h⟩
theorem a7(ha:PE X e te)(hr:PA X es t)(hs:starEach (e::es) X.env=(false,eval e X.env)::starEach es X.env:=by rfl):PA X (e::es) (CK te t):=by
 intro pos jx s σ H Q I h;rw[hs];show wpAny _ _ (spliced ((false,eval e X.env)::backTo pos (starEach es X.env))) _ _ s
 refine Calls.spliced_cons (thn (ha jx s σ H _ I h) fun u s1 ⟨x,H1,I1,r1,q1⟩=>?_);exact thn (hr pos jx s1 σ H1 _ I1 q1) fun us s2 ⟨xs,H2,I2,r2,q2⟩=>⟨x::xs,H2,I2,.cons r1 r2,q2⟩
noncomputable def SY(t:TA):TE:=fun σ H Q=>t σ H fun xs H1=>xs.length<=sizeLine/\∀p,H1 p=none->Q (.ref p) (upd H1 p (.tup xs))
noncomputable def T6(t:TA):TE:=fun σ H Q=>t σ H fun xs H1=>xs.length<=sizeLine/\∀p,H1 p=none->Q (.ref p) (upd H1 p (.lst xs))
theorem d4{x1}(h:PA X es t):PE X (.Tuple es x1 pos) (SY t):=by intro jx s σ H Q I hq;refine wpAny_Tuple_spliced (thn (h pos jx s σ H _ I hq) fun us s1 ⟨xs,H1,I1,r,z,q⟩=>⟨by rw[<- r.length];exact z,?_⟩);have hf:H1 s1.heap.objs.size=none:=I1.hok.fresh (ay _);refine⟨.ref s1.heap.objs.size,upd H1 s1.heap.objs.size (.tup xs),I1.laid (t':=s1.toks) (fun b u e=>ao _ e) (ay _) ?_,rfl,q _ hf⟩;exact⟨z,us,r,⟨_,bc _ rfl,rfl,_,rfl⟩⟩
theorem eZ(h:PA X es t):PE X (.List es pos) (T6 t):=by intro jx s σ H Q I hq;refine wpAny_List_spliced (thn (h pos jx s σ H _ I hq) fun us s1 ⟨xs,H1,I1,r,z,q⟩=>⟨by rw[<- r.length];exact z,?_⟩);have hf:H1 s1.heap.objs.size=none:=I1.hok.fresh (ay _);refine⟨.ref s1.heap.objs.size,upd H1 s1.heap.objs.size (.lst xs),I1.laid (t':=s1.toks) (fun b u e=>ao _ e) (ay _) ?_,rfl,q _ hf⟩;exact⟨z,us,0,r,bc _ rfl⟩
end
abbrev Sp:=List V->Hp->VK->XK->Prop
abbrev CXT:=List Env->Hp->Shared->XK->Value->Shared->Prop
structure oZ(P:Program)(w:World)(K:W.Frag)(mg:Str->Option Value)(base:Heap)(A:Around)(outer:List Env)(s:Shared)(H:Hp):Prop where
 frames:A.frames=some outer
 mod:Mod K mg base
 bs:∀b o,base.get? b=some o->s.heap.get? b=some o/\H b=none
 bsz:base.objs.size<=s.heap.objs.size
 kO:s.heap.FunFrames base outer
 frf:∀b∈frs outer,H b=none
 hok:HOk P w H s.heap
 bare:AllBare s.gens
noncomputable def CE(outer:List Env)(P:Program)(w:World)(H:Hp)(s:Shared)(Q:VK)(u:Value)(s':Shared):Prop:=
 ∃v H',s'.os=s.os/\AllBare s'.gens/\Un (frs outer) [] H H' s.heap s'.heap/\HOk P w H' s'.heap/\RelV v u/\Q v H'
noncomputable def CR(CX:CXT)(outer:List Env)(P:Program)(w:World)(H:Hp)(s:Shared)(Q:VK)(E:XK)(r:Result)(s':Shared):Prop:=
 match r with
 | .ok (.ret u)=>CE outer P w H s Q u s'
 | .ok _=>False
 | .error e=>CX outer H s E e s'
structure bO(P:Program)(w:World)(K:W.Frag)(mg:Str->Option Value)(base:Heap)(CX:CXT)(k:Nat)(f:Addr)(fd:FuncData)(ps:List Str)(sp:Sp):Prop where
 len:∀vs H Q E,sp vs H Q E->vs.length=ps.length
 run:∀(A:Around)(outer:List Env)(s:Shared)(H:Hp)(args:Args)(us:List Value)(vs:List V)(Q:VK)(E:XK),cY k A->oZ P w K mg base A outer s H->BindsTo s fd args (ps.zip us)->Vals vs us->sp vs H Q E ->
  codeAny (model P w) A (.call (.ref f) args) (CR CX outer P w H s Q E) s
theorem oZ.make{P:Program}{w:World}{K:W.Frag}{mg:Str->Option Value}{base:Heap}{A:Around}{outer:List Env}{s:Shared}{H:Hp}(e:oZ P w K mg base A outer s H)(C:Addr)(us:List Value)(kw:List (Str×Value)):
  oZ P w K mg base (A.under (.builtin "type.__call__" ⟨.ref C::us,kw⟩)) outer s H:=⟨by first|exact e.frames|(simpa[Around.under,Code.envs,Code.isFrame,pushEnvs]using e.frames),e.mod,e.bs,e.bsz,e.kO,e.frf,e.hok,e.bare⟩
theorem oZ.in1{P:Program}{w:World}{K:W.Frag}{mg:Str->Option Value}{base:Heap}{A:Around}{outer:List Env}{s:Shared}{H:Hp}(e:oZ P w K mg base A outer s H):
  oZ P w K mg base A.in1 outer s H:=⟨e.frames,e.mod,e.bs,e.bsz,e.kO,e.frf,e.hok,e.bare⟩
section
variable {X:Cx}{jx:List (Addr×Obj)}{σ:St}{H:Hp}{s s':Shared}
theorem Inv.J7(I:Inv X jx σ H s):oZ X.prog X.w X.K X.mg X.base X.A X.stack s H:=
 ⟨I.ok.frames,I.ok.mod,I.bs,df I.ok.bsz I.sz,I.stack,I.wO,I.hok,I.bare⟩
theorem Inv.after{Q:VK}{u:Value}(I:Inv X jx σ H s)(h:CE X.stack X.prog X.w H s Q u s'):EP X jx σ Q u s':=by obtain⟨v,H',os,bare,un,hok,r,q⟩:=h;obtain⟨hh,g,d,t,os'⟩:=s';obtain rfl:os'=s.os:=os;exact⟨v,H',I.call (h':=hh) (g':=g) (d':=d) (t':=t) (ch:=[]) un hok bare (fun b z=>absurd z (by simp)),r,q⟩
end
noncomputable def xY(sp:Sp)(sf:List V)(E:XK)(t:TA):TE:=fun σ H Q=>t σ H fun vs H1=>sp (vs++sf) H1 Q E
noncomputable def NX(C:Addr)(sp:Sp)(sf:List V)(E:XK)(t:TA):TE:=fun σ H Q=>t σ H fun vs H1=>∀x dx,H1 x=none->H1 dx=none->dx≠x ->
 sp (.ref x::(vs++sf)) (upd (upd H1 dx (.own x)) x (.ins C dx [])) (fun v H2=>v=.non/\Q (.ref x) H2) E
noncomputable def Binds(K:W.Frag)(fd:FuncData)(ps:List Str)(ds:List Value):Prop:=
 ∀(s:Shared)(us:List Value),K.In s.heap->(us++ds).length=ps.length->BindsTo s fd ⟨us,[]⟩ (ps.zip (us++ds))
theorem Binds.all{K:W.Frag}{fd:FuncData}{ps:List Str}(h:∀us:List Value,us.length=ps.length->bindArgs fd ⟨us,[]⟩=pure (ps.zip us)):Binds K fd ps []:=fun s us _ hl=>by rw[dc]at hl ⊢;exact .of_eq (h us hl)
noncomputable def Passes(CX:CXT)(X:Cx)(E:XK):Prop:=∀(jx:List (Addr×Obj))(σ:St)(H:Hp)(s:Shared)(e:Value)(s':Shared),Inv X jx σ H s->CX X.stack H s E e s'->X.xe e s'
section
variable {X:Cx}{CX:CXT}{k:Nat}{f C:Addr}{fd:FuncData}{ps:List Str}{sp:Sp}{sf:List V}{ds:List Value}{E:XK}{x m:Str}{p pos md:Pos}{e o:Expr}{es:List Expr}{ta:TE}{t:TA}
theorem MC{jx:List (Addr×Obj)}{σ:St}{H:Hp}{s:Shared}{Q:VK}{us:List Value}{vs:List V}(F:bO X.prog X.w X.K X.mg X.base CX k f fd ps sp)(hr:cY k X.A)(hb:Binds X.K fd ps ds)(hd:Vals sf ds)(hx:Passes CX X E)
  (I:Inv X jx σ H s) (r:Vals vs us) (h:sp (vs++sf) H Q E):wpAny (model X.prog X.w) X.A (call (.ref f) us) (EP X jx σ Q) X.xe s:=by
 have r2:Vals (vs++sf) (us++ds):=r.append hd;have hl:(us++ds).length=ps.length:=by rw[<- r2.length];exact F.len _ _ _ _ h
 refine wpAny_call (codeAny_mono (F.run X.A X.stack s H ⟨us,[]⟩ (us++ds) (vs++sf) Q E hr I.J7 (hb s us I.kIn hl) r2 h) fun r s' hq=>?_);cases r with
 |error e=>exact hx jx σ H s e s' I hq
 |ok fl=>
  cases fl with
  |ret u=>exact I.after hq
  |next=>exact False.elim hq
  |brk=>exact False.elim hq
  |cont=>exact False.elim hq
theorem K3(F:bO X.prog X.w X.K X.mg X.base CX k f fd ps sp)(hr:cY k X.A)(hg:Gl X x)(hm:X.mg x=some (.ref f))(hk:W.keepIn X.K (.ref f)=true)(hb:Binds X.K fd ps ds)(hd:Vals sf ds)(hx:Passes CX X E)
  (ha:PA X (e::es) t) (ve:(x==("__debug__" : Str))=false:=by decide) (he:starEach (e::es) X.env=(false,eval e X.env)::starEach es X.env:=by rfl) (uc:(backTo pos (starEach es X.env)).any (·.1)=false:=by rfl):
  PE X (.Call (.Name x p) (e::es) [] pos) (xY sp sf E t):=by
 intro jx s σ H Q I h;refine wpAny_Call_Name_kw (jH I hg hm ?_ ve);refine W.callWith_K (h₀:=X.base) I.ok.mod.kin hk (thn (ha pos jx s σ H _ I h) fun us s1 ⟨vs,H1,I1,r,q⟩=>⟨I1.kIn,?_⟩) he uc;exact MC F hr hb hd hx I1 r q
structure Mk(K:W.Frag)(C f:Addr):Prop where
 makes:W.makesIn K C=true
 init:W.findIn K (.ref C) "__init__" =some (some (.ref f))
 fn:W.isFn K (.ref f)=true
 kp:W.keepIn K (.ref C)=true
theorem GR{jx:List (Addr×Obj)}{σ:St}{H:Hp}{s:Shared}{Q:VK}{us:List Value}{vs:List V}(M:Mk X.K C f)(F:bO X.prog X.w X.K X.mg X.base CX k f fd ps sp)(hr:cY (k+1) X.A)(hb:Binds X.K fd ps ds)(hd:Vals sf ds)
  (hx:Passes CX X E) (I:Inv X jx σ H s) (r:Vals vs us)
  (h:∀x dx,H x=none->H dx=none->dx≠x->sp (.ref x::(vs++sf)) (upd (upd H dx (.own x)) x (.ins C dx [])) (fun v H2=>v=.non/\Q (.ref x) H2) E):
  wpAny (model X.prog X.w) X.A (call (.ref C) us) (EP X jx σ Q) X.xe s:=by
 have hq:=h (s.heap.objs.size+1) s.heap.objs.size (I.hok.fresh (Nat.le_succ _)) (I.hok.fresh (ay _)) (da (Nat.lt_succ_self _));have I2:=Inv.made (C:=C) I;have r2:Vals (V.ref (s.heap.objs.size+1)::(vs++sf)) (Value.ref (s.heap.objs.size+1)::(us++ds)):=.cons rfl (r.append hd);have hl:(Value.ref (s.heap.objs.size+1)::us++ds).length=ps.length:=by have e:=r2.length;rw[F.len _ _ _ _ hq]at e;exact e.symm
 refine wpAny_call (ID (f:=f) I.kIn M.makes M.init (beq_iff_eq.mp M.fn) (codeAny_mono (F.run _ X.stack _ _ ⟨Value.ref (s.heap.objs.size+1)::us,[]⟩ (Value.ref (s.heap.objs.size+1)::(us++ds)) _ _ E (hr.make C us [])
  (I2.J7.make C us []) (hb _ (Value.ref (s.heap.objs.size+1)::us) I2.kIn hl) r2 hq) fun r s' qg=>?_))
 cases r with
 |error e=>exact hx jx σ _ _ e s' I2 qg
 |ok fl=>
  cases fl with
  |ret u=>obtain⟨v,H',I3,rv,ev,q3⟩:=I2.after qg;subst ev;exact⟨rv,⟨V.ref (s.heap.objs.size+1),H',I3,rfl,q3⟩⟩
  |next=>exact False.elim qg
  |brk=>exact False.elim qg
  |cont=>exact False.elim qg
theorem K1(M:Mk X.K C f)(F:bO X.prog X.w X.K X.mg X.base CX k f fd ps sp)(hr:cY (k+1) X.A)(hg:Gl X x)(hm:X.mg x=some (.ref C))(hb:Binds X.K fd ps ds)(hd:Vals sf ds)(hx:Passes CX X E)
  (ha:PA X (e::es) t) (ve:(x==("__debug__" : Str))=false:=by decide) (he:starEach (e::es) X.env=(false,eval e X.env)::starEach es X.env:=by rfl) (uc:(backTo pos (starEach es X.env)).any (·.1)=false:=by rfl):
  PE X (.Call (.Name x p) (e::es) [] pos) (NX C sp sf E t):=by
 intro jx s σ H Q I h;refine wpAny_Call_Name_kw (jH I hg hm ?_ ve);refine W.callWith_K (h₀:=X.base) I.ok.mod.kin M.kp (thn (ha pos jx s σ H _ I h) fun us s1 ⟨vs,H1,I1,r,q⟩=>⟨I1.kIn,?_⟩) he uc;exact GR M F hr hb hd hx I1 r q
end
structure aM(N P:List Str)(sc:Scope):Prop where
 kind:sc.kind=.function
 co:sc.isCoroutine=false
 gen:sc.isGenerator=false
 nd:N.Nodup
 pre:N.take P.length=P
 par:∀x∈P,sc.names.lookup x=some .local\/sc.names.lookup x=some .cell
 MK:∀y∈sc.names,y.2≠ .free
theorem wC{kindOf:Str->Option NameKind}{x:Str}:∀{binds:List (Str×Value)}{m:Str->Option Value},(∀v,(x,v)∉binds)->bindL kindOf binds m x=m x
 |[],_,_=>rfl
 |(n,v)::r,m,h=>by
  unfold bindL;rw[wC fun w hw=>h w (aq _ hw)];split
  ·have:x≠n:=by rintro rfl;exact h v bj
   simp[this]
  ·rfl
theorem wF{kindOf:Str->Option NameKind}{x:Str}:∀{binds:List (Str×Value)}{m:Str->Option Value},(∀v,(x,v)∉binds)->bindC kindOf binds m x=m x
 |[],_,_=>rfl
 |(n,v)::r,m,h=>by
  unfold bindC;rw[wF fun w hw=>h w (aq _ hw)];split
  ·rfl
  ·have:x≠n:=by rintro rfl;exact h v bj
   simp[this]
theorem wD{kindOf:Str->Option NameKind}{x:Str}{v:Value}:∀{P:List Str}{vs:List Value}{i:Nat}{m:Str->Option Value},P.Nodup->P[i]? =some x->vs[i]? =some v->kindOf x=some .local ->
  bindL kindOf (P.zip vs) m x=some v
 |[],_,_,_,_,h,_,_=>by simp at h
 |_::_,[],_,_,_,_,h,_=>by simp at h
 |p::P,w::vs,0,m,nd,h1,h2,hk=>by
  simp at h1 h2;subst h1;subst h2;show bindL kindOf ((p,w)::P.zip vs) m p=_
  unfold bindL;rw[wC fun v hv=>(de.mp nd).1 (of_mem_zip hv).1,ah hk];simp
 |p::P,w::vs,i+1,m,nd,h1,h2,hk=>by
  show bindL kindOf ((p,w)::P.zip vs) m x=_
  unfold bindL;exact wD (i:=i) (de.mp nd).2 (by simpa using h1) (by simpa using h2) hk
theorem wG{kindOf:Str->Option NameKind}{x:Str}{v:Value}:∀{P:List Str}{vs:List Value}{i:Nat}{m:Str->Option Value},P.Nodup->P[i]? =some x->vs[i]? =some v->kindOf x≠some .local ->
  bindC kindOf (P.zip vs) m x=some v
 |[],_,_,_,_,h,_,_=>by simp at h
 |_::_,[],_,_,_,_,h,_=>by simp at h
 |p::P,w::vs,0,m,nd,h1,h2,hk=>by
  simp at h1 h2;subst h1;subst h2;show bindC kindOf ((p,w)::P.zip vs) m p=_
  unfold bindC;rw[wF fun v hv=>(de.mp nd).1 (of_mem_zip hv).1,af hk];simp
 |p::P,w::vs,i+1,m,nd,h1,h2,hk=>by
  show bindC kindOf ((p,w)::P.zip vs) m x=_
  unfold bindC;exact wG (i:=i) (de.mp nd).2 (by simpa using h1) (by simpa using h2) hk
noncomputable def start(N:List Str)(vs:List V):St:=vs.map some++List.replicate (N.length - vs.length) none
noncomputable def uN(CX:CXT)(P:Program)(w:World)(K:W.Frag)(mg:Str->Option Value)(base:Heap)(N:List Str)(qual:Str)(scope:Scope)(f:Addr)(cd:Value)(A:Around)(outer:List Env)(s:Shared)(H:Hp)(E:XK):Cx where
 prog:=P
 w:=w
 K:=K
 mg:=mg
 base:=base
 A:=A.deeper (envOfC qual scope s.heap.objs.size f cd)
 N:=N
 s_0:=s
 H_0:=H
 env:=envOfC qual scope s.heap.objs.size f cd
 outer:=outer
 stack:=envOfC qual scope s.heap.objs.size f cd::outer
 ex:=[]
 calm:=true
 fn:=fun _=>true
 pn:=[]
 xe:=fun e s'=>wpAny (model P w) (A.deeper (envOfC qual scope s.heap.objs.size f cd)) (leaving (envOfC qual scope s.heap.objs.size f cd) e) (fun _ ze=>CX outer H s E e ze) (fun e' ze=>CX outer H s E e' ze) s'
theorem zZ{sc:Scope}{n:Nat}{x:Str}(h:sc.names.lookup x=some .cell):∃c,(cellsFrom n sc.names []).lookup x=some c:=by have q:=W.cellsFrom_some sc.names n [] (.inl h);exact Option.isSome_iff_exists.mp q
theorem pU{CX:CXT}{P:Program}{w:World}{K:W.Frag}{mg:Str->Option Value}{base:Heap}{N ps:List Str}{qual:Str}{scope:Scope}{f:Addr}{cd:Value}{A:Around}{outer:List Env}{s s1:Shared}{H:Hp}{E:XK}{us:List Value}{vs:List V}
  (S:aM N ps scope) (hd:A.handled=none) (e0:oZ P w K mg base A outer s H) (hl:vs.length=ps.length) (r:Vals vs us)
  (x:InCallC s s.heap.objs.size (bindL (envOfC qual scope s.heap.objs.size f cd).kindOf (ps.zip us) fun _=>none) (cellsFrom (s.heap.objs.size+1) scope.names []) (bindC (envOfC qual scope s.heap.objs.size f cd).kindOf (ps.zip us) fun _=>none) s1):
  Inv (uN CX P w K mg base N qual scope f cd A outer s H E) [] (start N vs) H s1:=by
 have uc:ps.length<=N.length:=by have:=congrArg List.length S.pre;rw[bw]at this;omega
 obtain⟨h1,tk,rfl,hk⟩:=x.done;have noA:∀b:Addr,b∉ (uN CX P w K mg base N qual scope f cd A outer s H E).ex:=fun b z=>absurd (show b∈([]:List Addr)from z) (by simp)
 refine⟨⟨e0.mod,S.kind,rfl,rfl,ay _,fun y z c h1 h2=>?_,fun y hy=>?_,fun y c _ h=>?_,fun _=>hd,Around.frames_deeper e0.frames,.inr ⟨rfl,rfl⟩,fun b z=>absurd z (noA b),e0.bs,e0.bsz,fun b _ _=>noA b,fun b z=>absurd z (noA b),e0.kO,e0.frf⟩,
  rfl,e0.bare,Un.kept hk,⟨_,x.toInCall.ns,fun i y v h1 h2 h3=>?_⟩,fun y c h=>⟨_,x.cell y c h⟩,e0.hok.fresh (ay _),fun y c h=>?_,fun p hp=>absurd (show p∈([]:List (Addr×Obj))from hp) (by simp),e0.hok.kept hk,?_⟩
 ·exact name_of_addr x.apart (PySem.mem_of_lookup h1) (PySem.mem_of_lookup h2)
 ·have hy:scope.names.lookup y=some .cell\/scope.names.lookup y=some .free:=hy;rcases hy with hy|hy
  ·exact zZ hy
  ·exact absurd rfl (S.MK _ (PySem.mem_of_lookup hy))
 ·exact le_of_lt (x.above y c (PySem.mem_of_lookup h))
 ·have hi:i<vs.length:=by
   unfold start at h2;by_cases hi:i<vs.length
   ·exact hi
   ·rw[dk (by simpa using hi)]at h2;rw[List.getElem?_replicate]at h2;split at h2<;>cases h2
  have ha:vs[i]? =some v:=by
   unfold start at h2;rw[gm (by simpa using hi),ax]at h2;cases e:vs[i]? with
   |none=>rw[e]at h2;cases h2
   |some a=>rw[e]at h2;cases h2;rfl
  obtain⟨u,hu,rv⟩:=r.get ha;have hp:ps[i]? =some y:=by rw[<- S.pre,gb (by omega)];exact h1
  have ndP:ps.Nodup:=by rw[<- S.pre];exact S.nd.sublist (List.take_sublist _ _)
  refine⟨u,rv,?_⟩;rcases S.par y (az hp)with k|k
  ·exact .inl ⟨k,wD ndP hp hu k⟩
  ·obtain⟨c,e⟩:=zZ (n:=s.heap.objs.size+1) k;refine .inr ⟨.inl k,c,e,?_⟩;have q:=x.cell y c e;rw[wG ndP hp hu (by show scope.names.lookup y≠ _;rw[k];decide)]at q;exact q
 ·exact e0.hok.fresh (le_of_lt (x.above y c (PySem.mem_of_lookup h)))
 ·unfold start;show _=N.length
  rw[aj,ag,List.length_replicate];omega
theorem SJ{CX:CXT}{P:Program}{w:World}{K:W.Frag}{mg:Str->Option Value}{base:Heap}{k:Nat}{f:Addr}{name qual:Str}{params:Arguments}{body:List Stmt}{scope:Scope}{dV kV mm pm kc ct oc:Value}{an od:Option Addr}
  {nv:Array (Option Value)}{N ps:List Str}{sp:Sp} (lk:K.lookup f=some ⟨oc,od,.func (W.fnOf name qual params body scope dV kV mm pm an kc ct),nv⟩) (pf:W.codeIn K kc qual=true) (S:aM N ps scope)
  (len:∀vs H Q E,sp vs H Q E->vs.length=ps.length)
  (mi:∀(A:Around)(outer:List Env)(s:Shared)(H:Hp)(vs:List V)(Q:VK)(E:XK),cY k (A.deeper (envOfC qual scope s.heap.objs.size f kc))->sp vs H Q E ->
   ∃t,PSs (uN CX P w K mg base N qual scope f kc A outer s H E) body t/\t {nx:=fun _ H'=>Q .non H',rt:=Q} (start N vs) H):
  bO P w K mg base CX (k+1) f (W.fnOf name qual params body scope dV kV mm pm an kc ct) ps sp:=by
 refine⟨len,fun A outer s H args us vs Q E hr e0 hb r uz=>?_⟩;have hl:=len _ _ _ _ uz;have KX:K.In s.heap:=e0.mod.kin.keeps fun b o e=>(e0.bs b o e).1
 have zi:s.heap.NoLimit:=e0.mod.nolimit.keeps fun b o e=>(e0.bs b o e).1
 have qo:∀y∈ps.zip us,scope.names.lookup y.1=some .local\/(scope.names.lookup y.1=some .cell/\((cellsFrom (s.heap.objs.size+1) scope.names []).lookup y.1).isSome=true):=fun⟨n,v⟩ hy=>by
  rcases S.par n (of_mem_zip hy).1 with q|q
  ·exact .inl q
  ·exact .inr ⟨q,W.cellsFrom_some _ _ _ (.inl q)⟩
 refine codeAny_call_function hr.depth (KX _ _ lk) rfl S.co S.gen rfl (W.codeRec_of KX pf) (hb _ _ _ _ ?_);refine wpAny_newFunctionEnv_cells S.kind qo fun env he s1 x=>?_
 subst he;refine⟨zi.keeps x.toInCall.keep,codeAny_func ?_⟩;obtain⟨t,ht,hq⟩:=mi A outer s H vs Q E (hr.deeper _) uz;have I:Inv (uN CX P w K mg base N qual scope f kc A outer s H E) [] (start N vs) H s1:=pU S hr.hd e0 hl r x;refine wpAny_mono (ht [] s1 (start N vs) H _ I hq) (fun fl s' hs=>?_) fun e s' hs=>hs
 have fin:∀{σ':St}{H':Hp}{v:V}{u:Value},Inv (uN CX P w K mg base N qual scope f kc A outer s H E) [] σ' H' s'->RelV v u->Q v H'->CE outer P w H s Q u s':=
  fun{σ' H' v u} J rv q=>⟨v,H',J.os,J.bare,J.base,J.hok,rv,q⟩
 cases fl with
 |ret u=>obtain⟨v,σ',H',J,rv,q⟩:=hs;exact fin J rv q
 |next=>obtain⟨σ',H',J,q⟩:=hs;exact fin (v:=V.non) (u:=Value.none) J rfl q
 |brk=>obtain⟨_,_,_,q⟩:=hs;exact False.elim q
 |cont=>obtain⟨_,_,_,q⟩:=hs;exact False.elim q
section
variable {X:Cx}{x:Str}{p pos:Pos}{e:Expr}{es:List Expr}{t:TA}{id T:String}{r:List V->Hp->VK->Prop}
noncomputable def tCB(r:List V->Hp->VK->Prop)(t:TA):TE:=fun σ H Q=>t σ H fun vs H1=>r vs H1 Q
theorem bR(hc:lH X (.builtin id) r)(hg:Gl X x)(hm:X.mg x=none)(hv:bootBuiltins x=some (.builtin id))(ha:PA X (e::es) t)(hn:x≠ "__name__" :=by decide)(ve:(x==("__debug__" : Str))=false:=by decide)
  (he:starEach (e::es) X.env=(false,eval e X.env)::starEach es X.env:=by rfl) (uc:(backTo pos (starEach es X.env)).any (·.1)=false:=by rfl):PE X (.Call (.Name x p) (e::es) [] pos) (tCB r t):=by
 intro jx s σ H Q I h;refine wpAny_Call_Name_kw (pR I hg hm hv ?_ hn ve);exact PyProof.Rows.callWith_builtin1 (thn (ha pos jx s σ H _ I h) fun us s1 ⟨vs,H1,I1,r1,q1⟩=>hc jx s1 σ H1 vs us Q I1 r1 q1) he uc
theorem vH(hc:lH X (.type T) r)(hg:Gl X x)(hm:X.mg x=none)(hv:bootBuiltins x=some (.type T))(ha:PA X (e::es) t)(hn:x≠ "__name__" :=by decide)(ve:(x==("__debug__" : Str))=false:=by decide)
  (he:starEach (e::es) X.env=(false,eval e X.env)::starEach es X.env:=by rfl) (uc:(backTo pos (starEach es X.env)).any (·.1)=false:=by rfl):PE X (.Call (.Name x p) (e::es) [] pos) (tCB r t):=by
 intro jx s σ H Q I h;refine wpAny_Call_Name_kw (pR I hg hm hv ?_ hn ve);exact PyProof.Rows.callWith_type1 (thn (ha pos jx s σ H _ I h) fun us s1 ⟨vs,H1,I1,r1,q1⟩=>hc jx s1 σ H1 vs us Q I1 r1 q1) he uc
end
end L2
namespace HT
open PySem PyProof.Rows
section
variable {prog:Program}{w:World}{A:Around}{E:Value->Shared->Prop}{s:Shared}
noncomputable def sIx(n d:Nat):Option Int->Nat
 |none=>d
 |some v=>if v<0 then(v+(n:Int)).toNat else min v.toNat n
end
end HT
namespace L2
open PySem PySem.Spec PyProof.Rows
abbrev TO:=St->Hp->(Option Int->Hp->Prop)->Prop
noncomputable def PO(X:Cx)(e:Option Expr)(t:TO):Prop:=
 ∀(jx:List (Addr×Obj))(s:Shared)(σ:St)(H:Hp)(Q:Option Int->Hp->Prop),Inv X jx σ H s->t σ H Q ->
  wpAny (model X.prog X.w) X.A (evalPart e X.env) (fun u s'=>∃o H',Inv X jx σ H' s'/\IsPart u o/\Q o H') X.xe s
def JO:TO:=fun _ H Q=>Q none H
def NU(t:TE):TO:=fun σ H Q=>t σ H fun x H1=>∃i,x=.int i/\Q (some i) H1
section
variable {X:Cx}{e:Expr}{te:TE}{lo hi:Option Expr}{tl th:TO}{pos p2:Pos}
theorem JZ:PO X none JO:=by intro jx s σ H Q I h;rw[evalPart_none];exact ai ⟨none,H,I,.none,h⟩
theorem JY(h:PE X e te):PO X (some e) (NU te):=by
 intro jx s σ H Q I hw;rw[evalPart_some];refine thn (h jx s σ H _ I hw) fun u s1 ⟨x,H1,I1,r1,q1⟩=>?_
 obtain⟨i,rfl,q⟩:=q1;obtain⟨t,rfl⟩:=r1;exact⟨some i,H1,I1,.int i t,q⟩
noncomputable def SlR(X:Cx)(r:V->Option Int->Option Int->Hp->VK->Prop):Prop:=
 ∀(jx:List (Addr×Obj))(s:Shared)(σ:St)(H:Hp)(x:V)(v vl vu:Value)(lo hi:Option Int)(sl:Addr)(Q:VK),Inv X jx σ H s->RelV x v->s.heap.IsSliceOf sl vl vu .none->IsPart vl lo->IsPart vu hi->r x lo hi H Q ->
  ∃T id,typeLookup (.type T) "__getitem__" =pure (some (.builtin id))/\s.TypeIs v T/\wpAny (model X.prog X.w) X.A (getItem v (.ref sl)) (EP X jx σ Q) X.xe s
noncomputable def tSl(r:V->Option Int->Option Int->Hp->VK->Prop)(te:TE)(tl th:TO):TE:=fun σ H Q=>te σ H fun x H1=>tl σ H1 fun l H2=>th σ H2 fun u H3=>r x l u H3 Q
theorem HF{r:V->Option Int->Option Int->Hp->VK->Prop}(hr:SlR X r)(he:PE X e te)(hl:PO X lo tl)(hu:PO X hi th):PE X (.Subscript e (.Slice lo hi none p2) pos) (tSl r te tl th):=by
 intro jx s σ H Q I h;refine Subscript_ (thn (he jx s σ H _ I h) fun v s1 ⟨x,H1,I1,r1,q1⟩=>?_);refine wpAny_Slice (thn (hl jx s1 σ H1 _ I1 q1) fun vl s2 ⟨l,H2,I2,pl,q2⟩=>thn (hu jx s2 σ H2 _ I2 q2) fun vu s3 ⟨u,H3,I3,pu,q3⟩=>?_);rw[evalPart_none];refine ai ?_;have I4:Inv X jx σ H3 {s3 with heap:=s3.heap.push {cls:=.type "slice",data:=.fields #[vl,vu,.none]}}:=I3.kept (t':=s3.toks) fun b ob q=>ao _ q
 obtain⟨T,id,hT,ht,hg⟩:=hr jx {s3 with heap:=s3.heap.push {cls:=.type "slice",data:=.fields #[vl,vu,.none]}} σ H3 x v vl vu l u s3.heap.objs.size Q I4 r1 (Heap.IsSliceOf.new ..) pl pu q3;show wpAny (model X.prog X.w) X.A (subscriptTail e (.Slice lo hi none p2) v (.ref s3.heap.objs.size)) (EP X jx σ Q) X.xe {s3 with heap:=s3.heap.push {cls:=.type "slice",data:=.fields #[vl,vu,.none]}}
 exact tail_any (ops:=[.ref s3.heap.objs.size,v]) ht hT hg (by with_unfolding_all rfl)
noncomputable def FU(xs:List V)(lo hi:Option Int):List V:=(xs.drop (HT.sIx xs.length 0 lo)).take (HT.sIx xs.length xs.length hi - HT.sIx xs.length 0 lo)
theorem zW(xs:List V)(lo hi:Option Int):(FU xs lo hi).length<=xs.length:=by unfold FU;rw[bw,fk];omega
end
noncomputable def ixN(n:Nat)(i:Int):Option Nat:=if 0<=i then(if i<n then some i.toNat else none)else if -(n:Int)<=i then some (i+n).toNat else none
def atI{α:Type}(xs:List α)(i:Int):Option α:=(ixN xs.length i).bind fun j=>xs[j]?
theorem DB{n:Nat}{i:Int}{j:Nat}(h:ixN n i=some j):seqIndex? i n=some j/\j<n/\-(n:Int)<=i/\i<n:=by
 unfold ixN at h;by_cases h0:0<=i
 ·rw[ah h0]at h;by_cases h1:i<n
  ·rw[ah h1]at h;have e:i.toNat=j:=Option.some.inj h;exact⟨by rw[seqIndex_of h0 h1,e],by omega,by omega,h1⟩
  ·rw[af h1]at h;cases h
 ·rw[af h0]at h;by_cases h1:-(n:Int)<=i
  ·rw[ah h1]at h;have e:(i+n).toNat=j:=Option.some.inj h;exact⟨by rw[seqIndex_neg (by omega) h1,e],by omega,h1,by omega⟩
  ·rw[af h1]at h;cases h
theorem DW{α:Type}{xs:List α}{i:Int}{v:α}(h:atI xs i=some v):∃j,seqIndex? i xs.length=some j/\xs[j]? =some v/\j<xs.length/\-(xs.length:Int)<=i/\i<xs.length:=by
 unfold atI at h;cases e:ixN xs.length i with
 |none=>rw[e]at h;cases h
 |some j=>rw[e]at h;obtain⟨h1,h2,h3,h4⟩:=DB e;exact⟨j,h1,h,h2,h3,h4⟩
theorem LF{α:Type}{xs:List α}{j:Nat}{v:α}(h:xs[j]? =some v):atI xs (j:Int)=some v:=by
 have hj:j<xs.length:=(ak.mp h).1;have e:ixN xs.length (j:Int)=some j:=by unfold ixN;rw[ah (by omega),ah (by omega)];simp
 unfold atI;rw[e];exact h
def LJ(b:Expr):Prop:=∀o i,subscripted b false o i=operate [o,i] (getItem o i)
noncomputable def IxR(X:Cx)(r:R2):Prop:=
 ∀(kq slice:Expr)(jx:List (Addr×Obj))(s:Shared)(σ:St)(H:Hp)(x y:V)(v u:Value)(Q:VK),Inv X jx σ H s->RelV x v->RelV y u->r x y H Q ->
  subscripted slice false v u=operate [v,u] (getItem v u)->wpAny (model X.prog X.w) X.A (subscriptTail kq slice v u) (EP X jx σ Q) X.xe s
noncomputable def MtR(X:Cx)(id:String)(r:V->List V->Hp->VK->Prop):Prop:=
 ∀(jx:List (Addr×Obj))(s:Shared)(σ:St)(H:Hp)(x:V)(xs:List V)(v:Value)(us:List Value)(Q:VK),Inv X jx σ H s->RelV x v->Vals xs us->r x xs H Q ->
  wpAny (model X.prog X.w) X.A (call (.builtin id) (v::us)) (EP X jx σ Q) X.xe s
section
variable {X:Cx}{a b:Expr}{ta tb:TE}{pos:Pos}
theorem bG{r:R2}(hr:IxR X r)(ha:PE X a ta)(hb:PE X b tb)(hs:LJ b):PE X (.Subscript a b pos) (tOp r ta tb):=by intro jx s σ H Q I h;exact Subscript_ (NK ha hb I h fun v u s2 x y H2 I2 rx ry q=>hr a b jx s2 σ H2 x y v u Q I2 rx ry q (hs _ _))
noncomputable def U0(K:W.Frag):R2:=fun x y H Q=>∃p xs i v,x=.ref p/\y=.int i/\SqL K H p xs/\atI xs i=some v/\Q v H
noncomputable def TZ(K:W.Frag):R2:=fun x y H Q=>∃p xs i v,x=.ref p/\y=.int i/\SqT K H p xs/\atI xs i=some v/\Q v H
theorem iA:IxR X (U0 X.K):=by
 intro kq slice jx s σ H x y v u Q I rx ry h hs;obtain⟨p,xs,i,z,rfl,rfl,hq,he,q⟩:=h;cases rx;obtain⟨t,rfl⟩:=ry;obtain⟨its,r,pl,hz⟩:=I.list hq;obtain⟨j,h1,h2,h3,h4,h5⟩:=DW he;obtain⟨w,ew,rf⟩:=r.get h2;have hl:=r.length;have hn:=mP;have fin:EP X jx σ Q w s:=⟨z,H,I,rf,q⟩;by_cases h0:0<=i
 ·have hj:i.toNat=j:=by rw[seqIndex_of h0 h5]at h1;exact Option.some.inj h1
  exact item_listR pl.isList h0 (by omega) (by rw[hj];simpa using ew) fin hs
 ·have hj:(i+(its.toArray.size:Int)).toNat=j:=by rw[seqIndex_neg (by omega) h4]at h1;rw[bg,<- hl];exact Option.some.inj h1
  exact subscriptTail_builtinR (x:=w) pl.isList.typeIs slot_list_getitem.lookup
   (wpAny_getItem_list_neg (Q:=fun r s'=>r=w/\EP X jx σ Q r s') pl.isList (by omega) (by rw[bg]<;>omega) (by omega) (by rw[hj];simpa using ew) ⟨rfl,fin⟩) hs
theorem bB:IxR X (TZ X.K):=by
 intro kq slice jx s σ H x y v u Q I rx ry h hs;obtain⟨p,xs,i,z,rfl,rfl,hq,he,q⟩:=h;cases rx;obtain⟨t,rfl⟩:=ry;obtain⟨its,r,pl,hz⟩:=I.tuple hq;obtain⟨j,h1,h2,h3,h4,h5⟩:=DW he;obtain⟨w,ew,rf⟩:=r.get h2;have hl:=r.length;have hn:=mP;have fin:EP X jx σ Q w s:=⟨z,H,I,rf,q⟩;exact subscriptTail_builtinR (x:=w) pl.typeIs slot_tuple_getitem.lookup
  (getItem_tuple (j:=j) (Q:=fun r s'=>r=w/\EP X jx σ Q r s') pl (by omega) (by omega) (by rw[bg,<- hl];exact h1) (by simpa using ew) ⟨rfl,fin⟩) hs
theorem BD(its:List Value)(n j:Nat)(u:Value):Obj.mapSeq (·.setIfInBounds j u) {cls:=.type "list",data:=.seq its.toArray n}={cls:=.type "list",data:=.seq (its.set j u).toArray n}:=by simp[Obj.mapSeq]
theorem Inv.lst{jx:List (Addr×Obj)}{σ:St}{H:Hp}{s:Shared}{p:Addr}{xs:List V}(I:Inv X jx σ H s)(h:H p=some (.lst xs)):
  ∃(its:List Value)(n:Nat),Vals xs its/\s.heap.get? p=some {cls:=.type "list",data:=.seq its.toArray n}/\xs.length<=sizeLine:=by
 obtain⟨z,its,n,r,e⟩:=I.hok p _ h;exact⟨its,n,r,e,z⟩
theorem Inv.MM{jx:List (Addr×Obj)}{σ:St}{H:Hp}{s:Shared}{p:Addr}{xs ys:List V}{its its':List Value}{n n':Nat}{f:Obj->Obj}(I:Inv X jx σ H s)(h:H p=some (.lst xs))
  (ho:s.heap.get? p=some {cls:=.type "list",data:=.seq its.toArray n}) (hf:f {cls:=.type "list",data:=.seq its.toArray n}={cls:=.type "list",data:=.seq its'.toArray n'}) (r:Vals ys its') (hz:ys.length<=sizeLine) (t:Nat):
  Inv X jx σ (upd H p (.lst ys)) {s with heap:=s.heap.update p f,toks:=t}:=by
 have e:(s.heap.update p f).get? p=some {cls:=.type "list",data:=.seq its'.toArray n'}:=by rw[Heap.get?_update_self f ho (by rw[hf]<;>rfl),hf]
 refine I.write (x:=p) (e:=p) (by rw[h];trivial) (.inl rfl) (fun b u hb q=>(jl _ _ (Ne.symm hb)).trans q) ⟨_,e⟩ ?_;exact⟨hz,its',n',r,e⟩
noncomputable def O9:V->V->V->Hp->(Hp->Prop)->Prop:=fun o i v H Q=>∃p xs k j,o=.ref p/\i=.int k/\H p=some (.lst xs)/\ixN xs.length k=some j/\Q (upd H p (.lst (xs.set j v)))
theorem set_list:SS X O9:=by
 intro jx s σ H o i v ov iv u Q I ro ri rv h;obtain⟨p,xs,k,j,rfl,rfl,hp,hj,q⟩:=h;cases ro;obtain⟨t,rfl⟩:=ri;obtain⟨its,n,r,ho,hz⟩:=I.lst hp;obtain⟨h1,h2,h3,h4⟩:=DB hj;have hl:=r.length;have hn:=mP;have I':Inv X jx σ (upd H p (.lst (xs.set j v))) {s with heap:=s.heap.update p (Obj.mapSeq (·.setIfInBounds j u))}:=
  I.MM hp ho (BD its n j u) (r.set rv j) (by rw[List.length_set];exact hz) s.toks
 by_cases h0:0<=k
 ·have hk:k.toNat=j:=by rw[seqIndex_of h0 h4]at h1;exact Option.some.inj h1
  exact W.ki_setAt ho h0 (by omega) (by rw[bg,<- hl];exact h4) (by rw[hk];exact⟨_,I',q⟩)
 ·have hk:(k+(its.toArray.size:Int)).toNat=j:=by rw[seqIndex_neg (by omega) h3]at h1;rw[bg,<- hl];exact Option.some.inj h1
  exact W.ki_setBack ho (by omega) (by rw[bg,<- hl];exact h3) (by omega) (by rw[hk];exact⟨_,I',q⟩)
theorem wR(lo hi:Option Int)(n:Nat):(sliceBounds lo hi none n).1=((HT.sIx n 0 lo:Nat):Int)/\(sliceBounds lo hi none n).2.1=((HT.sIx n n hi:Nat):Int)/\(sliceBounds lo hi none n).2.2=1:=by
 refine⟨?_,?_,rfl⟩
 ·cases lo with
  |none=>simp[sliceBounds,HT.sIx]
  |some i=>
   simp only[sliceBounds,HT.sIx,Option.getD_none,show(1:Int)>0 by decide,if_true];by_cases h:i<0
   ·simp only[h,if_true]<;>omega
   ·simp only[h,if_false]<;>omega
 ·cases hi with
  |none=>simp[sliceBounds,HT.sIx]
  |some i=>
   simp only[sliceBounds,HT.sIx,Option.getD_none,show(1:Int)>0 by decide,if_true];by_cases h:i<0
   ·simp only[h,if_true]<;>omega
   ·simp only[h,if_false]<;>omega
theorem uH(its:List Value)(lo hi:Option Int):slicePick its.toArray lo hi none=((its.drop (HT.sIx its.length 0 lo)).take (HT.sIx its.length its.length hi - HT.sIx its.length 0 lo)).toArray:=by obtain⟨h1,h2,h3⟩:=wR lo hi its.toArray.size;unfold slicePick;rw[h1,h2,h3];simp only[sliceRange_one,pick_run,bg]<;>rfl
noncomputable def TQ(K:W.Frag):V->Option Int->Option Int->Hp->VK->Prop:=fun x lo hi H Q=>∃a xs,x=.ref a/\SqL K H a xs/\∀p,H p=none->Q (.ref p) (upd H p (.lst (FU xs lo hi)))
theorem JS:SlR X (TQ X.K):=by intro jx s σ H x v vl vu lo hi sl Q I rx hs pl pu h;obtain⟨a,xs,rfl,hx,q⟩:=h;cases rx;obtain⟨its,r,ht,hz⟩:=I.list hx;have km:=r.length;refine⟨"list",_,slot_list_getitem.lookup,ht.isList.typeIs,?_⟩;refine wpAny_getItem_list_slice ht.isList hs pl pu .none (by simp) ?_ (by rw[bg]<;>omega);rw[uH,<- km];refine⟨.ref s.heap.objs.size,_,I.laid (t':=s.toks) (o:=.lst (FU xs lo hi)) (fun b ob q=>ao _ q) (ay _) ?_,rfl,q _ (I.hok.fresh (ay _))⟩;exact⟨df (zW xs lo hi) hz,_,0,(r.drop (HT.sIx xs.length 0 lo)).take (HT.sIx xs.length xs.length hi - HT.sIx xs.length 0 lo),bc _ rfl⟩
theorem bP:lH X (.builtin "len") (fun xs H Q=>∃p ys,xs=[.ref p]/\(SqL X.K H p ys\/SqT X.K H p ys)/\Q (.int ys.length) H):=by
 intro jx s σ H xs us Q I r h;obtain⟨p,ys,rfl,hq,q⟩:=h;obtain⟨u,rfl,rx⟩:=vals1 r;cases rx;have hn:=mP;rcases hq with hq|hq
 ·obtain⟨its,r',pl,hz⟩:=I.list hq;have km:=r'.length;exact Calls.call_len_list pl.isList (by simp only[bg]<;>omega) ⟨.int ys.length,H,I.tok _,⟨s.toks+1,by rw[bg,km]⟩,q⟩
 ·obtain⟨its,r',pl,hz⟩:=I.tuple hq;have km:=r'.length;exact len_tuple pl (by simp only[bg]<;>omega) ⟨.int ys.length,H,I.tok _,⟨s.toks+1,by rw[bg,km]⟩,q⟩
noncomputable def tyV(K:W.Frag)(T:String)(x:V)(H:Hp):Prop:=match x with
 | .str _=>T= "str"
 | .int _=>T= "int"
 | .ref p=>(T= "list" /\∃xs,SqL K H p xs)\/(T= "tuple" /\∃o,K.lookup p=some o/\o.cls=.type "tuple" /\o.dict=none)\/
   (T= "dict" /\((∃kvs,H p=some (.dK kvs))\/∃kvs,H p=some (.dT kvs)))\/(T= "set" /\∃S n,H p=some (.set S n))
 |_=>False
theorem GF{jx:List (Addr×Obj)}{σ:St}{H:Hp}{s:Shared}{T:String}{x:V}{v:Value}(I:Inv X jx σ H s)(r:RelV x v)(ty:tyV X.K T x H):
  s.TypeIs v T/\∀a,v=.ref a->∃ob,s.heap.get? a=some ob/\ob.dict=none:=by
 cases x with
 |str z=>obtain⟨t,rfl⟩:=r;cases (show T= "str" from ty);exact⟨typeIs_str s z t,fun _ e=>nomatch e⟩
 |int i=>obtain⟨t,rfl⟩:=r;cases (show T= "int" from ty);exact⟨typeIs_int s i t,fun _ e=>nomatch e⟩
 |ref p=>
  cases r;rcases ty with⟨rfl,xs,hq⟩|⟨rfl,o,hk,hc,hd⟩|⟨rfl,hk⟩|⟨rfl,S,n,hk⟩
  ·obtain⟨its,_,pl,_⟩:=I.list hq;refine⟨pl.isList.typeIs,fun a e=>?_⟩;cases e;obtain⟨o,n,e,c,hd,_⟩:=pl;exact⟨o,e,hd⟩
  ·refine⟨⟨o,I.kIn p o hk,hc⟩,fun a e=>?_⟩;cases e;exact⟨o,I.kIn _ o hk,hd⟩
  ·have z:∃o,s.heap.get? p=some o/\o.ExactDict:=by
    rcases hk with⟨kvs,hk⟩|⟨kvs,hk⟩
    ·obtain⟨_,_,_,_,o,_,_,e,ex,_⟩:=I.hok p _ hk;exact⟨o,e,ex⟩
    ·obtain⟨_,_,_,_,o,_,_,e,ex,_⟩:=I.hok p _ hk;exact⟨o,e,ex⟩
   obtain⟨o,e,ex⟩:=z;refine⟨⟨o,e,ex.1⟩,fun a e2=>?_⟩;cases e2;exact⟨o,e,ex.2.1⟩
  ·obtain⟨o,_,_,_,e,ex,_⟩:=I.hok p _ hk;refine⟨⟨o,e,ex.1⟩,fun a e2=>?_⟩;cases e2;exact⟨o,e,ex.2.1⟩
 |_=>exact False.elim ty
noncomputable def TC(K:W.Frag)(T:String)(r:V->List V->Hp->VK->Prop)(to:TE):TE:=fun σ H Q=>to σ H fun x H1=>tyV K T x H1/\r x [] H1 Q
noncomputable def tBM(K:W.Frag)(T:String)(r:V->List V->Hp->VK->Prop)(to:TE)(t:TA):TE:=fun σ H Q=>to σ H fun x H1=>tyV K T x H1/\t σ H1 fun xs H2=>r x xs H2 Q
variable {o e:Expr}{es:List Expr}{to:TE}{t:TA}{name:Str}{md kg:Pos}{T id:String}{r:V->List V->Hp->VK->Prop}
theorem AZ(pa:PlainAttrs T)(slot:Slot T name id)(Ck:typeOf (.builtin id)=pure (.type "method_descriptor"))(hm:MtR X id r)(ho:PE X o to)
  (om:attributeBase o name X.env (eval o X.env)=eval o X.env:=by rfl) (ql:(md.endLine==kg.line)=true:=by rfl):PE X (.Call (.Attribute o name md) [] [] kg) (TC X.K T r to):=by
 intro jx s σ H Q I h;refine wpAny_Call_method0_late om ql (thn (ho jx s σ H _ I h) fun v s1 ⟨x,H1,I1,r1,ty,q1⟩=>?_);obtain⟨h1,h2⟩:=GF I1 r1 ty;exact⟨T,id,pa,slot,Ck,h1,h2,Calls.callWith_builtin rfl (PySem.evalArgs_none (hm jx s1 σ H1 x [] v [] Q I1 r1 .nil q1))⟩
theorem gQ(pa:PlainAttrs T)(slot:Slot T name id)(Ck:typeOf (.builtin id)=pure (.type "method_descriptor"))(hm:MtR X id r)(ho:PE X o to)(ha:PA X (e::es) t)
  (om:attributeBase o name X.env (eval o X.env)=eval o X.env:=by rfl)
  (hfew:((backTo kg (starEach (e::es) X.env)).all (fun x=>!x.1)&& (backToKw kg (keywordEach [] X.env)).all (fun x=>x.1.isSome)
   && decide ((e::es).length+([]:List Keyword).length+(if([]:List Keyword).isEmpty then 0 else 1)<30))=true:=by rfl)
  (ql:(md.endLine==kg.line)=true:=by rfl) (hs:starEach (e::es) X.env=(false,eval e X.env)::starEach es X.env:=by rfl) (zx:(backTo kg (starEach es X.env)).any (·.1)=false:=by rfl):
  PE X (.Call (.Attribute o name md) (e::es) [] kg) (tBM X.K T r to t):=by
 intro jx s σ H Q I h;refine wpAny_Call_method_late om hfew ql rfl (thn (ho jx s σ H _ I h) fun v s1 ⟨x,H1,I1,r1,ty,q1⟩=>?_);obtain⟨h1,h2⟩:=GF I1 r1 ty;refine⟨T,id,pa,slot,Ck,h1,h2,?_⟩;have hA:=ha kg jx s1 σ H1 _ I1 q1;rw[hs]at hA ⊢;refine Calls.callWith_builtin (by show(false||(backTo kg (starEach es X.env)).any (·.1))=false;rw[zx]<;>rfl) (Calls.evalArgs_plain ?_);exact thn hA fun us s2 ⟨vs,H2,I2,r2,q2⟩=>hm jx s2 σ H2 x vs v us Q I2 r1 r2 q2
end
noncomputable def MtM(X:Cx)(id:String)(r:V->List V->Hp->VK->Prop):Prop:=
 ∀(jx:List (Addr×Obj))(s:Shared)(σ:St)(H:Hp)(x:V)(xs:List V)(v:Value)(us:List Value)(Q:VK),Inv X jx σ H s->RelV x v->Vals xs us->r x xs H Q ->
  wpAny (model X.prog X.w) X.A (call (.builtin id) (v::us)) (EP X jx σ Q) X.xe s
theorem Vals.one:∀{x:V}{us:List Value},Vals [x] us->∃u,us=[u]/\RelV x u
 |_,_,.cons r .nil=>⟨_,rfl,r⟩
theorem Vals.zero:∀{us:List Value},Vals [] us->us=[]
 |_,.nil=>rfl
theorem Vals.dropLast{xs:List V}{us:List Value}(h:Vals xs us):Vals xs.dropLast us.dropLast:=by
 induction h with
 |nil=>exact .nil
 |cons r t ih=>
  cases t with
  |nil=>exact .nil
  |cons q t'=>exact .cons r ih
theorem C1{α:Type}(l:List α):l.eraseIdx (l.length - 1)=l.dropLast:=by
 induction l with
 |nil=>rfl
 |cons a r ih=>
  cases r with
  |nil=>rfl
  |cons b r=>
   have e:(a::b::r).length - 1=((b::r).length - 1)+1:=by have h1:(a::b::r).length=r.length+2:=rfl;have h2:(b::r).length=r.length+1:=rfl;omega
   rw[e,List.eraseIdx_cons_succ,ih];all_goals rfl
section
variable {X:Cx}{jx:List (Addr×Obj)}{σ:St}{H:Hp}{s:Shared}{l b:Addr}{xs ys zs:List V}
theorem Inv.BG{its its':List Value}{n:Nat}{f:Array Value->Array Value}{t':Nat}(I:Inv X jx σ H s)(hH:H l=some (.lst xs))
  (e:s.heap.get? l=some {cls:=.type "list",data:=.seq its.toArray n}) (hf:f its.toArray=its'.toArray) (hv:Vals ys its') (hz:ys.length<=sizeLine):
  Inv X jx σ (upd H l (.lst ys)) {s with heap:=s.heap.update l (Obj.mapSeq f),toks:=t'}:=by
 have q:=PySem.IsL.update e f;rw[hf]at q;refine I.write (x:=l) (e:=l) (by rw[hH];exact trivial) (.inl rfl) (fun b' u hb hu=>(jl s.heap (Obj.mapSeq f) (Ne.symm hb)).trans hu) ⟨_,q⟩ ?_;exact⟨hz,its',_,hv,q⟩
theorem Inv.SA{its:List Value}{t':Nat}(I:Inv X jx σ H s)(hv:Vals ys its)(hz:ys.length<=sizeLine):
  Inv X jx σ (upd H s.heap.objs.size (.lst ys)) {s with heap:=s.heap.push {cls:=.type "list",data:=.seq its.toArray},toks:=t'}:=
 I.laid (fun _ _ q=>ao _ q) (ay _) ⟨hz,its,0,hv,bc _ rfl⟩
theorem Inv.fresh(I:Inv X jx σ H s):H s.heap.objs.size=none:=I.hok.fresh (ay _)
theorem Inv.yQ(I:Inv X jx σ H s)(hH:H l=some (.lst xs)):xs.length<=sizeLine/\∃(its:List Value)(n:Nat),Vals xs its/\xs.length=its.length/\s.heap.get? l=some {cls:=.type "list",data:=.seq its.toArray n}:=by obtain⟨z,its,n,r,e⟩:=I.hok l _ hH;exact⟨z,its,n,r,r.length,e⟩
theorem HV{n:Nat}(h:n<=sizeLine):Builtin.List.listTooLong n=false:=by unfold Builtin.List.listTooLong;exact decide_eq_false (by omega)
end
section
variable {X:Cx}
noncomputable def JW:V->List V->Hp->VK->Prop:=fun x vs H Q=>∃l xs y,x=.ref l/\vs=[y]/\H l=some (.lst xs)/\xs.length<sizeLine/\Q .non (upd H l (.lst (xs++[y])))
theorem cC:MtM X "list.append" JW:=by intro jx s σ H x vs v us Q I rx rv h;obtain⟨l,xs,y,rfl,rfl,hH,hz,q⟩:=h;cases rx;obtain⟨u,rfl,ru⟩:=rv.one;obtain⟨z,its,n,r,hl,e⟩:=I.yQ hH;refine call_meets F.slot_list_append ⟨_,e,rfl⟩ F.entry_list_append (F.args_list_append_2 _ _) (PySem.list_append l its.toArray n u (by rw[bg];omega)) ⟨e,?_⟩;refine⟨.non,_,I.BG (its':=its++[u]) hH e (by simp) (r.append (.cons ru .nil)) ?_,rfl,q⟩;rw[aj,List.length_singleton];omega
noncomputable def JV:V->List V->Hp->VK->Prop:=fun x vs H Q=>∃l b xs zs,x=.ref l/\vs=[.ref b]/\H l=some (.lst xs)/\H b=some (.lst zs)/\xs.length+zs.length<=sizeLine/\Q .non (upd H l (.lst (xs++zs)))
theorem EU:MtM X "list.extend" JV:=by
 intro jx s σ H x vs v us Q I rx rv h;obtain⟨l,b,xs,zs,rfl,rfl,hH,hB,hz,q⟩:=h;cases rx;obtain⟨u,rfl,ru⟩:=rv.one;cases ru;obtain⟨z,its,n,r,hl,e⟩:=I.yQ hH;obtain⟨z2,wy,n2,r2,hl2,e2⟩:=I.yQ hB;have hsz:its.toArray.size+wy.toArray.size<=sizeLine:=by rw[bg,bg];omega
 have Dg:¬(!its.toArray.isEmpty&& Builtin.List.listTooLong (its.toArray.size+wy.toArray.size))=true:=by rw[HV hsz,Bool.and_false];exact bp
 refine call_meets F.slot_list_extend ⟨_,e,rfl⟩ F.entry_list_extend (F.args_list_extend_2 _ _)
  (AutoSeq1.list_extend_list_list_0 l its.toArray n b wy.toArray n2 Dg (by rw[bg];omega) (by omega)) ⟨e,e2,?_⟩
 refine⟨.non,_,I.BG (its':=its++wy) hH e (by simp) (r.append r2) ?_,rfl,q⟩;rw[aj];omega
noncomputable def TU:V->List V->Hp->VK->Prop:=fun x vs H Q=>∃l xs y,x=.ref l/\vs=[]/\H l=some (.lst xs)/\xs[xs.length - 1]? =some y/\Q y (upd H l (.lst xs.dropLast))
theorem B9:MtM X "list.pop" TU:=by
 intro jx s σ H x vs v us Q I rx rv h;obtain⟨l,xs,y,rfl,rfl,hH,hy,q⟩:=h;cases rx;have hus:=rv.zero;subst hus;obtain⟨z,its,n,r,hl,e⟩:=I.yQ hH;obtain⟨u,hu,ru⟩:=r.get hy;have Cf:its.toArray[its.toArray.size - 1]? =some u:=by
  show its.toArray[its.length - 1]? =some u
  rw[<- iu,<- hl];exact hu
 refine call_meets F.slot_list_pop ⟨_,e,rfl⟩ F.entry_list_pop (F.args_list_pop_1 _) (MeetsSeq.list_pop_last l its.toArray n u Cf (by rw[bg];omega)) ⟨e,?_⟩;refine⟨y,_,I.BG (its':=its.dropLast) hH e ?_ r.dropLast ?_,ru,q⟩
 ·show its.toArray.eraseIdxIfInBounds (its.toArray.size - 1)=its.dropLast.toArray
  rw[bg,List.eraseIdxIfInBounds_toArray,C1]
 ·rw[gy];omega
end
theorem Vals.ints:∀{ns:List Int}{us:List Value},Vals (ns.map V.int) us->IntsAre us ns
 |[],us,h=>by rw[ja]at h;cases h;exact IntsAre.nil
 |n::ns,us,h=>by
  rw[bo]at h;cases h with
  |cons r t=>obtain⟨k,rfl⟩:=r;exact IntsAre.cons n k (Vals.ints t)
theorem Vals.bls:∀{bs:List Bool}{us:List Value},Vals (bs.map V.bl) us->us=bs.map Value.bool
 |[],us,h=>by rw[ja]at h;cases h;rfl
 |b::bs,us,h=>by
  rw[bo]at h;cases h with
  |cons r t=>cases r;rw[Vals.bls t,bo]
theorem Vals.O8{a:Addr}{us:List Value}(r:Vals [V.ref a] us):us=[Value.ref a]:=by
 cases r with
 |cons r t=>cases t;cases r;rfl
section
variable {prog:Program}{w:World}{A:Around}{E:Value->Shared->Prop}{s:Shared}{l:Addr}{its:List Value}{ns:List Int}{Q:Value->Shared->Prop}
theorem K9(hh:A.handled=none)(hl:s.heap.IsList l its.toArray)(hi:IntsAre its ns)(kb:0<ns.length)
  (h:∀h' tk M t',(∀b o,s.heap.get? b=some o->h'.get? b=some o)->M∈ns->(∀a,a∈ns->M<=a)->Q (.int M t') {s with heap:=h',toks:=tk}):wpAny (model prog w) A (call (.builtin "min") [.ref l]) Q E s:=by
 obtain⟨xs,e⟩:=hi.allInts.items;have hn:numsOf (intItems xs).toList=ns:=by rw[<- e];exact hi.numsOf
 rw[nums_intItems]at hn;subst hn;rw[e]at hl;have hsz:0<xs.size:=by simpa using kb
 refine PySem.min_intList hh hl hsz fun v h' tk hv hk=>?_
 obtain⟨t,rfl⟩:=intItems_at hv;obtain⟨h1,h2⟩:=argBest_lt (numAt xs) (xs.size - 1);refine h h' tk _ t hk ?_ fun a ha=>?_
 ·rw[numAt_eq];exact PySem.getD_mem (by rw[ag,dq];omega)
 ·obtain⟨j,hj,rfl⟩:=mem_getD ha;rw[ag,dq]at hj;rw[<- numAt_eq];exact h2 j (by omega)
end
section
variable {X:Cx}
noncomputable def TY(K:W.Frag):List V->Hp->VK->Prop:=fun vs H Q=>∃(a:Addr)(ns:List Int),vs=[V.ref a]/\SqL K H a (ns.map V.int)/\0<ns.length/\∀m,m∈ns->(∀y,y∈ns->m<=y)->Q (.int m) H
theorem NH(hc:X.calm=true):lH X (.builtin "min") (TY X.K):=by intro jx s σ H vs us Q I r h;obtain⟨a,ns,rfl,hs,kb,q⟩:=h;obtain⟨its,rv,hl,_⟩:=I.list hs;rw[Vals.O8 r];exact K9 (I.ok.hd hc) hl.isList rv.ints kb fun h' tk m t' hk h1 h2=>⟨.int _,H,I.kept hk,⟨_,rfl⟩,q m h1 h2⟩
end
theorem IM{prog:Program}{w:World}{A:Around}{E:Value->Shared->Prop}{s:Shared}{l:Addr}{items:Array Value}{Q:Value->Shared->Prop}(hl:s.heap.IsList l items)
  (h:∀s₂:Shared,s₂={s with heap:=s.heap.push {cls:=.type "list_iterator",data:=.fields #[.ref l,.int 0 0]}} ->
   (s₂.heap.IsListIter s.heap.objs.size l 0/\s₂.heap.IsList l items)->l≠s.heap.objs.size->Q (.ref s.heap.objs.size) s₂):wpAny (model prog w) A (pyIter (.ref l)) Q E s:=by
 have kh:l<s.heap.objs.size:=by obtain⟨_,e,_⟩:=hl;exact bu e
 exact wpAny_pyIter_list hl (h _ rfl ⟨⟨_,bc _ rfl,rfl,rfl⟩,hl.push _⟩ (da kh))
theorem xW{prog:Program}{w:World}{A:Around}{bs:List Bool}{its:List Value}(e:its=bs.map Value.bool):
  TruthOf prog w A (fun i v=>its.toArray[i]? =some v) (fun i=>bs.getD i false):=fun i v s Q E hv hq=>by
 have hv':its[i]? =some v:=by simpa using hv
 rw[e,ax]at hv';obtain⟨b,hb,rfl⟩:=Option.map_eq_some_iff.mp hv';have hg:bs.getD i false=b:=by rw[jn,hb]<;>rfl
 have qg:Q (bs.getD i false) s:=hq;rw[hg]at qg;exact wpAny_truthy_bool qg
theorem any_range:∀bs:List Bool,(List.range bs.length).any (fun i=>bs.getD i false)=bs.any id
 |[]=>rfl
 |b::bs=>by rw[bq,List.range_succ_eq_map,any_cons,any_map,any_cons,<- any_range bs];all_goals rfl
section
variable {X:Cx}
noncomputable def U1(K:W.Frag):List V->Hp->VK->Prop:=fun vs H Q=>∃(a:Addr)(bs:List Bool),vs=[V.ref a]/\SqL K H a (bs.map V.bl)/\Q (.bl (bs.any id)) H
theorem NI(hc:X.calm=true):lH X (.builtin "any") (U1 X.K):=by
 intro jx s σ H vs us Q I r h;obtain⟨a,bs,rfl,hs,q⟩:=h;obtain⟨its,rv,hl,_⟩:=I.list hs;rw[Vals.O8 r];have hb:=rv.bls;refine call_any_walk (IM hl.isList fun s₂ e2 st kb=>?_);subst e2;refine⟨_,_,_,_,_,_,_,rfl,Walks.list (A:=X.A.in1) (I.ok.hd hc) _ a kb its.toArray,st,xW hb,fun h' tk hk=>?_⟩;refine⟨.bl _,H,I.kept fun b o eo=>hk b o (fun hmem=>?_) (ao _ eo),?_,q⟩
 ·rcases ar.mp hmem with e1|hmem
  ·exact absurd (e1▸bu eo) (gz _)
  ·cases hmem
 ·show Value.bool _=Value.bool _
  rw[<- any_range,hb,bg,ag]
end
mutual
inductive Dp (K:W.Frag) (H:Hp):V->PyData->Prop
 |non:Dp K H .non .none
 |bl (b:Bool):Dp K H (.bl b) (.bool b)
 |int (i:Int):Dp K H (.int i) (.int i)
 |str (x:Str):Dp K H (.str x) (.str x)
 |lst {a:Addr}{xs:List V}{ds:List PyData}:SqL K H a xs->uA K H xs ds->Dp K H (.ref a) (.list ds)
 |tup {a:Addr}{xs:List V}{ds:List PyData}:SqT K H a xs->uA K H xs ds->Dp K H (.ref a) (.tuple ds)
inductive uA (K:W.Frag) (H:Hp):List V->List PyData->Prop
 |nil:uA K H [] []
 |cons {v:V}{vs:List V}{d:PyData}{ds:List PyData}:Dp K H v d->uA K H vs ds->uA K H (v::vs) (d::ds)
end
section
variable {X:Cx}{jx:List (Addr×Obj)}{σ:St}{H:Hp}{s:Shared}
mutual
theorem Dp.reads(I:Inv X jx σ H s):∀(d:PyData)(v:V)(u:Value),Dp X.K H v d->RelV v u->∃as,Reads s.heap u d as
 | .none,_,_,h,r=>by cases h;cases r;exact⟨_,Reads.none⟩
 | .bool b,_,_,h,r=>by cases h;cases r;exact⟨_,Reads.bool b⟩
 | .int i,_,_,h,r=>by cases h;obtain⟨t,rfl⟩:=r;exact⟨_,Reads.int i t⟩
 | .str x,_,_,h,r=>by cases h;obtain⟨t,rfl⟩:=r;exact⟨_,Reads.str x t⟩
 | .list ds,_,_,h,r=>by
  cases h with
  |lst hs ha=>cases r;obtain⟨its,rv,⟨o,n,ho,hc,_,hd⟩,_⟩:=I.list hs;obtain⟨as,hr⟩:=Dp.readsAll I ds _ its ha rv;exact⟨_,Reads.list ho hc hd hr⟩
 | .tuple ds,_,_,h,r=>by
  cases h with
  |tup hs ha=>cases r;obtain⟨its,rv,⟨o,ho,hc,n,hd⟩,_⟩:=I.tuple hs;obtain⟨as,hr⟩:=Dp.readsAll I ds _ its ha rv;exact⟨_,Reads.tuple ho hc hd hr⟩
 | .dict _,_,_,h,_=>by cases h
theorem Dp.readsAll(I:Inv X jx σ H s):∀(ds:List PyData)(vs:List V)(us:List Value),uA X.K H vs ds->Vals vs us->∃as,ReadsAll s.heap us ds as
 |[],_,_,h,r=>by cases h;cases r;exact⟨_,ReadsAll.nil⟩
 |d::ds,_,_,h,r=>by
  cases h with
  |cons h1 h2=>
   cases r with
   |cons r1 r2=>obtain⟨as,q1⟩:=Dp.reads I d _ _ h1 r1;obtain⟨bs,q2⟩:=Dp.readsAll I ds _ _ h2 r2;exact⟨_,ReadsAll.cons q1 q2⟩
end
end
section
variable {X:Cx}
noncomputable def TV(K:W.Frag):R2:=fun x y H Q=>∃d e,Dp K H x d/\Dp K H y e/\SeqAt.shaped d=true/\SeqAt.shaped e=true/\Q (.bl (!PyData.eqv d e)) H
theorem HQ(hu:X.A.units+64<cLine):OpR X (compareOp .NotEq) (TV X.K):=by intro jx s σ H x y v u Q I rx ry h;obtain⟨d,e,hd,he,sd,se,q⟩:=h;obtain⟨as,r1⟩:=Dp.reads I d x v hd rx;obtain⟨bs,r2⟩:=Dp.reads I e y u he ry;exact SeqAt.compareNe_shaped r1 r2 sd se hu ⟨.bl _,H,I,rfl,q⟩
end
abbrev JL(h:Heap)(c:Addr)(v:Option Value):Prop:=h.IsCell c v
noncomputable def TN(scope sc:Scope):Scope:=
 {scope with names:=scope.names.map fun(n,k)=>if(k== .free&& sc.kind== .function&& sc.names.lookup n==some .cell)then(n,.cell)else(n,k)}
noncomputable def bJ(cells:List (Str×Addr)):List (Str×NameKind)->List (Str×Addr)->List (Str×Addr)
 |[],acc=>acc
 |(n,k)::r,acc=>if k== .free then bJ cells r ((n,(cells.lookup n).getD 0)::acc)else bJ cells r acc
theorem oX(env:Env)(f:Str×NameKind->List (Str×Addr)->Sem (ForInStep (List (Str×Addr))))
  (hf:∀n k c,f (n,k) c=if k== .free then(do let a<- cellOf env n;pure (.yield ((n,a)::c)))else pure (.yield c)):
  ∀(names:List (Str×NameKind))(acc:List (Str×Addr)),(∀y∈names,y.2=.free->∃c,env.cells.lookup y.1=some c)->forIn names acc f=pure (bJ env.cells names acc)
 |[],acc,_=>by rw[List.forIn_nil];rfl
 |(n,k)::r,acc,h=>by
  rw[List.forIn_cons,hf];have ih:=fun acc=>oX env f hf r acc fun y hy=>h y (aq _ hy)
  unfold bJ;by_cases hk:(k==NameKind.free)=true
  ·rw[ah hk,ah hk];obtain⟨c,hc⟩:=h (n,k) bj (by simpa using hk);have e:cellOf env n=pure c:=by unfold cellOf;rw[hc]
   rw[e];have e2:(env.cells.lookup n).getD 0=c:=by rw[hc];rfl
   rw[e2];exact ih _
  ·rw[af hk,af hk];exact ih _
theorem mV{scope:Scope}{env:Env}(h:∀y∈scope.names,y.2=.free->∃c,env.cells.lookup y.1=some c):closureFor scope env=pure (bJ env.cells scope.names []):=by simp only[closureFor];rw[oX env _ (fun n k c=>rfl) scope.names [] h];rfl
theorem mem_lookup{α:Type}:∀{l:List (Str×α)}{n:Str}{c:α},(n,c)∈l->∃c',l.lookup n=some c'
 |(k,v)::r,n,c,h=>by
  rw[gp];cases hb:n==k with
  |true=>exact⟨_,rfl⟩
  |false=>
   rcases ar.mp h with e|h
   ·cases e;simp at hb
   ·exact mem_lookup h
theorem fX{cells:List (Str×Addr)}:∀{names:List (Str×NameKind)}{acc:List (Str×Addr)}{n:Str}{c:Addr},(n,c)∈bJ cells names acc->(n,c)∈acc\/((n,.free)∈names/\c=(cells.lookup n).getD 0)
 |[],_,_,_,h=>.inl h
 |(m,k)::r,acc,n,c,h=>by
  unfold bJ at h;split at h
  ·rename_i hk;have hk:k=.free:=by simpa using hk
   rcases fX h with h|⟨h1,h2⟩
   ·rcases ar.mp h with e|h
    ·cases e;exact .inr ⟨hk▸bj,rfl⟩
    ·exact .inl h
   ·exact .inr ⟨aq _ h1,h2⟩
  ·rcases fX h with h|⟨h1,h2⟩
   ·exact .inl h
   ·exact .inr ⟨aq _ h1,h2⟩
theorem kZ{cells:List (Str×Addr)}:∀{names:List (Str×NameKind)}{acc:List (Str×Addr)}{p:Str×Addr},p∈acc->p∈bJ cells names acc
 |[],_,_,h=>h
 |(m,k)::r,acc,p,h=>by
  unfold bJ;split
  ·exact kZ (aq _ h)
  ·exact kZ h
theorem iE{cells:List (Str×Addr)}:∀{names:List (Str×NameKind)}{acc:List (Str×Addr)}{n:Str},(n,.free)∈names->(n,(cells.lookup n).getD 0)∈bJ cells names acc
 |(m,k)::r,acc,n,h=>by
  unfold bJ;rcases ar.mp h with e|h
  ·cases e;exact kZ bj
  ·split
   ·exact iE h
   ·exact iE h
theorem j3:∀{names:List (Str×NameKind)}{h:Heap}{acc:List (Str×Addr)}{x:Str}{c:Addr},(x,c)∈cellsFrom h.objs.size names acc ->
  (x,c)∈acc\/((x,.cell)∈names/\h.objs.size<=c/\JL (pushCells h names) c none)
 |[],_,_,_,_,h=>.inl h
 |(n,k)::r,h,acc,x,c,hm=>by
  unfold cellsFrom at hm;unfold pushCells;split at hm
  ·rename_i hk;rw[ah hk];have hk:k=.cell:=by simpa using hk
   rw[<- fy h {cls:=.type "cell",data:=.cell none}]at hm;rcases j3 hm with hm|⟨h1,h2,h3⟩
   ·rcases ar.mp hm with e|hm
    ·cases e;exact .inr ⟨hk▸bj,ay _,_,pushCells_keeps r _ _ _ (bc _ rfl),rfl⟩
    ·exact .inl hm
   ·rw[fy]at h2;exact .inr ⟨aq _ h1,jv h2,h3⟩
  ·rename_i hk;rw[af hk];rcases j3 hm with hm|⟨h1,h2,h3⟩
   ·exact .inl hm
   ·exact .inr ⟨aq _ h1,h2,h3⟩
theorem lZ:∀{names:List (Str×NameKind)}{n:Nat}{acc:List (Str×Addr)}{p:Str×Addr},p∈acc->p∈cellsFrom n names acc
 |[],_,_,_,h=>h
 |(m,k)::r,n,acc,p,h=>by
  unfold cellsFrom;split
  ·exact lZ (aq _ h)
  ·exact lZ h
theorem qD:∀{names:List (Str×NameKind)}{n:Nat}{acc:List (Str×Addr)}{x:Str},(x,.cell)∈names->∃c,(x,c)∈cellsFrom n names acc
 |(m,k)::r,n,acc,x,h=>by
  unfold cellsFrom;rcases ar.mp h with e|h
  ·cases e;exact⟨n,lZ bj⟩
  ·split
   ·exact qD h
   ·exact qD h
theorem qC:∀{names:List (Str×NameKind)}{h:Heap}{acc:List (Str×Addr)}{x y:Str}{c:Addr},(∀p∈acc,p.2<h.objs.size)->(∀x y c,(x,c)∈acc->(y,c)∈acc->x=y) ->
  (x,c)∈cellsFrom h.objs.size names acc->(y,c)∈cellsFrom h.objs.size names acc->x=y
 |[],_,_,_,_,_,_,hi,h1,h2=>hi _ _ _ h1 h2
 |(n,k)::r,h,acc,x,y,c,hl,hi,h1,h2=>by
  unfold cellsFrom at h1 h2;split at h1
  ·rename_i hk;rw[ah hk]at h2;rw[<- fy h {cls:=.type "cell",data:=.cell none}]at h1 h2;refine qC (h:=h.push _) (fun p hp=>?_) (fun x y c a b=>?_) h1 h2
   ·rw[fy];rcases ar.mp hp with rfl|hp
    ·exact Nat.lt_succ_self _
    ·exact jb (hl p hp)
   ·rcases ar.mp a with e|a<;>rcases ar.mp b with e'|b
    ·cases e;cases e';rfl
    ·cases e;exact absurd (hl _ b) (gz _)
    ·cases e';exact absurd (hl _ a) (gz _)
    ·exact hi _ _ _ a b
  ·rename_i hk;rw[af hk]at h2;exact qC hl hi h1 h2
theorem qU{M:Model}{A:Around}{E:Value->Shared->Prop}{s:Shared}{scope:Scope}{globals:Addr}{closure:List (Str×Addr)}{qual:Str}{func:Option Addr}{code:Value}{vk:Env}{builtins:Addr}{Q:Env->Shared->Prop}
  (h:Q (newEnv scope s.heap.objs.size globals (cellsFrom (s.heap.objs.size+1) scope.names closure) qual func code (some vk) builtins)
   {s with heap:=pushCells (s.heap.push {cls:=.type "dict",data:=.dict #[]}) scope.names}):
  wpAny M A (newFunctionEnv scope globals closure [] qual func code (some vk) builtins) Q E s:=by
 simp only[newFunctionEnv,Option.isSome_some,if_true];refine aa (wpAny_alloc ?_);refine aa (wpAny_layCells _ (fun n k c=>rfl) scope.names closure _ _ ?_);rw[show({s with heap:=s.heap.push {cls:=.type "dict",data:=.dict #[]}}:Shared).heap.objs.size=s.heap.objs.size+1 from fy ..];rw[List.forIn_nil];exact aa (ai (ai h))
theorem kJ{sc:Scope}:∀{names:List (Str×NameKind)}{x:Str}{k:NameKind},
  (names.map fun(n,k)=>if(k==NameKind.free&& sc.kind== .function&& sc.names.lookup n==some .cell)then(n,NameKind.cell)else(n,k)).lookup x=some k ->
  ∃k',names.lookup x=some k'/\(k=k'\/(k'=.free/\k=.cell))
 |[],_,_,h=>by simp at h
 |(n,k₀)::r,x,k,h=>by
  have ih:=@kJ sc r x k;have h':List.lookup x ((if(k₀==NameKind.free&& sc.kind== .function&& sc.names.lookup n==some .cell)=true then(n,NameKind.cell)else(n,k₀))::(r.map _))=some k:=h;cases hx:x==n with
  |true=>
   simp only[gp,hx];by_cases hc:(k₀==NameKind.free&& sc.kind== .function&& sc.names.lookup n==some .cell)=true
   ·rw[ah hc]at h';simp only[gp,hx]at h';cases h';simp only[dm,beq_iff_eq]at hc;exact⟨k₀,rfl,.inr ⟨hc.1.1,rfl⟩⟩
   ·rw[af hc]at h';simp only[gp,hx]at h';cases h';exact⟨_,rfl,.inl rfl⟩
  |false=>
   simp only[gp,hx];by_cases hc:(k₀==NameKind.free&& sc.kind== .function&& sc.names.lookup n==some .cell)=true
   ·rw[ah hc]at h';simp only[gp,hx]at h';exact ih h'
   ·rw[af hc]at h';simp only[gp,hx]at h';exact ih h'
structure p8(N:List Str)(sc scope:Scope)(own:List (Str×Nat)):Prop where
 kind:scope.kind=.function
 uniq:∀y∈scope.names,scope.names.lookup y.1=some y.2
 ix:∀p∈own,N[p.2]? =some p.1
 free:∀y∈scope.names,y.2=.free->sc.names.lookup y.1=some .cell\/sc.names.lookup y.1=some .free
 own:∀y∈scope.names,y.2=.local\/y.2=.cell->y.1∈own.map (·.1)\/y.1∉N
def wipe(σ:St):List Nat->St
 |[]=>σ
 |v::vs=>(wipe σ vs).set v none
theorem gZ(σ:St):∀vs:List Nat,(wipe σ vs).length=σ.length
 |[]=>rfl
 |v::vs=>by unfold wipe;rw[List.length_set,gZ σ vs]
theorem lI{σ:St}{i:Nat}{x:V}:∀{vs:List Nat},(wipe σ vs)[i]? =some (some x)->σ[i]? =some (some x)/\i∉vs
 |[],h=>⟨h,by simp⟩
 |v::vs,h=>by
  unfold wipe at h;by_cases hi:v=i
  ·subst hi;by_cases hv:v<(wipe σ vs).length
   ·rw[List.getElem?_set_self hv]at h;cases h
   ·rw[ik (by simpa using hv)]at h;cases h
  ·rw[List.getElem?_set_ne hi]at h;obtain⟨h1,h2⟩:=lI h;exact⟨h1,by simp only[ar,not_or];exact⟨fun e=>hi e.symm,h2⟩⟩
noncomputable abbrev Cx.blk(X:Cx)(s:Shared)(H:Hp)(scope:Scope)(jz:Env)(fp:List Addr):Cx:={X with s_0:=s,H_0:=H,env:=jz,outer:=X.stack,ex:=fp,fn:=fun x=>scope.names.lookup x==some .cell,pn:=[],xe:=fun _ _=>False}
section
variable {X:Cx}{jx:List (Addr×Obj)}{σ:St}{H:Hp}{s:Shared}
theorem rC{scope:Scope}{own:List (Str×Nat)}{fp:List Addr}(I:Inv X jx σ H s)(ok:p8 X.N X.env.scope scope own)(hN:X.N.Nodup)(yj:∀b∈fp,mY X jx H b/\b<s.heap.objs.size):
  Inv (X.blk s H scope (compEnvC scope (cellsFrom (s.heap.objs.size+1) scope.names (bJ X.env.cells scope.names [])) s.heap.objs.size X.env) fp) [] (wipe σ (own.map (·.2))) H {s with heap:=pushCells (s.heap.push {cls:=.type "dict",data:=.dict #[]}) scope.names}:=by
 have mh:∀y∈scope.names,y.2=.free->∃c,X.env.cells.lookup y.1=some c:=fun y hy e=>by
  rcases ok.free y hy e with k|k
  ·exact I.ok.has _ (.inl k)
  ·exact I.ok.has _ (.inr k)
 generalize hcenv:compEnvC scope (cellsFrom (s.heap.objs.size+1) scope.names (bJ X.env.cells scope.names [])) s.heap.objs.size X.env=jz;have kp:∀b o,s.heap.get? b=some o->(pushCells (s.heap.push {cls:=.type "dict",data:=.dict #[]}) scope.names).get? b=some o:=fun b o e=>pushCells_keeps _ _ _ _ (ao _ e)
 have hL:jz.locals=s.heap.objs.size:=by rw[<- hcenv];rfl
 have ow:jz.cells=cellsFrom (s.heap.objs.size+1) scope.names (bJ X.env.cells scope.names []):=by rw[<- hcenv];rfl
 have hsc:jz.scope=TN scope X.env.scope:=by rw[<- hcenv];rfl
 rw[<- fy s.heap {cls:=.type "dict",data:=.dict #[]}]at ow;have cm:∀{y c},(y,c)∈bJ X.env.cells scope.names []->X.env.cells.lookup y=some c/\c<s.heap.objs.size:=fun{y c} hm=>by
  rcases fX hm with hm|⟨h1,rfl⟩
  ·cases hm
  ·obtain⟨c,hc⟩:=mh _ h1 rfl;rw[hc];obtain⟨w,z⟩:=I.cell _ _ hc;exact⟨rfl,z.lt⟩
 have mem:∀{y c},jz.cells.lookup y=some c->(X.env.cells.lookup y=some c/\c<s.heap.objs.size)\/(s.heap.objs.size+1<=c/\JL (pushCells (s.heap.push {cls:=.type "dict",data:=.dict #[]}) scope.names) c none):=fun{y c} e=>by
  rw[ow]at e;rcases j3 (PySem.mem_of_lookup e)with hm|⟨_,h2,h3⟩
  ·exact .inl (cm hm)
  ·rw[fy]at h2;exact .inr ⟨h2,h3⟩
 have look:∀{y},scope.names.lookup y=some .free->∃c,jz.cells.lookup y=some c/\X.env.cells.lookup y=some c:=fun{y} hl=>by
  have hy:(y,NameKind.free)∈scope.names:=PySem.mem_of_lookup hl;obtain⟨c',e'⟩:=mem_lookup (lZ (names:=scope.names) (n:=(s.heap.push {cls:=.type "dict",data:=.dict #[]}).objs.size) (iE (cells:=X.env.cells) (acc:=[]) hy));rw[<- ow]at e';refine⟨c',e',?_⟩;rw[ow]at e';rcases j3 (PySem.mem_of_lookup e')with hm|⟨h1,_,_⟩
  ·exact(cm hm).1
  ·have:=ok.uniq _ h1;rw[hl]at this;cases this
 have okB:(X.blk s H scope jz fp).Ok:=by
  refine⟨I.ok.mod,by show jz.scope.kind=_;rw[hsc];exact ok.kind,by show jz.globals=_;rw[<- hcenv];exact I.ok.glob,by show jz.builtins=_;rw[<- hcenv];exact I.ok.blt,by show s.heap.objs.size<=jz.locals;rw[hL];exact ay _,
   fun y z c e1 e2=>?_,fun y hy=>?_,fun y c z e=>?_,I.ok.hd,I.ok.frames,.inl rfl,fun b hb=>⟨?_,fun y c e z=>?_⟩,I.bs,df I.ok.bsz I.sz,fun b o e hb=>?_,fun b hb z=>?_,I.stack,I.wO⟩
  ·have e1:jz.cells.lookup y=some c:=e1;have e2:jz.cells.lookup z=some c:=e2;rw[ow]at e1 e2;refine qC (fun p hp=>?_) (fun y z c a b=>I.ok.inj y z c (cm a).1 (cm b).1) (PySem.mem_of_lookup e1) (PySem.mem_of_lookup e2);rw[fy];exact jb (cm (y:=p.1) (c:=p.2) hp).2
  ·show∃c,jz.cells.lookup y=some c
   have key:∀k,jz.kindOf y=some k->(k=.cell\/k=.free)->∃c,jz.cells.lookup y=some c:=fun k hk hk'=>by
    unfold Env.kindOf at hk;rw[hsc]at hk;obtain⟨k',e,r⟩:=kJ hk;have:k'=.cell\/k'=.free:=by
     rcases r with rfl|⟨rfl,_⟩
     ·exact hk'
     ·exact .inr rfl
    rcases this with rfl|rfl
    ·obtain⟨c,hm⟩:=qD (n:=(s.heap.push {cls:=.type "dict",data:=.dict #[]}).objs.size) (acc:=bJ X.env.cells scope.names []) (PySem.mem_of_lookup e);obtain⟨c',e'⟩:=mem_lookup hm;exact⟨c',by rw[ow];exact e'⟩
    ·obtain⟨c,h1,_⟩:=look e;exact⟨c,h1⟩
   rcases hy with hy|hy
   ·exact key _ hy (.inl rfl)
   ·exact key _ hy (.inr rfl)
  ·have z:(scope.names.lookup y==some NameKind.cell)=true:=z;have z:scope.names.lookup y=some .cell:=by simpa using z
   have e:jz.cells.lookup y=some c:=e;rw[ow]at e;rcases j3 (PySem.mem_of_lookup e)with hm|⟨_,h2,_⟩
   ·rcases fX hm with hm|⟨h1,_⟩
    ·cases hm
    ·have q:=ok.uniq _ h1;rw[z]at q;cases q
   ·rw[fy]at h2;exact jv h2
  ·show b≠jz.locals
   rw[hL];exact da (yj b hb).2
  ·have e:jz.cells.lookup y=some c:=e;rcases mem e with⟨h1,_⟩|⟨h1,_⟩
   ·exact(yj b hb).1.2.2.2.2.1 y c h1 z
   ·have h2:s.heap.objs.size+1<=b:=by rw[<- z];exact h1
    exact absurd (cb (yj b hb).2 (jv h2)) (gz _)
  ·rcases(yj b hb).1.2.2.2.1 with z|z
   ·exact I.ok.HX b o e z
   ·exact absurd (cb (bu e) (df I.ok.bsz z)) (gz _)
  ·rcases ar.mp (I.sF b z)with z|z
   ·exact(yj b hb).1.2.1 z
   ·exact(yj b hb).1.2.2.1 z
 refine⟨okB,rfl,I.bare,Un.kept kp,⟨fun _=>none,?_,fun i y av e1 e2 e3=>?_⟩,fun y c e=>?_,?_,fun y c e=>?_,fun p hp=>?_,I.hok.kept kp,by rw[gZ];exact I.len⟩
 ·show Heap.Ns _ jz.locals _
  rw[hL];exact Heap.Ns.keeps (Heap.Ns.new ..) fun b o e=>pushCells_keeps _ _ _ _ e
 ·obtain⟨e2,kb⟩:=lI e2;have xg:scope.names.lookup y=some .free/\(jz.kindOf y=some .cell\/jz.kindOf y=some .free):=by
   have key:∀k,jz.scope.names.lookup y=some k->k=.local\/k=.cell\/k=.free->scope.names.lookup y=some .free/\(jz.kindOf y=some .cell\/jz.kindOf y=some .free):=fun k hk hk'=>by
    have hk0:=hk;rw[hsc]at hk;obtain⟨k',e,r⟩:=kJ hk;have no:¬(k'=.local\/k'=.cell):=fun hh=>by
     rcases ok.own _ (PySem.mem_of_lookup e) hh with e'|e'
     ·obtain⟨p,hp,hpy⟩:=au.mp e';have e3:=ok.ix p hp;have:p.1=y:=hpy;rw[this]at e3;exact kb (au.mpr ⟨p,hp,tF hN e3 e1⟩)
     ·exact e' (az e1)
    rcases r with rfl|⟨rfl,rfl⟩
    ·rcases hk' with rfl|rfl|rfl
     ·exact absurd (.inl rfl) no
     ·exact absurd (.inr rfl) no
     ·exact⟨e,.inr hk0⟩
    ·exact⟨e,.inl hk0⟩
   have e3:Vis jz.scope y:=e3;rcases e3 with e3|e3|e3
   ·exact key _ e3 (.inl rfl)
   ·exact key _ e3 (.inr (.inl rfl))
   ·exact key _ e3 (.inr (.inr rfl))
  obtain⟨m,hn,hl⟩:=I.loc;have hvis:Vis X.env.scope y:=(ok.free _ (PySem.mem_of_lookup xg.1) rfl).elim (fun k=>.inr (.inl k)) (fun k=>.inr (.inr k));obtain⟨w,r,q⟩:=hl i y av e1 e2 hvis;refine⟨w,r,.inr ⟨xg.2,?_⟩⟩;obtain⟨c,h1,h2⟩:=look xg.1;rcases q with⟨k,_⟩|⟨_,c',e',z⟩
  ·have k:X.env.scope.names.lookup y=some .local:=k;rcases ok.free _ (PySem.mem_of_lookup xg.1) rfl with k'|k'<;>rw[show X.env.scope.names.lookup y=_ from k']at k<;>cases k
  ·rw[h2]at e';cases e';exact⟨c,h1,z.keeps kp⟩
 ·have e:jz.cells.lookup y=some c:=e;rcases mem e with⟨h1,_⟩|⟨_,z⟩
  ·obtain⟨w,z⟩:=I.cell y c h1;exact⟨w,z.keeps kp⟩
  ·exact⟨_,z⟩
 ·show H jz.locals=none
  rw[hL];exact I.hok.fresh (ay _)
 ·have e:jz.cells.lookup y=some c:=e;rcases mem e with⟨h1,_⟩|⟨h1,_⟩
  ·exact I.iC y c h1
  ·exact I.hok.fresh (jv h1)
 ·exact absurd (show p∈([]:List (Addr×Obj))++[]from hp) (by simp)
theorem JG{E:Value->Shared->Prop}{D:Addr}{xs:List V}{y:V}{v:Value}{Q:Value->Shared->Prop}(I:Inv X jx σ H s)(hD:H D=some (.lst xs))(hz:xs.length<sizeLine)(r:RelV y v)
  (h:∀s',Inv X jx σ (upd H D (.lst (xs++[y]))) s'->Q .none s'):wpAny (model X.prog X.w) X.A (call (.builtin "list.append") [.ref D,v]) Q E s:=by
 obtain⟨Ay,its,n,ri,e⟩:=I.hok D _ hD;have hl:=ri.length;refine append_at (hsz:=by rw[bg];omega) e fun h' sb vt=>?_
 refine h {s with heap:=h'} (I.write (t':=s.toks) (by rw[hD];trivial) (.inl rfl) (fun b u hb q=>(sb.2 b hb).trans q) ⟨_,vt⟩ ⟨by rw[aj];exact hz,its++[v],n+1,ri.append (.cons r .nil),?_⟩);rw[vt];simp
noncomputable def PTs(X:Cx)(qd:List Expr)(t:TT):Prop:=
 ∀(jx:List (Addr×Obj))(s:Shared)(σ:St)(H:Hp)(Q:Bool->Hp->Prop),Inv X jx σ H s->t σ H Q ->
  wpAny (model X.prog X.w) X.A (forIn qd true fun c r=>if r=true then do let ok<- isTrue c X.env (eval c X.env);pure (ForInStep.yield ok)else pure (ForInStep.yield r)) (TP X jx σ Q) X.xe s
def GH:TT:=fun _ H Q=>Q true H
theorem nI:PTs X [] GH:=fun _ _ _ H _ I h=>wpAny_tests_nil ⟨H,I,h⟩
theorem CQ{c:Expr}{t:TT}(h:PT X c t):PTs X [c] t:=fun jx s σ H Q I hw=>wpAny_tests_one (h jx s σ H Q I hw)
end
theorem wN{α:Type}{t:Sem α}{Q Q':α->Shared->Prop}{M:Model}{A:Around}{E:Value->Shared->Prop}{s:Shared}(h:wpAny M A t Q (fun _ _=>False) s)(hQ:∀a s,Q a s->Q' a s):wpAny M A t Q' E s:=wpAny_mono h hQ fun _ _ z=>False.elim z
theorem oV{prog:Program}{w:World}{A:Around}{R:Result->Shared->Prop}{s:Shared}{mv nh iter:Expr}{qd:List Expr}{scope:Scope}{pos:Pos}{it acc:Value}{env:Env}(I:Nat->Shared->Prop)
  (lh:∀n s,I n s->wpAny (model prog w) A (pyNext it) (fun r s₁=>match r with
   |none=>R (.ok .next) s₁
   |some v=>wpAny (model prog w) A (letOwnedTupleGo nh it v) (fun _ s₁'=>wpAny (model prog w) A (assign nh env v) (fun _ s₂=>
     wpAny (model prog w) A (forIn qd true fun c r=>if r=true then do let ok<- isTrue c env (eval c env);pure (ForInStep.yield ok)else pure (ForInStep.yield r)) (fun ok s₃=>
      if ok=true then wpAny (model prog w) A (eval mv env) (fun x s₄=>
       wpAny (model prog w) A (call (.builtin "list.append") [acc,x]) (fun _ s₅=>∃m,m<n/\I m s₅) (notedBy (model prog w) A env fun e s'=>R (.error e) s') s₄) (notedBy (model prog w) A env fun e s'=>R (.error e) s') s₃
      else∃m,m<n/\I m s₃) (notedBy (model prog w) A env fun e s'=>R (.error e) s') s₂) (notedBy (model prog w) A env fun e s'=>R (.error e) s') s₁') (notedBy (model prog w) A env fun e s'=>R (.error e) s') s₁) (notedBy (model prog w) A env fun e s'=>R (.error e) s') s)
  (n:Nat) (h:I n s):
  codeAny (model prog w) A (.compLoop (.ListComp mv [⟨nh,iter,qd,0⟩] scope pos) 0 it acc env) R s:=by
 refine codeAny_loop rfl I (fun n s hI=>?_) n h;show wpAny _ A ((compTurn (.ListComp mv [⟨nh,iter,qd,0⟩] scope pos) 0 it acc env).onRaise (fun x=>do noteFrame x env;theTreesLotGoes x)) _ _ s
 refine wpAny_noted ?_;rw[compTurn_list];refine aa (wpAny_standAt (aa (wpAny_mono (lh n s hI) (fun r s₁ h₁=>?_) fun _ _ h'=>h')));cases r with
 |none=>exact ai h₁
 |some v=>
  refine aa (wpAny_mono h₁ (fun _ s₁' h₁'=>?_) fun _ _ h'=>h');refine aa (wpAny_mono h₁' (fun _ s₂ h₂=>aa (wpAny_mono h₂ (fun ok s₃ h₃=>?_) fun _ _ h'=>h')) fun _ _ h'=>h');cases ok with
  |false=>exact ai ⟨rfl,h₃⟩
  |true=>exact aa (aa (wpAny_mono h₃ (fun x s₄ h₄=>aa (wpAny_mono h₄ (fun _ s₅ h₅=>ai (ai ⟨rfl,h₅⟩)) fun _ _ h'=>h')) fun _ _ h'=>h'))
section
variable {X:Cx}
noncomputable def tLc(wi:TI)(g:TG)(tt:TT)(te:TE)(vs:List Nat):TE:=fun σ H Q=>wi σ H fun J H1=>∀D,H1 D=none->∃W:Nat->Nat->Hp->Prop,(∃m,W 0 m (upd H1 D (.lst [])))/\∀i m H,W i m H ->
 (J.stop i H/\Q (.ref D) H)\/(J.go i H/\∃Nx:Hp->Prop,(∀H',Nx H'->∃m',m'<m/\W (i+1) m' H')/\∀x H',J.yld i H x H'->g x (wipe σ vs) H' fun σ2 H2=>wipe σ2 vs=wipe σ vs/\tt σ2 H2 fun b H3=>
  if b=true then te σ2 H3 fun y H4=>∃acc,H4 D=some (.lst acc)/\acc.length<sizeLine/\Nx (upd H4 D (.lst (acc++[y])))else Nx H3)
theorem D8{jx:List (Addr×Obj)}{s:Shared}{σ:St}{H:Hp}{Q:VK}{mv tg iter:Expr}{qd:List Expr}{scope:Scope}{own:List (Str×Nat)}{pos lj:Pos}{wi:TI}{g:TG}{tt:TT}{te:TE}{use:Option (Value->Sem Unit)}{Qf:Value->Shared->Prop}
  (hc:X.calm=true) (hN:X.N.Nodup) (I:Inv X jx σ H s) (hi:PI X tg iter wi) (ok:p8 X.N X.env.scope scope own)
  (hg:∀(s:Shared)(H:Hp)(C:Addr)(cl:List (Str×Addr))(fp:List Addr),PG (X.blk s H scope (compEnvC scope cl C X.env) fp) tg g) (ht:∀(s:Shared)(H:Hp)(C:Addr)(cl:List (Str×Addr))(fp:List Addr),PTs (X.blk s H scope (compEnvC scope cl C X.env) fp) qd tt)
  (he:∀(s:Shared)(H:Hp)(C:Addr)(cl:List (Str×Addr))(fp:List Addr),PE (X.blk s H scope (compEnvC scope cl C X.env) fp) mv te) (hs:∀x,foldedSetIterable iter X.env x=pure x)
  (h:tLc wi g tt te (own.map (·.2)) σ H Q)
  (hRR:∀D C s' m H',Inv X jx σ H' s'->Q (.ref D) H'->s'.heap.Ns C m->mY X jx H' C->compPost (model X.prog X.w) X.A X.xe use Qf (.ref D) C (.ok .next) s'):
  wpAny (model X.prog X.w) X.A (comprehension (.ListComp mv [⟨tg,iter,qd,0⟩] scope pos) scope X.env lj (newList []) false (eval iter X.env) use) Qf X.xe s:=by
 have mh:∀y∈scope.names,y.2=.free->∃c,X.env.cells.lookup y.1=some c:=fun y hy e=>by
  rcases ok.free y hy e with k|k
  ·exact I.ok.has _ (.inl k)
  ·exact I.ok.has _ (.inr k)
 refine wpAny_comprehension_free (use:=use) rfl hs (mV mh) ok.kind (fun y hy e=>by rw[ok.uniq y hy,e])
  (thn (hi jx s σ H _ I h) fun xv s1 hx=>thn hx fun itv s2 h2=>?_)
 obtain⟨it,fp,tn,J,H2,e,I2,T,zb,f2,q⟩:=h2;subst e;refine wpAny_newObj_type (qU ?_) (by show 0<=sizeLine;decide);generalize hD:s2.heap.objs.size=D;have hDn:H2 D=none:=I2.hok.fresh (ie hD);obtain⟨W,⟨m0,w0⟩,lh⟩:=q D hDn;generalize hs3:({s2 with heap:=s2.heap.push {cls:=.type "list",data:=.seq ([]:List Value).toArray}}:Shared)=s3;have I3:Inv X jx σ (upd H2 D (.lst [])) s3:=by rw[<- hs3];refine I2.laid (t':=s2.toks) (fun b o e=>ao _ e) (ie hD) ⟨cj _,[],0,.nil,?_⟩;rw[<- hD];exact bc _ rfl
 have h3:s3.heap=s2.heap.push {cls:=.type "list",data:=.seq ([]:List Value).toArray}:=by rw[<- hs3]
 have sz:∀b∈fp,b<s2.heap.objs.size:=fun b hb=>by obtain⟨o,e,_⟩:=T.obj _ _ zb b hb;exact bu e
 have f3:∀b∈fp,mY X jx (upd H2 D (.lst [])) b/\b<s3.heap.objs.size:=fun b hb=>by have kh:=sz b hb;refine⟨⟨?_,(f2 b hb).2⟩,by rw[h3,fy];exact jb kh⟩;rw[aB (by rw[<- hD];exact da kh)];exact(f2 b hb).1
 have As:tn 0 s3.heap:=T.keep _ _ _ zb fun b _ o e=>by rw[h3];exact ao _ e
 have I4:=rC I3 ok hN f3;have pg:=hg s3 (upd H2 D (.lst [])) s3.heap.objs.size (cellsFrom (s3.heap.objs.size+1) scope.names (bJ X.env.cells scope.names [])) fp;have pt:=ht s3 (upd H2 D (.lst [])) s3.heap.objs.size (cellsFrom (s3.heap.objs.size+1) scope.names (bJ X.env.cells scope.names [])) fp;have pe:=he s3 (upd H2 D (.lst [])) s3.heap.objs.size (cellsFrom (s3.heap.objs.size+1) scope.names (bJ X.env.cells scope.names [])) fp;show codeAny _ _ (.compStart (.ListComp mv [⟨tg,iter,qd,0⟩] scope pos) 0 (.ref it) (.ref D) (compEnvC scope (cellsFrom (s3.heap.objs.size+1) scope.names (bJ X.env.cells scope.names [])) s3.heap.objs.size X.env)) (compPost (model X.prog X.w) X.A X.xe use Qf (.ref D) s3.heap.objs.size) {s3 with heap:=pushCells (s3.heap.push {cls:=.type "dict",data:=.dict #[]}) scope.names}
 have Ca:∀b∈fp,(upd H2 D (.lst [])) b=none:=fun b hb=>(f3 b hb).1.1
 generalize hce:compEnvC scope (cellsFrom (s3.heap.objs.size+1) scope.names (bJ X.env.cells scope.names [])) s3.heap.objs.size X.env=ce at I4 pg pt pe ⊢;have cL:ce.locals=s3.heap.objs.size:=by subst hce;rfl
 generalize hH3:upd H2 D (.lst [])=H3 at I3 I4 pg pt pe w0 Ca f3;generalize hs4:({s3 with heap:=pushCells (s3.heap.push {cls:=.type "dict",data:=.dict #[]}) scope.names}:Shared)=s4 at I4 ⊢;have Bq:tn 0 s4.heap:=T.keep _ _ _ As fun b _ o e=>by rw[<- hs4];exact pushCells_keeps _ _ _ _ (ao _ e)
 have oa:∀{σ':St}{H':Hp}{s':Shared},Inv (X.blk s3 H3 scope ce fp) [] σ' H' s'->(∀b∈fp,H' b=none)->∀b∈fp,mY (X.blk s3 H3 scope ce fp) [] H' b:=fun{σ' H' s'} I' hn b hb=>
  ⟨hn b hb,(I'.ok.exf b hb).1,I'.ok.C0 b hb,.inl hb,fun x c e=>(I'.ok.exf b hb).2 x c e,fun p hp=>absurd (show p∈([]:List (Addr×Obj))++[]from hp) (by simp)⟩
 have loop:codeAny (model X.prog X.w) X.A (.compLoop (.ListComp mv [⟨tg,iter,qd,0⟩] scope pos) 0 (.ref it) (.ref D) ce) (compPost (model X.prog X.w) X.A X.xe use Qf (.ref D) s3.heap.objs.size) s4:=by
  refine oV (fun n s'=>∃i H',Inv (X.blk s3 H3 scope ce fp) [] (wipe σ (own.map (·.2))) H' s'/\tn i s'.heap/\(∀b∈fp,H' b=none)/\W i n H') ?_ m0 ⟨0,H3,I4,Bq,Ca,w0⟩;rintro n s5 ⟨i,H5,I5,wo,n5,w5⟩;rcases lh i n H5 w5 with⟨stop,qq⟩|⟨go,Nx,hNx,step⟩
  ·have td:=T.done (X.blk s3 H3 scope ce fp) rfl rfl rfl hc i [] s5 _ H5 (fun _ _=>False) I5 (oa I5 n5) wo stop;refine wN td fun r s6 ⟨hr,I6⟩=>?_
   subst hr;have I7:Inv X jx σ H5 s6:=I3.DU (ch:=fp) I6.os I6.base I6.hok I6.bare fun b hb=>⟨(f3 b hb).1.2.2.2.1,(f3 b hb).1.2.1,(f3 b hb).1.2.2.2.2.1,(f3 b hb).1.2.2.2.2.2⟩
   have nC:H5 s3.heap.objs.size=none:=by have z:H5 ce.locals=none:=I6.free;rw[cL]at z;exact z
   obtain⟨m,hn,_⟩:=I6.loc;have hn:s6.heap.Ns ce.locals m:=hn;rw[cL]at hn;exact hRR D s3.heap.objs.size s6 m H5 I7 qq hn (I3.BX (ay _) nC)
  ·have ti:=T.item (X.blk s3 H3 scope ce fp) rfl rfl rfl hc i [] s5 _ H5 (fun _ _=>False) I5 (oa I5 n5) wo go;refine wN ti fun r s6 ⟨u,hr,h6⟩=>?_
   subst hr;refine wN h6 fun _ s7 ⟨x,H7,I7,r7,y7,yz,n7⟩=>?_
   have I7':=I7.pinned (oa I7 n7) (T.obj _ _ yz);refine wN (pg _ s7 _ H7 x u _ I7' r7 (step x H7 y7)) fun _ s8 ⟨σ8,H8,I8,Ci,q8⟩=>?_
   refine wN (pt _ s8 σ8 H8 _ I8 q8) fun b s9 ⟨H9,I9,q9⟩=>?_
   have fin:∀{s':Shared}{H':Hp},Inv (X.blk s3 H3 scope ce fp) ([]++pM fp s7.heap) σ8 H' s'->Nx H'->∃m,m<n/\∃i H',Inv (X.blk s3 H3 scope ce fp) [] (wipe σ (own.map (·.2))) H' s'/\tn i s'.heap/\(∀b∈fp,H' b=none)/\W i m H':=fun{s' H'} I' nx=>by
    obtain⟨m',hm,w'⟩:=hNx H' nx;have uj:∀b∈fp,∀o,s7.heap.get? b=some o->s'.heap.get? b=some o/\H' b=none:=fun b hb o e=>
     let z:=I'.pin (b,o) (bh _ (bh _ (jG hb e)))
     ⟨z.1,z.2.1⟩
    have hl:(wipe σ (own.map (·.2))).length=σ8.length:=by rw[<- Ci,gZ]
    refine⟨m',hm,i+1,H',(I'.kB (jx:=[])).weak hl (fun j v e=>?_),T.keep _ _ _ yz fun b hb o e=>(uj b hb o e).1,fun b hb=>?_,w'⟩
    ·rw[<- Ci]at e;exact(lI e).1
    ·obtain⟨o,e,_⟩:=T.obj _ _ yz b hb;exact(uj b hb o e).2
   cases b with
   |false=>simp only[jc,if_false]at q9 ⊢;exact fin I9 q9
   |true=>
    simp only[if_true]at q9 ⊢;refine wN (pe _ s9 σ8 H9 _ I9 q9) fun z s10 ⟨yv,H10,I10,r10,acc,Am,zo,nx⟩=>?_
    exact JG (X:=X.blk s3 H3 scope ce fp) I10 Am zo r10 fun s11 I11=>fin I11 nx
 exact codeAny_compStart_list loop (T.self X.A 0 _ _ _ Bq loop)
theorem HH{mv tg iter:Expr}{qd:List Expr}{scope:Scope}{own:List (Str×Nat)}{pos:Pos}{wi:TI}{g:TG}{tt:TT}{te:TE}(hc:X.calm=true)(hN:X.N.Nodup)(hi:PI X tg iter wi)(ok:p8 X.N X.env.scope scope own)
  (hg:∀(s:Shared)(H:Hp)(C:Addr)(cl:List (Str×Addr))(fp:List Addr),PG (X.blk s H scope (compEnvC scope cl C X.env) fp) tg g) (ht:∀(s:Shared)(H:Hp)(C:Addr)(cl:List (Str×Addr))(fp:List Addr),PTs (X.blk s H scope (compEnvC scope cl C X.env) fp) qd tt)
  (he:∀(s:Shared)(H:Hp)(C:Addr)(cl:List (Str×Addr))(fp:List Addr),PE (X.blk s H scope (compEnvC scope cl C X.env) fp) mv te) (hs:∀x,foldedSetIterable iter X.env x=pure x:=by intro _;rfl):
  PE X (.ListComp mv [⟨tg,iter,qd,0⟩] scope pos) (tLc wi g tt te (own.map (·.2))):=by
 intro jx s σ H Q I h;rw[eval_ListComp];refine D8 hc hN I hi ok hg ht he hs h fun D C s' m H' I' q hn f=>⟨m,hn,fun xu sb=>?_⟩
 obtain⟨f0,f1,f2,f3,f4,f5⟩:=f;exact⟨.ref D,H',I'.turned (t':=s'.toks) (fun b o hb e=>(sb.2 b hb).trans e) f0 f1 f3 f4 f5,rfl,q⟩
theorem nJ{i:Nat}{y:Str}{py:Pos}{mv tg iter:Expr}{qd:List Expr}{scope:Scope}{own:List (Str×Nat)}{pos ug:Pos}{wi:TI}{g:TG}{tt:TT}{te:TE}(hc:X.calm=true)(hN:X.N.Nodup)(hy:X.N[i]? =some y)(uv:X.env.scope.names.lookup y=some .local)
  (hsw:swapsWith (.ListComp mv [⟨tg,iter,qd,0⟩] scope pos) (some (.Name y py)) ug.line X.env=pure true) (hi:PI X tg iter wi) (ok:p8 X.N X.env.scope scope own)
  (hg:∀(s:Shared)(H:Hp)(C:Addr)(cl:List (Str×Addr))(fp:List Addr),PG (X.blk s H scope (compEnvC scope cl C X.env) fp) tg g) (ht:∀(s:Shared)(H:Hp)(C:Addr)(cl:List (Str×Addr))(fp:List Addr),PTs (X.blk s H scope (compEnvC scope cl C X.env) fp) qd tt)
  (he:∀(s:Shared)(H:Hp)(C:Addr)(cl:List (Str×Addr))(fp:List Addr),PE (X.blk s H scope (compEnvC scope cl C X.env) fp) mv te) (hs:∀x,foldedSetIterable iter X.env x=pure x:=by intro _;rfl):
  PS X (.Assign [.Name y py] (.ListComp mv [⟨tg,iter,qd,0⟩] scope pos) ug) (AL (tLc wi g tt te (own.map (·.2))) (iB i)):=by
 intro jx s σ H D I h;rw[exec_Assign_Name_used _ _ _ _ hsw];refine aa (wpAny_standAt (aa ?_));show wpAny _ X.A (do let _<- comprehension (.ListComp mv [⟨tg,iter,qd,0⟩] scope pos) scope X.env (firstIterPos [⟨tg,iter,qd,0⟩] pos) (newList []) false (eval iter X.env) (some (assign (.Name y py) X.env))) _ _ s
 have h:tLc wi g tt te (own.map (·.2)) σ H (fun x H1=>iB i x σ H1 D.nx):=h;refine aa (thn (D8 (Qf:=fun _ s'=>SP X jx D .next s') hc hN I hi ok hg ht he hs h fun L C s' m H' I' q hn f=>?_) fun _ s' hq=>ai (ai hq));show wpAny _ _ (assign (.Name y py) X.env (.ref L)) _ _ _
 refine wpAny_assign_Name (pE (v:=V.ref L) I' hN hy (.inl uv) rfl (fun s2 I2 ⟨a,sb,ha⟩=>?_) (.inr uv));obtain⟨f0,f1,f2,f3,f4,f5⟩:=f;have haC:C≠a:=by
  rcases ha with z|z
  ·rw[z];exact f1
  ·exact fun e=>f4 y a z e.symm
 refine⟨m,hn.sameBut sb haC,fun h3 sb3=>?_⟩;exact⟨_,H',I2.turned (t':=s2.toks) (fun b o hb e=>(sb3.2 b hb).trans e) f0 f1 f3 f4 f5,q⟩
theorem lJ{mv:Expr}{gs:List Comprehension}{scope:Scope}{pos py:Pos}{y:Str}{l:Nat}{env:Env}(hk:env.scope.kind=.function)(hy:env.scope.names.lookup y=some .local)(hl:(py.line==pos.line)=true)
  (ha:(scope.names.any fun(n,k)=>n==y&& (k== .local||k== .cell))=false):swapsWith (.ListComp mv gs scope pos) (some (.Name y py)) l env=pure true:=by
 have ky:env.kindOf y=some .local:=hy;have hb:env.blockKind=.function:=by unfold Env.blockKind;rw[hk];rfl
 unfold swapsWith;simp only[hb,ky,ha,Expr.pos,hl];rfl
end
theorem jI{K:W.Frag}{a:Addr}{xs:List V}{g:TG}{tt:TT}{te:TE}{vs:List Nat}{σ:St}{H1:Hp}{D:Addr}{Qd:Hp->Prop}(Pv:Nat->Hp->Prop)(h0:Pv 0 (upd H1 D (.lst [])))(hl:∀i H,i<=xs.length->Pv i H->SqL K H a xs)
  (hs:∀i x H,xs[i]? =some x->Pv i H->g x (wipe σ vs) H fun σ2 H2=>wipe σ2 vs=wipe σ vs/\tt σ2 H2 fun b H3=>
   if b=true then te σ2 H3 fun y H4=>∃acc,H4 D=some (.lst acc)/\acc.length<sizeLine/\Pv (i+1) (upd H4 D (.lst (acc++[y])))else Pv (i+1) H3) (hd:∀H,Pv xs.length H->Qd H):
  ∃W:Nat->Nat->Hp->Prop,(∃m,W 0 m (upd H1 D (.lst [])))/\∀i m H,W i m H ->
   ((Itl K a).stop i H/\Qd H)\/((Itl K a).go i H/\∃Nx:Hp->Prop,(∀H',Nx H'->∃m',m'<m/\W (i+1) m' H')/\∀x H',(Itl K a).yld i H x H'->g x (wipe σ vs) H' fun σ2 H2=>wipe σ2 vs=wipe σ vs/\tt σ2 H2 fun b H3=>
    if b=true then te σ2 H3 fun y H4=>∃acc,H4 D=some (.lst acc)/\acc.length<sizeLine/\Nx (upd H4 D (.lst (acc++[y])))else Nx H3):=by
 refine⟨fun i m H=>m=xs.length - i/\i<=xs.length/\Pv i H,⟨xs.length,by simp,cj _,h0⟩,?_⟩;rintro i m H ⟨rfl,hi,p⟩;have q:=hl i H hi p;by_cases kh:i<xs.length
 ·refine .inr ⟨⟨xs,xs[i],q,by simp[kh]⟩,Pv (i+1),fun H' p'=>⟨xs.length - (i+1),by omega,rfl,kh,p'⟩,fun x H' y=>?_⟩;obtain⟨e,y⟩:=y;subst e;exact hs i x _ (y xs q) p
 ·have e:i=xs.length:=by omega
  subst e;exact .inl ⟨⟨xs,q,ay _⟩,hd H p⟩
theorem IJ{K:W.Frag}{a:Addr}{xs:List V}{g:TG}{tt:TT}{te:TE}{vs:List Nat}{σ:St}{H1:Hp}{D:Addr}{Qd:Hp->Prop}(Pv:Nat->Hp->Prop)(h0:Pv 0 (upd H1 D (.lst [])))(hl:∀i H,i<=xs.length->Pv i H->SqT K H a xs)
  (hs:∀i x H,xs[i]? =some x->Pv i H->g x (wipe σ vs) H fun σ2 H2=>wipe σ2 vs=wipe σ vs/\tt σ2 H2 fun b H3=>
   if b=true then te σ2 H3 fun y H4=>∃acc,H4 D=some (.lst acc)/\acc.length<sizeLine/\Pv (i+1) (upd H4 D (.lst (acc++[y])))else Pv (i+1) H3) (hd:∀H,Pv xs.length H->Qd H):
  ∃W:Nat->Nat->Hp->Prop,(∃m,W 0 m (upd H1 D (.lst [])))/\∀i m H,W i m H ->
   ((Itt K a).stop i H/\Qd H)\/((Itt K a).go i H/\∃Nx:Hp->Prop,(∀H',Nx H'->∃m',m'<m/\W (i+1) m' H')/\∀x H',(Itt K a).yld i H x H'->g x (wipe σ vs) H' fun σ2 H2=>wipe σ2 vs=wipe σ vs/\tt σ2 H2 fun b H3=>
    if b=true then te σ2 H3 fun y H4=>∃acc,H4 D=some (.lst acc)/\acc.length<sizeLine/\Nx (upd H4 D (.lst (acc++[y])))else Nx H3):=by
 refine⟨fun i m H=>m=xs.length - i/\i<=xs.length/\Pv i H,⟨xs.length,by simp,cj _,h0⟩,?_⟩;rintro i m H ⟨rfl,hi,p⟩;have q:=hl i H hi p;by_cases kh:i<xs.length
 ·refine .inr ⟨⟨xs,xs[i],q,by simp[kh]⟩,Pv (i+1),fun H' p'=>⟨xs.length - (i+1),by omega,rfl,kh,p'⟩,fun x H' y=>?_⟩;obtain⟨e,y⟩:=y;subst e;exact hs i x _ (y xs q) p
 ·have e:i=xs.length:=by omega
  subst e;exact .inl ⟨⟨xs,q,ay _⟩,hd H p⟩
noncomputable def SQ(N:List Str)(sc scope:Scope)(own:List (Str×Nat)):Bool:=
 (match scope.kind with| .function=>true|_=>false)&& (scope.names.all fun y=>decide (scope.names.lookup y.1=some y.2))&& (own.all fun p=>decide (N[p.2]? =some p.1))&&
  (scope.names.all fun y=>match y.2 with
   | .free=>(match sc.names.lookup y.1 with|some .cell=>true|some .free=>true|_=>false)
   | .local=>decide (y.1∈own.map (·.1))||decide (y.1∉N)
   | .cell=>decide (y.1∈own.map (·.1))||decide (y.1∉N)
   |_=>true)
theorem eG{N:List Str}{sc scope:Scope}{own:List (Str×Nat)}(h:SQ N sc scope own=true):p8 N sc scope own:=by
 unfold SQ at h;simp only[dm,ir,decide_eq_true_eq]at h;obtain⟨⟨⟨h1,h2⟩,h3⟩,h4⟩:=h;refine⟨?_,h2,h3,fun y hy e=>?_,fun y hy e=>?_⟩
 ·split at h1
  ·assumption
  ·cases h1
 ·have q:=h4 y hy;simp only[e]at q;split at q<;>first|exact .inl (by assumption)|exact .inr (by assumption)|cases q
 ·have q:=h4 y hy;rcases e with e|e<;>(simp only[e,or_eq_true,decide_eq_true_eq]at q;exact q)
section
variable {κ:Type} [DecidableEq κ]
noncomputable def rZ(kvs:List (κ×V))(k:κ):Option V:=(kvs.find? fun kv=>decide (kv.1=k)).map (·.2)
noncomputable def putK(kvs:List (κ×V))(k:κ)(v:V):List (κ×V):=
 if(kvs.any fun kv=>decide (kv.1=k))=true then kvs.map (fun kv=>if kv.1=k then(kv.1,v)else kv)else kvs++[(k,v)]
theorem n4{p:κ×V}{r:List (κ×V)}{k:κ}(e:p.1=k):rZ (p::r) k=some p.2:=by simp[rZ,ji,e]
theorem n6{p:κ×V}{r:List (κ×V)}{k:κ}(e:¬p.1=k):rZ (p::r) k=rZ r k:=by simp[rZ,ji,e]
theorem xS(k:κ):∀kvs:List (κ×V),(kvs.any fun kv=>decide (kv.1=k))=(rZ kvs k).isSome
 |[]=>rfl
 |p::r=>by
  rw[any_cons];by_cases e:p.1=k
  ·simp only[n4 e,decide_eq_true e,Bool.true_or,Option.isSome_some]
  ·rw[n6 e,decide_eq_false e,Bool.false_or];exact xS k r
theorem kK(kvs:List (κ×V))(k:κ)(v:V):(putK kvs k v).length<=kvs.length+1:=by
 unfold putK;split
 ·rw[ag];omega
 ·rw[aj,bq,fg];omega
theorem mX.j1{o:Option V}{u:Option Value}(r:mX o u):o.isSome=u.isSome:=by
 cases o with
 |none=>cases u with
  |none=>rfl
  |some _=>exact(show False from r).elim
 |some _=>cases u with
  |none=>exact(show False from r).elim
  |some _=>rfl
theorem mX.getD{o:Option V}{u:Option Value}{d:V}{d':Value}(r:mX o u)(rd:RelV d d'):RelV (o.getD d) (u.getD d'):=by
 cases o with
 |none=>cases u with
  |none=>exact rd
  |some _=>exact(show False from r).elim
 |some _=>cases u with
  |none=>exact(show False from r).elim
  |some _=>exact r
theorem KV.val{kvs:List (κ×V)}{vs:List (κ×Value)}(r:KV kvs vs)(k:κ):mX (rZ kvs k) (valueAt vs k):=by
 unfold KV at r;induction r with
 |nil=>exact True.intro
 | @cons p q ps qs h t ih=>
  obtain⟨h1,h2⟩:=h;by_cases e:p.1=k
  ·have e':q.1=k:=h1.symm.trans e;have b:valueAt (q::qs) k=some q.2:=by simp[valueAt,ji,e']
   rw[n4 e,b];exact h2
  ·have e':¬q.1=k:=fun z=>e (h1.trans z)
   have b:valueAt (q::qs) k=valueAt qs k:=by simp[valueAt,ji,e']
   rw[n6 e,b];exact ih
theorem KV.any{kvs:List (κ×V)}{vs:List (κ×Value)}(r:KV kvs vs)(k:κ):(kvs.any fun kv=>decide (kv.1=k))=vs.any fun kv=>decide (kv.1=k):=by
 unfold KV at r;induction r with
 |nil=>rfl
 |cons h t ih=>rw[any_cons,any_cons,ih,h.1]
theorem KV.MD{kvs:List (κ×V)}{vs:List (κ×Value)}(r:KV kvs vs)(k:κ){y:V}{u:Value}(ry:RelV y u):
  KV (kvs.map fun kv=>if kv.1=k then(kv.1,y)else kv) (vs.map fun kv=>if kv.1=k then(kv.1,u)else kv):=by
 unfold KV at r ⊢;induction r with
 |nil=>exact .nil
 | @cons p q ps qs h t ih=>
  rw[bo,bo];refine .cons ?_ ih;obtain⟨h1,h2⟩:=h;by_cases e:p.1=k
  ·rw[ah e,ah (h1.symm.trans e)];exact⟨h1,ry⟩
  ·rw[af e,af (fun z=>e (h1.trans z))];exact⟨h1,h2⟩
theorem KV.put{kvs:List (κ×V)}{vs:List (κ×Value)}(r:KV kvs vs)(k:κ){y:V}{u:Value}(ry:RelV y u):KV (putK kvs k y) (stored vs k u):=by
 unfold putK stored;rw[r.any k];by_cases e:(vs.any fun kv=>decide (kv.1=k))=true
 ·rw[ah e,ah e];exact r.MD k ry
 ·rw[af e,af e];exact Paired.snoc r ⟨rfl,ry⟩
theorem KV.length{kvs:List (κ×V)}{vs:List (κ×Value)}(r:KV kvs vs):kvs.length=vs.length:=Paired.length r
end
theorem tJ{P:Program}{w:World}{k:Key}{u:Value}(r:RelV (kV k) u):(cD P w).is k u=true:=by
 cases k with
 |inl i=>obtain⟨t,e⟩:=(show∃t,u=Value.int i t from r);subst e;exact yP P w i t
 |inr x=>obtain⟨t,e⟩:=(show∃t,u=Value.str x t from r);subst e;exact yO P w x t
theorem vR{P:Program}{w:World}:∀{ks:List Key}{us:List Value},Vals (ks.map kV) us->ItemsAre (cD P w) ks us
 |[],_,r=>by rw[ja]at r;cases r;exact .nil
 |k::ks,_,r=>by
  rw[bo]at r;cases r with
  |cons h t=>exact .cons (tJ h) (vR t)
noncomputable abbrev KT(H:Hp):List (List Key×V)->List (List Key×Addr×Value)->Prop:=Paired fun p q=>p.1=q.1/\H q.2.1=some (.tup (p.1.map kV))/\RelV p.2 q.2.2
theorem KT.val{H:Hp}{kvs:List (List Key×V)}{xs:List (List Key×Addr×Value)}(r:KT H kvs xs)(k:List Key):mX (rZ kvs k) ((atKey xs k).map (·.2)):=by
 induction r with
 |nil=>exact True.intro
 | @cons p q ps qs h t ih=>
  obtain⟨h1,_,h2⟩:=h;by_cases e:p.1=k
  ·have e':q.1=k:=h1.symm.trans e;have b:atKey (q::qs) k=some q.2:=by simp[atKey,ji,e']
   rw[n4 e,b];exact h2
  ·have e':¬q.1=k:=fun z=>e (h1.trans z)
   have b:atKey (q::qs) k=atKey qs k:=by simp[atKey,ji,e']
   rw[n6 e,b];exact ih
theorem KT.MD{H:Hp}{kvs:List (List Key×V)}{xs:List (List Key×Addr×Value)}(r:KT H kvs xs)(k:List Key){y:V}{u:Value}(ry:RelV y u):
  KT H (kvs.map fun kv=>if kv.1=k then(kv.1,y)else kv) (xs.map (putAt k u)):=by
 induction r with
 |nil=>exact .nil
 | @cons p q ps qs h t ih=>
  rw[bo,bo];refine .cons ?_ ih;obtain⟨h1,h2,h3⟩:=h;unfold putAt;by_cases e:p.1=k
  ·rw[ah e,ah (h1.symm.trans e)];exact⟨h1,h2,ry⟩
  ·rw[af e,af (fun z=>e (h1.trans z))];exact⟨h1,h2,h3⟩
theorem KT.put{H:Hp}{kvs:List (List Key×V)}{xs:List (List Key×Addr×Value)}(r:KT H kvs xs)(k:List Key){b:Addr}{y:V}{u:Value}(hb:H b=some (.tup (k.map kV)))(ry:RelV y u):
  KT H (putK kvs k y) (storedH xs k b u):=by
 have e:(kvs.any fun kv=>decide (kv.1=k))=(atKey xs k).isSome:=by rw[xS,(r.val k).j1,Option.isSome_map]
 unfold putK storedH;rw[e];by_cases q:(atKey xs k).isSome=true
 ·rw[ah q,ah q];exact r.MD k ry
 ·rw[af q,af q];exact Paired.snoc r ⟨rfl,hb,ry⟩
theorem KT.keeps{H H':Hp}{kvs:List (List Key×V)}{xs:List (List Key×Addr×Value)}(r:KT H kvs xs)(ht:∀b ys,H b=some (.tup ys)->H' b=some (.tup ys)):KT H' kvs xs:=
 Paired.ML r fun _ _ z=>⟨z.1,ht _ _ z.2.1,z.2.2⟩
section
variable {P:Program}{w:World}{H:Hp}{h:Heap}{a:Addr}
theorem LM{u:HO}(ok:HOk P w H h)(e:Rd H a u):dG P w H h a u:=e.ok ok
theorem rA{kvs:List (Key×V)}(ok:HOk P w H h)(e:Rd H a (.dK kvs)):kvs.length<=sizeLine/\(a==sysModules)=false/\∃vs,KV kvs vs/\h.DictOf (cD P w) a vs:=
 show dG P w H h a (.dK kvs)from LM ok e
theorem SN{kvs:List (Key×V)}(ok:HOk P w H h)(e:H a=some (.dK kvs)):kvs.length<=sizeLine/\(a==sysModules)=false/\∃vs,KV kvs vs/\h.DictOf (cD P w) a vs:=rA ok (.inl e)
theorem kM{ks:List Key}(ok:HOk P w H h)(e:H a=some (.tup (ks.map kV))):(tupleKind (cD P w)).is h ks a:=by obtain⟨_,its,r,o,h1,h2,n,h3⟩:=(show dG P w H h a (.tup (ks.map kV))from ok a _ e);exact⟨o,its.toArray,n,h1,h2,h3,by simpa using vR r⟩
theorem oR{kvs:List (List Key×V)}(ok:HOk P w H h)(e:Rd H a (.dT kvs)):kvs.length<=sizeLine/\(a==sysModules)=false/\
  ∃xs,KT H kvs xs/\h.DictOfH (tupleKind (cD P w)) a xs:=by
 obtain⟨z,y,xs,r,o,es,ep,h1,h2,h3,h4,h5⟩:=(show dG P w H h a (.dT kvs)from LM ok e);refine⟨z,y,xs,r,o,es,ep,h1,h2,h3,h4,fun x hx=>?_,h5⟩;have all:∀{l:List (List Key×V)}{m:List (List Key×Addr×Value)},KT H l m->∀x∈m,(tupleKind (cD P w)).is h x.1 x.2.1:=by
  intro l m q;induction q with
  |nil=>intro x hx;exact nomatch hx
  | @cons p q ps qs hq t ih=>
   intro x hx;rcases ar.mp hx with e|hx
   ·subst e;exact kM ok (by rw[<- hq.1];exact hq.2.1)
   ·exact ih x hx
 exact all r x hx
theorem SM{kvs:List (List Key×V)}(ok:HOk P w H h)(e:H a=some (.dT kvs)):kvs.length<=sizeLine/\(a==sysModules)=false/\
  ∃xs,KT H kvs xs/\h.DictOfH (tupleKind (cD P w)) a xs:=oR ok (.inl e)
end
noncomputable def lG(H:Hp)(a:Addr)(y:V)(r:Option V):Prop:=
 (∃kvs k,Rd H a (.dK kvs)/\y=kV k/\r=rZ kvs k)\/∃kvs k b,Rd H a (.dT kvs)/\y=.ref b/\H b=some (.tup (k.map kV))/\r=rZ kvs k
noncomputable def LL(H:Hp)(a:Addr)(y v:V)(H':Hp):Prop:=
 (∃kvs k,H a=some (.dK kvs)/\y=kV k/\kvs.length<sizeLine/\H'=upd H a (.dK (putK kvs k v)))\/
 ∃kvs k b,H a=some (.dT kvs)/\y=.ref b/\H b=some (.tup (k.map kV))/\kvs.length<sizeLine/\H'=upd H a (.dT (putK kvs k v))
section
variable {X:Cx}{jx:List (Addr×Obj)}{σ:St}{H:Hp}{s:Shared}{a:Addr}{y v:V}{u r:Value}{o:Option V}{A:Around}{E:Value->Shared->Prop}
theorem Inv.big(I:Inv X jx σ H s):sysModules<s.heap.objs.size:=by have h:mainGlobals<s.heap.objs.size:=(I.mod.glob.keeps I.bk).lt;exact Nat.lt_trans (by decide) h
theorem FR{Q:Value->Shared->Prop}(hu:A.units+1<cLine)(I:Inv X jx σ H s)(g:lG H a y (some v))(ry:RelV y u)(h:∀w' s',Inv X jx σ H s'->RelV v w'->Q w' s'):
  wpAny (model X.prog X.w) A (getItem (.ref a) u) Q E s:=by
 rcases g with⟨kvs,k,e,ey,l⟩|⟨kvs,k,b,e,ey,eb,l⟩
 ·subst ey;obtain⟨z,hd,vs,rel,dd⟩:=rA I.hok e;obtain⟨w',hw,rf⟩:=mX.some_of (v:=v) (o:=valueAt vs k) (by rw[l];exact rel.val k);exact wpAny_getItem_of (tJ ry) dd.mapOf hw (h w' _ (I.tok _) rf)
 ·subst ey;cases (show u=Value.ref b from ry);obtain⟨z,hd,xs,rel,dd⟩:=oR I.hok e;obtain⟨w',hw,rf⟩:=mX.some_of (v:=v) (o:=(atKey xs k).map (·.2)) (by rw[l];exact rel.val k);obtain⟨p,hp,hp2⟩:=Option.map_eq_some_iff.mp hw;refine wpAny_getItem_heap (tupleKind_room_in1 hu) (kM I.hok eb) dd hp ?_;rw[hp2];exact h w' _ (I.tok _) rf
theorem XD{Q:Value->Shared->Prop}(hu:A.units+1<cLine)(I:Inv X jx σ H s)(g:lG H a y o)(ry:RelV y u)(h:∀s',Inv X jx σ H s'->Q (.bool o.isSome) s'):
  wpAny (model X.prog X.w) A (compareOp .In u (.ref a)) Q E s:=by
 rcases g with⟨kvs,k,e,ey,l⟩|⟨kvs,k,b,e,ey,eb,l⟩
 ·subst ey;obtain⟨z,hd,vs,rel,dd⟩:=rA I.hok e;refine wpAny_in_of (tJ ry) hd dd.mapOf ?_;rw[<- (rel.val k).j1,<- l];exact h _ (I.tok _)
 ·subst ey;cases (show u=Value.ref b from ry);obtain⟨z,hd,xs,rel,dd⟩:=oR I.hok e;refine wpAny_in_heap (tupleKind_room_in1 hu) (kM I.hok eb) hd dd ?_;have q:=(rel.val k).j1;rw[Option.isSome_map]at q;rw[<- q,<- l];exact h _ (I.tok _)
theorem L7{Q:Value->Shared->Prop}(hu:A.units+1<cLine)(I:Inv X jx σ H s)(g:lG H a y o)(ry:RelV y u)(h:∀s',Inv X jx σ H s'->Q (.bool (!o.isSome)) s'):
  wpAny (model X.prog X.w) A (compareOp .NotIn u (.ref a)) Q E s:=by
 rcases g with⟨kvs,k,e,ey,l⟩|⟨kvs,k,b,e,ey,eb,l⟩
 ·subst ey;obtain⟨z,hd,vs,rel,dd⟩:=rA I.hok e;refine wpAny_notIn_of (tJ ry) hd dd.mapOf ?_;rw[<- (rel.val k).j1,<- l];exact h _ (I.tok _)
 ·subst ey;cases (show u=Value.ref b from ry);obtain⟨z,hd,xs,rel,dd⟩:=oR I.hok e;refine wpAny_notIn_heap (tupleKind_room_in1 hu) (kM I.hok eb) hd dd ?_;have q:=(rel.val k).j1;rw[Option.isSome_map]at q;rw[<- q,<- l];exact h _ (I.tok _)
theorem DS{h':Heap}{t':Nat}{ob:HO}(I:Inv X jx σ H s)(mu:Mut (H a))(hs:Heap.SameBut a s.heap h')(he:∃q,h'.get? a=some q)(new:dG X.prog X.w (upd H a ob) h' a ob):
  Inv X jx σ (upd H a ob) {s with heap:=h',toks:=t'}:=
 I.write (x:=a) (e:=a) mu (.inl rfl) (fun b q hb z=>(hs.2 b hb).trans z) he new
theorem NA{P:Program}{w:World}{H':Hp}{h':Heap}{kvs:List (Key×V)}{vs:List (Key×Value)}(z:kvs.length<=sizeLine)(hd:(a==sysModules)=false)(rel:KV kvs vs)(dd:h'.DictOf (cD P w) a vs):
  dG P w H' h' a (.dK kvs):=⟨z,hd,vs,rel,dd⟩
theorem FQ{H':Hp}{Q:Unit->Shared->Prop}(hu:A.units+1<cLine)(I:Inv X jx σ H s)(g:LL H a y v H')(ry:RelV y u)(rv:RelV v r)(h:∀s',Inv X jx σ H' s'->Q () s'):
  wpAny (model X.prog X.w) A (setItem (.ref a) u r) Q E s:=by
 rcases g with⟨kvs,k,e,ey,l,eH⟩|⟨kvs,k,b,e,ey,eb,l,eH⟩
 ·subst ey eH;obtain⟨z,hd,vs,rel,dd⟩:=SN I.hok e;have hz:vs.length<=sizeLine:=by rw[<- rel.length];exact z
  have hl:(putK kvs k v).length<=sizeLine:=by have:=kK kvs k v;omega
  refine wpAny_setItem_pairs (hsz:=hz) (tJ ry) dd fun h' Ao hs=>h _ ?_
  have he:∃q,h'.get? a=some q:=let⟨q,_,_,hq,_⟩:=Ao;⟨q,hq⟩
  exact DS I (by rw[e];exact True.intro) hs he (NA hl hd (rel.put k rv) Ao)
 ·subst ey eH;cases (show u=Value.ref b from ry);obtain⟨z,hd,xs,rel,dd⟩:=SM I.hok e;have hz:xs.length<=sizeLine:=by rw[<- Paired.length rel];exact z
  have hl:(putK kvs k v).length<=sizeLine:=by have:=kK kvs k v;omega
  refine wpAny_setItem_heap (hsz:=hz) (tupleKind_room_in1 hu) (kM I.hok eb) dd fun h' Ao hs=>h _ ?_
  obtain⟨q,es,ep,hq,h2,h3,h4,_,h5⟩:=Ao;refine DS I (by rw[e];exact True.intro) hs ⟨q,hq⟩ ⟨hl,hd,_,(rel.put k eb rv).keeps fun c ys ec=>?_,q,es,ep,hq,h2,h3,h4,h5⟩;rw[aB (dF ec e (fun z=>nomatch z))];exact ec
end
noncomputable def SV(i:Expr):Prop:=∀ov iv,subscripted i false ov iv=operate [ov,iv] (getItem ov iv)
theorem JR{prog:Program}{w:World}{A:Around}{E:Value->Shared->Prop}{s:Shared}{env:Env}{kq slice:Expr}{pos:Pos}{T id:String}{Q:Value->Shared->Prop}
  (hl:typeLookup (.type T) "__getitem__" =pure (some (.builtin id))) (hs:SV slice)
  (h:wpAny (model prog w) A (eval kq env) (fun o s₁=>wpAny (model prog w) A (eval slice env) (fun i s₂=>s₂.TypeIs o T/\wpAny (model prog w) A (getItem o i) Q E s₂) E s₁) E s):
  wpAny (model prog w) A (eval (.Subscript kq slice pos) env) Q E s:=by
 refine Subscript_ (wpAny_mono h (fun o s₁ h₁=>wpAny_mono h₁ (fun i s₂ h₂=>?_) fun _ _ x=>x) fun _ _ x=>x);obtain⟨hT,h₂⟩:=h₂;unfold subscriptTail;refine aa ?_;rw[getitemInPython_of_ne hT.not_modules];refine aa (wpAny_specialOf hT hl ?_);have fin:wpAny (model prog w) A (subscripted slice false o i) (fun r s₃=>wpAny (model prog w) A (letTemporaryGo kq o r>>=fun _=>pure r) Q E s₃) E s₂:=by rw[hs o i];exact wpAny_operating (wpAny_mono h₂ (fun r s₃ h₃=>aa (wpAny_letTemporaryGo (ai h₃))) fun _ _ x=>x)
 first
  |exact ai (aa fin)
  |exact aa (ai (aa fin))
  |exact aa fin
theorem zT{X:Cx}{jx:List (Addr×Obj)}{σ:St}{H:Hp}{s:Shared}{a:Addr}{y:V}{o:Option V}(I:Inv X jx σ H s)(g:lG H a y o):s.TypeIs (.ref a) "dict" :=by
 rcases g with⟨kvs,k,e,_,_⟩|⟨kvs,k,b,e,_,_,_⟩
 ·obtain⟨_,_,vs,_,dd⟩:=rA I.hok e;exact dd.typeIs
 ·obtain⟨_,_,xs,_,dd⟩:=oR I.hok e;exact dd.typeIs
noncomputable def O1(td ty:TE):TE:=fun σ H Q=>td σ H fun x H1=>ty σ H1 fun y H2=>∃a v,x=.ref a/\lG H2 a y (some v)/\Q v H2
noncomputable def TB(ty td:TE):TE:=fun σ H Q=>ty σ H fun y H1=>td σ H1 fun x H2=>∃a o,x=.ref a/\lG H2 a y o/\Q (.bl o.isSome) H2
noncomputable def JQ(ty td:TE):TE:=fun σ H Q=>ty σ H fun y H1=>td σ H1 fun x H2=>∃a o,x=.ref a/\lG H2 a y o/\Q (.bl (!o.isSome)) H2
noncomputable def O7(td ty tv:TE):TS:=fun D σ H=>tv σ H fun v H1=>td σ H1 fun x H2=>ty σ H2 fun y H3=>∃a H4,x=.ref a/\LL H3 a y v H4/\D.nx σ H4
section
variable {X:Cx}{o i e kq:Expr}{pos lj nu:Pos}{td ty tv:TE}
theorem fN(hu:X.A.units+1<cLine)(ho:PE X o td)(hi:PE X i ty)(hs:SV i):PE X (.Subscript o i pos) (O1 td ty):=by intro jx s σ H Q I h;refine JR PySem.F.slot_dict_getitem.lookup hs (thn (ho jx s σ H _ I h) fun u s1 ⟨x,H1,I1,rx,q1⟩=>thn (hi jx s1 σ H1 _ I1 q1) fun iv s2 ⟨y,H2,I2,ry,a,v,ex,g,q2⟩=>?_);subst ex;obtain rfl:u=Value.ref a:=rx;exact⟨zT I2 g,FR hu I2 g ry fun w' s3 I3 rf=>⟨v,H2,I3,rf,q2⟩⟩
theorem B0(hu:X.A.units+1<cLine)(hi:PE X i ty)(ho:PE X o td):PC X .In i o (TB ty td):=by
 intro jx s σ H Q I h;refine thn (hi jx s σ H _ I h) fun iv s1 ⟨y,H1,I1,ry,q1⟩=>thn (ho jx s1 σ H1 _ I1 q1) fun u s2 ⟨x,H2,I2,rx,a,ov,ex,g,q2⟩=>?_
 subst ex;obtain rfl:u=Value.ref a:=rx;exact XD hu I2 g ry fun s3 I3=>⟨.bl ov.isSome,H2,I3,rfl,q2⟩
theorem d5(hu:X.A.units+1<cLine)(hi:PE X i ty)(ho:PE X o td):PC X .NotIn i o (JQ ty td):=by
 intro jx s σ H Q I h;refine thn (hi jx s σ H _ I h) fun iv s1 ⟨y,H1,I1,ry,q1⟩=>thn (ho jx s1 σ H1 _ I1 q1) fun u s2 ⟨x,H2,I2,rx,a,ov,ex,g,q2⟩=>?_
 subst ex;obtain rfl:u=Value.ref a:=rx;exact L7 hu I2 g ry fun s3 I3=>⟨.bl (!ov.isSome),H2,I3,rfl,q2⟩
theorem fM(hu:X.A.units+1<cLine)(ho:PE X o td)(hi:PE X i ty)(hv:PE X kq tv)(hs:swapsWith kq (some (.Subscript o i lj)) pos.line X.env=pure false):
  PS X (.Assign [.Subscript o i lj] kq pos) (O7 td ty tv):=by
 intro jx s σ H D I h;refine wpAny_Assign_Subscript (thn (hv jx s σ H _ I h) fun r s1 ⟨v,H1,I1,rv,q1⟩=>thn (ho jx s1 σ H1 _ I1 q1) fun u s2 ⟨x,H2,I2,rx,q2⟩=>thn (hi jx s2 σ H2 _ I2 q2) fun iv s3 ⟨y,H3,I3,ry,a,H4,ex,g,q3⟩=>?_) hs;subst ex;obtain rfl:u=Value.ref a:=rx;exact FQ hu I3 g ry rv fun s4 I4=>⟨σ,H4,I4,q3⟩
end
theorem J9{P:Program}{w:World}{H:Hp}(h:Heap)(hb:sysModules<h.objs.size):dG P w H (h.push {cls:=.type "dict",data:=.dict #[]}) h.objs.size (.dT []):=
 ⟨cj _,beq_eq_false_iff_ne.mpr (Ne.symm (da hb)),[],.nil,_,#[],0,bc _ rfl,⟨rfl,rfl,rfl⟩,rfl,rfl,nodup_nil⟩
def M6:TE:=fun _ H Q=>∀p,H p=none->Q (.ref p) (upd H p (.dT []))
section
variable {X:Cx}{pos:Pos}
theorem eB:PE X (.Dict [] [] pos) M6:=fun jx s σ H Q I h=>
 wpAny_Dict_empty ⟨.ref s.heap.objs.size,_,I.laid (a:=s.heap.objs.size) (o:=.dT []) (t':=s.toks) (fun _ _ q=>ao _ q) (ay _) (J9 s.heap I.big),rfl,h _ (I.hok.fresh (ay _))⟩
end
structure M1(X:Cx)(o:Expr)(m:Str)(md:Pos)(e:Expr)(kg:Pos):Prop where
 base:attributeBase o m X.env (eval o X.env)=eval o X.env
 few:((backTo kg (starEach [e] X.env)).all (fun x=>!x.1)&& (backToKw kg (keywordEach [] X.env)).all (fun x=>x.1.isSome)
  && decide (([e]:List Expr).length+([]:List Keyword).length+(if([]:List Keyword).isEmpty then 0 else 1)<30))=true
 line:(md.endLine==kg.line)=true
 trees:backTo kg (starEach [e] X.env)=[(false,eval e X.env)]
structure M2(X:Cx)(o:Expr)(m:Str)(md:Pos)(e f:Expr)(kg:Pos):Prop where
 base:attributeBase o m X.env (eval o X.env)=eval o X.env
 few:((backTo kg (starEach [e,f] X.env)).all (fun x=>!x.1)&& (backToKw kg (keywordEach [] X.env)).all (fun x=>x.1.isSome)
  && decide (([e,f]:List Expr).length+([]:List Keyword).length+(if([]:List Keyword).isEmpty then 0 else 1)<30))=true
 line:(md.endLine==kg.line)=true
 trees:backTo kg (starEach [e,f] X.env)=[(false,eval e X.env),(false,eval f X.env)]
def IsD(H:Hp)(a:Addr):Prop:=(∃kvs,Rd H a (.dK kvs))\/∃kvs,Rd H a (.dT kvs)
theorem IT{X:Cx}{jx:List (Addr×Obj)}{σ:St}{H:Hp}{s:Shared}{a:Addr}(I:Inv X jx σ H s)(d:IsD H a):
  s.TypeIs (.ref a) "dict" /\(∀b,Value.ref a=.ref b->∃ob,s.heap.get? b=some ob/\ob.dict=none)/\(a==sysModules)=false:=by
 rcases d with⟨kvs,e⟩|⟨kvs,e⟩
 ·obtain⟨_,hd,vs,_,dd⟩:=rA I.hok e;refine⟨dd.typeIs,fun b q=>?_,hd⟩;cases q;obtain⟨ob,_,_,h1,h2,_⟩:=dd;exact⟨ob,h1,h2.2.1⟩
 ·obtain⟨_,hd,xs,_,dd⟩:=oR I.hok e;refine⟨dd.typeIs,fun b q=>?_,hd⟩;cases q;obtain⟨ob,_,_,h1,h2,_⟩:=dd;exact⟨ob,h1,h2.2.1⟩
section
variable {X:Cx}{jx:List (Addr×Obj)}{σ:St}{H:Hp}{s:Shared}{a:Addr}{y d:V}{u r:Value}{o:Option V}{A:Around}{E:Value->Shared->Prop}
theorem NG{Q:Value->Shared->Prop}(hu:A.units+1<cLine)(I:Inv X jx σ H s)(g:lG H a y o)(ry:RelV y u)(h:∀w' s',Inv X jx σ H s'->RelV (o.getD .non) w'->Q w' s'):
  wpAny (model X.prog X.w) A (call (.builtin "dict.get") [.ref a,u]) Q E s:=by
 rcases g with⟨kvs,k,e,ey,l⟩|⟨kvs,k,b,e,ey,eb,l⟩
 ·subst ey;obtain⟨z,hd,vs,rel,dd⟩:=rA I.hok e;refine call_meetsIn PySem.F.slot_dict_get dd.typeIs PySem.F.entry_dict_get (PySem.F.args_dict_get_2 _ _) (meets_dict_get (cD X.prog X.w) a (tJ ry) hd) ⟨_,dd.mapOf,h _ _ (I.tok _) ?_⟩;rw[l];exact(rel.val k).getD rfl
 ·subst ey;cases (show u=Value.ref b from ry);obtain⟨z,hd,xs,rel,dd⟩:=oR I.hok e;refine call_meetsIn PySem.F.slot_dict_get dd.typeIs PySem.F.entry_dict_get (PySem.F.args_dict_get_2 _ _) (meetsH_dict_get (tupleKind (cD X.prog X.w)) a b hd) ⟨tupleKind_room_in1 hu,k,xs,kM I.hok eb,dd,h _ _ (I.tok _) ?_⟩;rw[l];exact(rel.val k).getD rfl
theorem NF{Q:Value->Shared->Prop}(hu:A.units+1<cLine)(I:Inv X jx σ H s)(g:lG H a y o)(ry:RelV y u)(rd:RelV d r)(h:∀w' s',Inv X jx σ H s'->RelV (o.getD d) w'->Q w' s'):
  wpAny (model X.prog X.w) A (call (.builtin "dict.get") [.ref a,u,r]) Q E s:=by
 rcases g with⟨kvs,k,e,ey,l⟩|⟨kvs,k,b,e,ey,eb,l⟩
 ·subst ey;obtain⟨z,hd,vs,rel,dd⟩:=rA I.hok e;refine call_meetsIn PySem.F.slot_dict_get dd.typeIs PySem.F.entry_dict_get (PySem.F.args_dict_get_3 _ _ _) (meets_dict_get_default (cD X.prog X.w) a (tJ ry) hd r) ⟨_,dd.mapOf,h _ _ (I.tok _) ?_⟩;rw[l];exact(rel.val k).getD rd
 ·subst ey;cases (show u=Value.ref b from ry);obtain⟨z,hd,xs,rel,dd⟩:=oR I.hok e;refine call_meetsIn PySem.F.slot_dict_get dd.typeIs PySem.F.entry_dict_get (PySem.F.args_dict_get_3 _ _ _) (meetsH_dict_get_default (tupleKind (cD X.prog X.w)) a b hd r) ⟨tupleKind_room_in1 hu,k,xs,kM I.hok eb,dd,h _ _ (I.tok _) ?_⟩;rw[l];exact(rel.val k).getD rd
end
noncomputable def M8(td ty:TE):TE:=fun σ H Q=>td σ H fun x H1=>∃a,x=.ref a/\IsD H1 a/\ty σ H1 fun y H2=>∃o,lG H2 a y o/\Q (o.getD .non) H2
noncomputable def M7(td ty tx:TE):TE:=fun σ H Q=>td σ H fun x H1=>∃a,x=.ref a/\IsD H1 a/\ty σ H1 fun y H2=>tx σ H2 fun z H3=>∃o,lG H3 a y o/\Q (o.getD z) H3
section
variable {X:Cx}{o e f:Expr}{md kg:Pos}{td ty tx:TE}
theorem HJ(hu:X.A.units+1<cLine)(ho:PE X o td)(he:PE X e ty)(m:M1 X o "get" md e kg):PE X (.Call (.Attribute o "get" md) [e] [] kg) (M8 td ty):=by intro jx s σ H Q I h;refine wpAny_Call_method m.base m.few m.line PySem.F.plainAttrs_dict PySem.F.slot_dict_get PySem.F.type_dict_get (thn (ho jx s σ H _ I h) fun u s1 ⟨x,H1,I1,rx,a,ex,d,q1⟩=>?_);subst ex;obtain rfl:u=Value.ref a:=rx;obtain⟨t1,t2,_⟩:=IT I1 d;refine⟨t1,t2,?_⟩;rw[m.trees];refine Calls.callWith_builtin rfl (Calls.evalArgs_plain (Calls.spliced_cons (thn (he jx s1 σ H1 _ I1 q1) fun iv s2 ⟨y,H2,I2,ry,ov,g,q2⟩=>Calls.spliced_nil ?_)));exact NG hu I2 g ry fun w' s3 I3 rf=>⟨_,H2,I3,rf,q2⟩
theorem HI(hu:X.A.units+1<cLine)(ho:PE X o td)(he:PE X e ty)(hf:PE X f tx)(m:M2 X o "get" md e f kg):PE X (.Call (.Attribute o "get" md) [e,f] [] kg) (M7 td ty tx):=by
 intro jx s σ H Q I h;refine wpAny_Call_method m.base m.few m.line PySem.F.plainAttrs_dict PySem.F.slot_dict_get PySem.F.type_dict_get (thn (ho jx s σ H _ I h) fun u s1 ⟨x,H1,I1,rx,a,ex,d,q1⟩=>?_);subst ex;obtain rfl:u=Value.ref a:=rx;obtain⟨t1,t2,_⟩:=IT I1 d;refine⟨t1,t2,?_⟩;rw[m.trees];refine Calls.callWith_builtin rfl (Calls.evalArgs_plain (Calls.spliced_cons (thn (he jx s1 σ H1 _ I1 q1) fun iv s2 ⟨y,H2,I2,ry,q2⟩=>
  Calls.spliced_cons (thn (hf jx s2 σ H2 _ I2 q2) fun fv s3 ⟨z,H3,I3,rz,ov,g,q3⟩=>Calls.spliced_nil ?_))))
 exact NF hu I3 g ry rz fun w' s4 I4 rf=>⟨_,H3,I4,rf,q3⟩
end
theorem tH:typeLookup (.type "list") "keys" =pure none:=am_miss_of_fast (by first|decide+kernel|rfl)
theorem xT:entryFor table "dict.update.loop" =some Builtin.«dict.update.loop» :=entryFor_of_tree (by kernel_rfl)
theorem kC:plainId "dict.update.loop" =true:=by decide+kernel
section
variable {prog:Program}{w:World}{A:Around}{E:Value->Shared->Prop}
theorem EV{s:Shared}{a:Addr}{o:Obj}{xs:Array Value}{k:Nat}{Q:Option Value->Shared->Prop}(hx:s.heap.get? a=some o)(hc:o.cls=.type "list")(lz:o.data=.seq xs k)(hd:o.dict=none)(hA:A.handled=none)
  (h:∀h' tk,(∀b ob,s.heap.get? b=some ob->h'.get? b=some ob)->Q none {s with heap:=h',toks:=tk}):wpAny (model prog w) A (getAttr? (.ref a) "keys") Q E s:=by
 obtain⟨c,dct,dat,sl⟩:=o;simp only at hc lz hd;subst hc lz hd;obtain⟨hp,g,d,tk,os⟩:=s;have hT:∀tk',(⟨hp,g,d,tk',os⟩:Shared).TypeIs (.ref a) "list" :=fun _=>⟨_,hx,rfl⟩
 have Dd:=tH;have Cz:(["__module__","__name__","__qualname__","__doc__","__annotations__"]:List Str).contains "keys" =false:=by decide+kernel
 have hsz:("keys" : Str).length+100<=sizeLine:=by first|size_fits|decide+kernel
 have f1:=sub_AttributeError;have f3:=PySem.F.slot_list_getattribute.lookup;have f4:=PySem.F.slot_list_getattribute.bind (.ref a);have f5:=am_list_getattr_none;unfold getAttr? getAttrBy? getAttrBy
 repeat (any_goals (first|assumption|exact hT _|((with_reducible show wpAny _ _ (call (Value.builtin "list.__getattribute__") _ _) _ _ _);refine call_meets PySem.F.slot_list_getattribute (hT _) am_entry_list_getattribute (PySem.F.args_list_getattribute_2 _ _) (meets_getattribute_miss_list a xs k sl "keys" _ Dd Cz hsz) ⟨hx,hA,fun h' tk' e Az=>?_⟩)|wp_step))
 obtain⟨t',u',he⟩:=Az.there;show wpAny _ _ (getattributeRaised _ _ _ _ _ _ _) _ _ _
 unfold getattributeRaised
 repeat (any_goals (first|assumption|wp_step))
 all_goals first|exact h _ _ Az.keeps|(dsimp only;repeat (any_goals (first|assumption|exact h _ _ Az.keeps|wp_step)))
end
section
variable {X:Cx}
theorem jA:∀{ps:List Addr}{us:List Value},Vals (ps.map V.ref) us->us=ps.map Value.ref
 |[],us,r=>by rw[ja]at r;cases r;rfl
 |p::ps,us,r=>by
  rw[bo]at r;cases r with
  |cons h t=>cases h;rw[bo,<- jA t]
end
section
variable {X:Cx}{jx:List (Addr×Obj)}{σ:St}{H:Hp}{s:Shared}{h':Heap}
theorem Inv.uV{t':Nat}{ch:List Addr}{T:Addr}{ob:HO}(I:Inv X jx σ H s)(k:∀b o,b∉ch->s.heap.get? b=some o->h'.get? b=some o)(hf:∀b∈ch,mY X jx H b)(hT:s.heap.objs.size<=T)
  (new:dG X.prog X.w (upd H T ob) h' T ob):Inv X jx σ (upd H T ob) {s with heap:=h',toks:=t'}:=by
 have hn:H T=none:=I.hok.fresh hT;have Bz:∀b u,H b=some u->b∉ch:=fun b u e z=>by have q:=(hf b z).1;rw[q]at e;cases e
 refine I.step (g':=s.gens) (d':=s.drawn) (ch:=ch) (fun b hb=>⟨(hf b hb).2.2.2.1,(hf b hb).2.1,(hf b hb).2.2.2.2.1,(hf b hb).2.2.2.2.2⟩) (fun b o _ _ hc e _=>k b o hc e) (fun b o _ _ hc e _=>⟨o.slots,k b o hc e⟩)
  (fun b o _ e n=>?_) (fun b o hc e=>⟨o,k b o hc e⟩) (fun b xs e=>?_) (fun b o u e=>?_) (fun b ps e=>⟨#[],?_⟩) (fun m hm=>?_) (fun b u e=>?_) I.bare
 ·rw[aB (da (cb (bu e) hT))];exact n
 ·rw[aB (aH e hn)];exact e
 ·rw[aB (aH e hn)];exact e
 ·rw[aB (aH e hn),e];simp
 ·obtain⟨o,es,ep,ho,r⟩:=hm;exact⟨o,es,ep,k _ o (fun z=>(hf _ z).2.1 rfl) ho,r⟩
 ·by_cases hb:b=T
  ·subst hb;rw[a8]at e;cases e;exact new
  ·rw[aB hb]at e;refine(I.hok b u e).nE (fun c v hc q=>k c v ?_ q) (fun c q=>by rw[aB (aH q hn)];exact q) fun c xs q=>by rw[aB (aH q hn)];exact q
   rcases hc with z|z
   ·rw[z];exact Bz b u e
   ·exact Bz c _ z
theorem Inv.lock{d:Addr}{u:HO}(I:Inv X jx σ H s)(h:H d=some u)(mu:Mut (some u)):∃od,Inv X jx σ (upd H d (.frz od u)) s:=by
 have x:=I.hok d u h;have ex:∃od,s.heap.get? d=some od:=by
  cases u with
  |lst xs=>obtain⟨_,_,_,_,e⟩:=x;exact⟨_,e⟩
  |dK kvs=>obtain⟨_,_,_,_,o,_,_,e,_⟩:=x;exact⟨o,e⟩
  |dT kvs=>obtain⟨_,_,_,_,o,_,_,e,_⟩:=x;exact⟨o,e⟩
  |set S n=>obtain⟨o,_,_,_,e,_⟩:=x;exact⟨o,e⟩
  |ins C dx fs=>obtain⟨_,_,_,e,_⟩:=x;exact⟨_,e⟩
  |ext φ=>obtain⟨_,⟨_,e⟩,_⟩:=x;exact⟨_,e⟩
  |_=>exact False.elim mu
 obtain⟨od,e⟩:=ex;have new:dG X.prog X.w (upd H d (.frz od u)) s.heap d (.frz od u):=by
  refine⟨e,x.nE (fun b v _ q=>q) (fun b q=>?_) fun b xs q=>?_⟩
  ·rw[aB (fun z=>by rw[z,h]at q;cases q;exact mu)];exact q
  ·rw[aB (fun z=>by rw[z,h]at q;cases q;exact mu)];exact q
 exact⟨od,I.write (x:=d) (e:=d) (t':=s.toks) (h':=s.heap) (by rw[h];exact mu) (.inl rfl) (fun b v _ q=>q) ⟨od,e⟩ new⟩
theorem Inv.vN{d:Addr}{u:HO}(I:Inv X jx σ H s)(h:H d=some u)(mu:Mut (some u)):∀o' u',X.H_0 d≠some (.frz o' u'):=fun o' u' e=>by have q:=I.base.oH d o' u' e;rw[h]at q;cases q;exact mu
theorem Inv.unlock{d:Addr}{od:Obj}{u:HO}(I:Inv X jx σ H s)(h:H d=some (.frz od u))(hn:∀o' u',X.H_0 d≠some (.frz o' u')):Inv X jx σ (upd H d u) s:=by
 have Ax:∀b o,H b=some o->(∀o' u',o≠ .frz o' u')->b≠d:=fun b o e kb z=>by rw[z,h]at e;cases e;exact kb _ _ rfl
 have neN:∀b,H b=none->b≠d:=fun b e z=>by rw[z,h]at e;cases e
 refine⟨I.ok,I.os,I.bare,⟨I.base.keep,I.base.slot,fun b o e n hx=>?_,I.base.there,fun b xs e=>?_,fun b o x e=>?_,fun b ps e=>?_⟩,I.loc,I.cell,?_,fun x c e=>?_,fun p hp=>?_,fun b o e=>?_,I.len⟩
 ·rw[aB (neN b (I.base.free b o e n hx))];exact I.base.free b o e n hx
 ·have q:=I.base.uF b xs e;rw[aB (Ax b _ q (fun _ _ z=>nomatch z))];exact q
 ·have q:=I.base.oH b o x e;rw[aB (fun z=>by rw[z]at e;exact hn _ _ e)];exact q
 ·obtain⟨m,q⟩:=I.base.sD b ps e;exact⟨m,by rw[aB (Ax b _ q (fun _ _ z=>nomatch z))];exact q⟩
 ·rw[aB (neN _ I.free)];exact I.free
 ·rw[aB (neN c (I.iC x c e))];exact I.iC x c e
 ·obtain⟨e,n,r⟩:=I.pin p hp;exact⟨e,by rw[aB (neN _ n)];exact n,r⟩
 ·by_cases hb:b=d
  ·rw[hb,a8]at e;cases e;rw[hb];obtain⟨_,x⟩:=I.hok d _ h;exact x.nE (fun c v _ q=>q) (fun c q=>by rw[aB (Ax c _ q (fun _ _ z=>nomatch z))];exact q) fun c xs q=>by rw[aB (Ax c _ q (fun _ _ z=>nomatch z))];exact q
  ·rw[aB hb]at e;exact(I.hok b o e).nE (fun c v _ q=>q) (fun c q=>by rw[aB (Ax c _ q (fun _ _ z=>nomatch z))];exact q) fun c xs q=>by rw[aB (Ax c _ q (fun _ _ z=>nomatch z))];exact q
end
noncomputable def NY(t:TS):TS:=fun D σ H=>∃d u,H d=some u/\Mut (some u)/\∀od,t ⟨fun σ' H'=>H' d=some (.frz od u)/\D.nx σ' (upd H' d u),fun v H'=>H' d=some (.frz od u)/\D.rt v (upd H' d u),fun σ' H'=>H' d=some (.frz od u)/\D.bk σ' (upd H' d u),fun σ' H'=>H' d=some (.frz od u)/\D.ct σ' (upd H' d u)⟩ σ (upd H d (.frz od u))
noncomputable def M5(t:TE):TE:=fun σ H Q=>∃d u,H d=some u/\Mut (some u)/\∀od,t σ (upd H d (.frz od u)) fun v H'=>H' d=some (.frz od u)/\Q v (upd H' d u)
section
variable {X:Cx}
theorem jC{st:Stmt}{t:TS}(h:PS X st t):PS X st (NY t):=by
 intro jx s σ H D I hw;obtain⟨d,u,hd,mu,hw⟩:=hw;obtain⟨od,I1⟩:=I.lock hd mu;refine thn (h jx s σ _ _ I1 (hw od)) fun f s1 q=>?_
 cases f with
 |next=>obtain⟨σ',H',I2,e,q⟩:=q;exact⟨σ',_,I2.unlock e (I.vN hd mu),q⟩
 |brk=>obtain⟨σ',H',I2,e,q⟩:=q;exact⟨σ',_,I2.unlock e (I.vN hd mu),q⟩
 |cont=>obtain⟨σ',H',I2,e,q⟩:=q;exact⟨σ',_,I2.unlock e (I.vN hd mu),q⟩
 |ret v=>obtain⟨x,σ',H',I2,r,e,q⟩:=q;exact⟨x,σ',_,I2.unlock e (I.vN hd mu),r,q⟩
theorem K2{e:Expr}{t:TE}(h:PE X e t):PE X e (M5 t):=by
 intro jx s σ H Q I hw;obtain⟨d,u,hd,mu,hw⟩:=hw;obtain⟨od,I1⟩:=I.lock hd mu;refine thn (h jx s σ _ _ I1 (hw od)) fun v s1 ⟨x,H1,I2,r,e2,q⟩=>?_
 exact⟨x,_,I2.unlock e2 (I.vN hd mu),r,q⟩
theorem AY{tg:Expr}{jx:List (Addr×Obj)}{σ:St}{H:Hp}{s:Shared}{R:It->Hp->Prop}{J:It}{tn:Nat->Heap->Prop}{tk:Nat}(I:Inv X jx σ H s)(o:Obj)
  (T:Turn X.prog X.w X.K tg J [s.heap.objs.size] s.heap.objs.size tn) (st:tn 0 (s.heap.push o)) (q:R J H):PIE X jx σ tg R (.ref s.heap.objs.size) {s with heap:=s.heap.push o,toks:=tk}:=by
 refine⟨s.heap.objs.size,[s.heap.objs.size],tn,J,H,rfl,I.kept fun b ob e=>ao _ e,T,st,fun b hb=>?_,q⟩;have e:b=s.heap.objs.size:=by simpa using hb
 subst e;exact I.BX (ay _) (I.hok.fresh (ay _))
end
section
variable {prog:Program}{w:World}{A:Around}{E:Value->Shared->Prop}{s:Shared}
theorem pT{d:Addr}{o:Obj}{es:Array DictEntry}{ep:Nat}{Q:Value->Shared->Prop}(hd:(d==sysModules)=false)(ho:s.heap.get? d=some o)(hc:o.ExactDict)(lz:o.data=.dict es ep)
  (hQ:Q (.ref s.heap.objs.size) {s with heap:=s.heap.push {cls:=.type "dict_keyiterator",data:=.fields #[.ref d,.int 0 0,.int es.size 0,.int ep 0]}}):
  wpAny (model prog w) A (pyIter (.ref d)) Q E s:=by
 have hT:s.TypeIs (.ref d) "dict" :=⟨o,ho,hc.1⟩;refine wpAny_pyIter_slot hT F.slot_dict_iter (wpAny_call_entry F.slot_dict_iter hT F.entry_dict_iter ?_ (F.args_dict_iter_1 _));unfold Builtin.«dict.__iter__»;refine aa ?_;unfold Builtin.Dict.dictSlotNone;refine aa (wpAny_notOrdered_dict hT ?_);show wpAny _ _ (pure (Value.ref d)) _ _ s
 refine ai ?_;show wpAny _ _ (Builtin.Dict.showsAll d>>= _) _ _ s
 unfold Builtin.Dict.showsAll;rw[af (by rw[hd];exact bp)];refine aa (ai ?_);refine aa (wpAny_dictEntries ho lz ?_);refine aa (wpAny_dictEpoch ho lz ?_);refine aa (wpAny_newObj_type (ai ⟨_,rfl,"dict_keyiterator",_,⟨_,bc _ rfl,rfl⟩,F.slot_dict_keyiterator_next.lookup,?_⟩));simpa[rawInt]using hQ
theorem mD{it d:Addr}{i n ep:Nat}{od:Obj}{es:Array DictEntry}{en:DictEntry}{Q:Option Value->Shared->Prop}(kx:s.heap.IsKeyIter it d i n ep)(qz:s.heap.get? d=some od)(vd:od.data=.dict es ep)
  (hsz:es.size=n) (hx:es[i]? =some en) (hQ:∀h',h'.IsKeyIter it d (i+1) n ep->Heap.SameBut it s.heap h'->Q (some en.key) {s with heap:=h'}):wpAny (model prog w) A (pyNext (.ref it)) Q E s:=by
 obtain⟨o,ho,hc,hd⟩:=id kx;unfold pyNext;refine aa (wpAny_attempt (wpAny_callSpecial?_slot (name:=Str.ofString "__next__") kx.typeIs F.slot_dict_keyiterator_next
  (wpAny_call_entry F.slot_dict_keyiterator_next kx.typeIs F.entry_dict_keyiterator_next ?_ (F.args_dict_keyiterator_next_1 _))))
 refine aa (ai ?_);refine aa ?_;refine aa ?_;first|refine aa (wpAny_typeNameOfWhole_keyiter kx.typeIs (ai ?_))|refine aa (wpAny_typeNameOf_keyiter kx.typeIs (ai ?_))
 refine aa (wpAny_fieldsOf ho hd ?_);have zy:Builtin.Dict_items.ownsTuple "dict_keyiterator" =false:=by decide
 simp only[zy,jc,if_false];show wpAny _ _ (if(Value.ref d==Value.none)=true then _ else _) _ _ s
 rw[af (show¬((Value.ref d==Value.none)=true)from bp)];refine aa (ai ?_);refine aa (wpAny_dictEntries qz vd ?_);rw[af (by rw[hsz];simp)];refine aa (ai ?_);refine aa (wpAny_dictEpoch qz vd ?_);rw[af (by simp)];refine ai ?_;obtain⟨hlt',qp⟩:=gu.mp hx;simp only[show¬((i:Int)<0)from by omega,if_false,jw,gd hlt'];refine aa ?_;first|refine aa (wpAny_typeNameOfWhole_keyiter kx.typeIs (ai ?_))|refine aa (wpAny_typeNameOf_keyiter kx.typeIs (ai ?_))
 refine aa (wpAny_isOneOf_keyiter kx.typeIs ?_);show wpAny _ _ (setField (.ref it) 1 (rawInt ((i:Int)+1))>>= _) _ _ s
 refine aa (wpAny_setField ho hd (by simp) ?_);have xf:(s.heap.update it (Obj.mapFields (·.setIfInBounds 1 (rawInt ((i:Int)+1))))).IsKeyIter it d (i+1) n ep:=
  ⟨_,Heap.get?_update_self _ ho (Obj.isFreed_of_fields (Obj.data_mapFields hd _)),(Obj.cls_mapFields ..).trans hc,by rw[Obj.data_mapFields hd];simp[rawInt]⟩
 refine aa (wpAny_holding ?_);refine aa (wpAny_isOneOf_keyiter (s:={s with heap:=s.heap.update it (Obj.mapFields (·.setIfInBounds 1 (rawInt ((i:Int)+1))))}) xf.typeIs ?_);show wpAny _ _ (pure es[i].key) _ _ _
 rw[qp];exact ai (ai ⟨_,rfl,ai (hQ _ xf (Heap.SameBut.update ..))⟩)
theorem jF{it d:Addr}{i n ep:Nat}{od:Obj}{es:Array DictEntry}{Q:Option Value->Shared->Prop}(hh:A.handled=none)(kx:s.heap.IsKeyIter it d i n ep)(qz:s.heap.get? d=some od)(vd:od.data=.dict es ep)
  (hsz:es.size=n) (Ae:n<=i) (hQ:∀h',Heap.ExtBut it s.heap h'->Q none {s with heap:=h'}):wpAny (model prog w) A (pyNext (.ref it)) Q E s:=by
 obtain⟨o,ho,hc,hd⟩:=id kx;unfold pyNext;refine aa (wpAny_attempt (wpAny_callSpecial?_slot (name:=Str.ofString "__next__") kx.typeIs F.slot_dict_keyiterator_next
  (wpAny_call_entry F.slot_dict_keyiterator_next kx.typeIs F.entry_dict_keyiterator_next ?_ (F.args_dict_keyiterator_next_1 _))))
 refine aa (ai ?_);refine aa ?_;refine aa ?_;first|refine aa (wpAny_typeNameOfWhole_keyiter kx.typeIs (ai ?_))|refine aa (wpAny_typeNameOf_keyiter kx.typeIs (ai ?_))
 refine aa (wpAny_fieldsOf ho hd ?_);have zy:Builtin.Dict_items.ownsTuple "dict_keyiterator" =false:=by decide
 simp only[zy,jc,if_false];show wpAny _ _ (if(Value.ref d==Value.none)=true then _ else _) _ _ s
 rw[af (show¬((Value.ref d==Value.none)=true)from bp)];refine aa (ai ?_);refine aa (wpAny_dictEntries qz vd ?_);rw[af (by rw[hsz];simp)];refine aa (ai ?_);refine aa (wpAny_dictEpoch qz vd ?_);rw[af (by simp)];refine ai ?_;have hge':es.size<=i:=by rw[hsz];exact Ae
 simp only[show¬((i:Int)<0)from by omega,if_false,jw,getElem?_eq_none hge'];refine aa ?_;first|refine aa (wpAny_typeNameOfWhole_keyiter kx.typeIs (ai ?_))|refine aa (wpAny_typeNameOf_keyiter kx.typeIs (ai ?_))
 show wpAny _ _ (setField (.ref it) 0 .none>>= _) _ _ s
 refine aa (wpAny_setField ho hd (by simp) ?_);show wpAny _ _ (newExc (.type "StopIteration") []>>= _) _ _ _
 refine aa ?_;simp only[newExc,newTuple];refine aa (wpAny_newObj_type ?_ (by size_fits));refine aa (m:=firstArgMember _ _) (wpAny_of_eq (a:=Value.none) (by first|rfl|(simp only[firstArgMember];rfl)) ?_);refine wpAny_newObj_type ?_ (by size_fits);simp only[raiseNew];refine aa (wpAny_handled ?_);rw[show A.in1.handled=none from hh];refine aa (ai (wpAny_throw ?_));refine aa (wpAny_isInstance (T:= "StopIteration") (b:=true) ⟨_,bc _ rfl,rfl⟩ isSubtype_stop ?_);exact ai (hQ _ (((Heap.SameBut.update ..).extBut.push _).push _))
end
theorem MN{κ:Type}{kvs:List (κ×V)}{vs:List (κ×Value)}(h:KV kvs vs):∀{i:Nat}{k:κ}{v:V},kvs[i]? =some (k,v)->∃u,vs[i]? =some (k,u)/\RelV v u:=by
 unfold KV at h;induction h with
 |nil=>intro i k v e;simp at e
 | @cons a b l₁ l₂ r t ih=>
  intro i k v e;cases i with
  |zero=>simp only[List.getElem?_cons_zero,Option.some.injEq]at e;subst e;refine⟨b.2,?_,r.2⟩;simp only[List.getElem?_cons_zero];exact congrArg some (Prod.ext r.1.symm rfl)
  |succ j=>simp only[ia]at e ⊢;exact ih e
theorem B1{α β:Type}{G:α->β->Prop}{l₁:List α}{l₂:List β}(h:Paired G l₁ l₂):∀{i:Nat}{a:α},l₁[i]? =some a->∃b,l₂[i]? =some b/\G a b:=by
 induction h with
 |nil=>intro i a e;simp at e
 | @cons a b l₁ l₂ r t ih=>
  intro i a' e;cases i with
  |zero=>simp only[List.getElem?_cons_zero,Option.some.injEq]at e;subst e;exact⟨b,rfl,r⟩
  |succ j=>simp only[ia]at e ⊢;exact ih e
theorem GV{k:Key}{u:Value}(h:qW k u=true):RelV (kV k) u:=by
 rcases cJ h with⟨i,t,rfl,rfl⟩|⟨x,t,rfl,rfl⟩
 ·exact⟨t,rfl⟩
 ·exact⟨t,rfl⟩
section
variable {X:Cx}{jx:List (Addr×Obj)}{σ:St}{H:Hp}{s:Shared}{d:Addr}{o:Obj}
theorem Inv.MY{kvs:List (Key×V)}(I:Inv X jx σ H s)(h:H d=some (.frz o (.dK kvs))):
  (d==sysModules)=false/\s.heap.get? d=some o/\o.ExactDict/\∃(es:Array DictEntry)(ep:Nat)(vs:List (Key×Value)),o.data=.dict es ep/\es.size=kvs.length/\KV kvs vs/\s.heap.DictAt (cD X.prog X.w) d vs ep:=by
 obtain⟨hd,z,hs,vs,kv,o',es,ep,ho,hx,pd,r⟩:=I.hok d _ h;rw[hd]at ho;cases ho;refine⟨hs,hd,hx,es,ep,vs,pd,?_,kv,o,es,hd,hx,pd,r⟩;have l1:=r.2.1.length;have l2:kvs.length=vs.length:=Paired.length kv;rw[dq]at l1;omega
theorem Inv.MX{kvs:List (List Key×V)}(I:Inv X jx σ H s)(h:H d=some (.frz o (.dT kvs))):
  (d==sysModules)=false/\s.heap.get? d=some o/\o.ExactDict/\∃(es:Array DictEntry)(ep:Nat),o.data=.dict es ep/\es.size=kvs.length/\
   ∀(i:Nat)(k:List Key)(v:V),kvs[i]? =some (k,v)->∃(en:DictEntry)(q:Addr),es[i]? =some en/\en.key=.ref q/\H q=some (.tup (k.map kV)):=by
 obtain⟨hd,z,hs,xs,pr,o',es,ep,ho,hx,pd,he,_⟩:=I.hok d _ h;rw[hd]at ho;cases ho;refine⟨hs,hd,hx,es,ep,pd,?_,fun i k v e=>?_⟩
 ·have l1:es.size=xs.length:=size_of_entries he;have l2:kvs.length=xs.length:=Paired.length pr;omega
 ·obtain⟨b,hb,e1,e2,_⟩:=B1 pr e;have q:=entry_at he i;rw[hb]at q;exact⟨_,b.2.1,q,rfl,e2⟩
end
noncomputable def Itk(d:Addr)(o:Obj)(kvs:List (Key×V)):It:=
 ⟨fun i H=>H d=some (.frz o (.dK kvs))/\i<kvs.length,fun i H x H'=>H'=H/\∃k v,kvs[i]? =some (k,v)/\x=kV k,fun i H=>H d=some (.frz o (.dK kvs))/\kvs.length<=i⟩
noncomputable def A5(d:Addr)(o:Obj)(kvs:List (List Key×V)):It:=
 ⟨fun i H=>H d=some (.frz o (.dT kvs))/\i<kvs.length,fun i H x H'=>H'=H/\∃(k:List Key)(v:V)(q:Addr),kvs[i]? =some (k,v)/\x=.ref q/\H q=some (.tup (k.map kV)),fun i H=>H d=some (.frz o (.dT kvs))/\kvs.length<=i⟩
theorem oS{o:Obj}{es vh:Array DictEntry}{ep vj:Nat}(h:o.data=.dict es ep)(h':o.data=.dict vh vj):vh=es/\vj=ep:=by rw[h]at h';cases h';exact⟨rfl,rfl⟩
section
variable {P:Program}{w:World}{K:W.Frag}{tg:Expr}{d:Addr}{o:Obj}{es:Array DictEntry}{ep:Nat}
theorem EB{kvs:List (Key×V)}(it:Addr)(qz:o.data=.dict es ep):Turn P w K tg (Itk d o kvs) [it] it (fun i h=>h.IsKeyIter it d i kvs.length ep) where
 mem:=by simp
 obj:=fun i h st b hb=>by
  have e:b=it:=by simpa using hb
  subst e;obtain⟨oi,e,c,dd⟩:=st;exact⟨oi,e,fun v z=>by rw[dd]at z;cases z⟩
 keep:=fun i h h' st k=>st.at fun oi e=>k it (by simp) oi e
 item:=by
  intro X hP hw hK hc i jx s σ H E I hf st hg;subst hP hw hK;obtain⟨hd,hi⟩:=hg;obtain⟨f0,f1,f2,f3,f4,f5⟩:=hf it (by simp);obtain⟨hs,wb,hx,vh,vj,vs,pd,hsz,kv,hm⟩:=I.MY hd;obtain⟨rfl,rfl⟩:=oS qz pd;obtain⟨⟨k,v⟩,Ac⟩:∃p,kvs[i]? =some p:=⟨kvs[i],bf hi⟩
  obtain⟨u,hu,ru⟩:=MN kv Ac;have hl:kvs.length=vs.length:=Paired.length kv;rw[hl]at st;refine wpAny_pyNext_dict_item st hm hu fun key h' oz qi sb=>?_
  have I1:Inv X jx σ H {s with heap:=h'}:=I.turned (t':=s.toks) (fun b ob hb e=>(sb.2 b hb).trans e) f0 f1 f3 f4 f5;obtain⟨oi,e,c,dd⟩:=id qi;refine⟨key,rfl,zF (s:={s with heap:=h'}) e c dd (by decide) ⟨kV k,H,I1,GV (show qW k key=true from oz),⟨rfl,k,v,Ac,rfl⟩,?_,fun b hb=>(hf b hb).1⟩⟩;show h'.IsKeyIter it d (i+1) kvs.length _
  rw[hl];exact qi
 done:=by intro X hP hw hK hc i jx s σ H E I hf st hg;subst hP hw hK;obtain⟨hd,hi⟩:=hg;obtain⟨f0,f1,f2,f3,f4,f5⟩:=hf it (by simp);obtain⟨hs,wb,hx,vh,vj,vs,pd,hsz,kv,hm⟩:=I.MY hd;obtain⟨rfl,rfl⟩:=oS qz pd;exact jF (I.ok.hd hc) st wb pd hsz hi fun h' eb=>⟨rfl,I.turned (t':=s.toks) (fun b ob hb e=>eb b ob hb e) f0 f1 f3 f4 f5⟩
 self:=fun A i s Q E st h=>wpAny_pyIter_keyiter st h
theorem AG{kvs:List (List Key×V)}(it:Addr)(qz:o.data=.dict es ep):Turn P w K tg (A5 d o kvs) [it] it (fun i h=>h.IsKeyIter it d i kvs.length ep) where
 mem:=by simp
 obj:=fun i h st b hb=>by
  have e:b=it:=by simpa using hb
  subst e;obtain⟨oi,e,c,dd⟩:=st;exact⟨oi,e,fun v z=>by rw[dd]at z;cases z⟩
 keep:=fun i h h' st k=>st.at fun oi e=>k it (by simp) oi e
 item:=by
  intro X hP hw hK hc i jx s σ H E I hf st hg;subst hP hw hK;obtain⟨hd,hi⟩:=hg;obtain⟨f0,f1,f2,f3,f4,f5⟩:=hf it (by simp);obtain⟨hs,wb,hx,vh,vj,pd,hsz,Bj⟩:=I.MX hd;obtain⟨rfl,rfl⟩:=oS qz pd;obtain⟨⟨k,v⟩,Ac⟩:∃p,kvs[i]? =some p:=⟨kvs[i],bf hi⟩
  obtain⟨en,q,qp,oz,hq⟩:=Bj i k v Ac;refine mD st wb pd hsz qp fun h' qi sb=>?_
  have I1:Inv X jx σ H {s with heap:=h'}:=I.turned (t':=s.toks) (fun b ob hb e=>(sb.2 b hb).trans e) f0 f1 f3 f4 f5;obtain⟨oi,e,c,dd⟩:=id qi;exact⟨en.key,rfl,zF (s:={s with heap:=h'}) e c dd (by decide) ⟨.ref q,H,I1,oz,⟨rfl,k,v,q,Ac,rfl,hq⟩,qi,fun b hb=>(hf b hb).1⟩⟩
 done:=by intro X hP hw hK hc i jx s σ H E I hf st hg;subst hP hw hK;obtain⟨hd,hi⟩:=hg;obtain⟨f0,f1,f2,f3,f4,f5⟩:=hf it (by simp);obtain⟨hs,wb,hx,vh,vj,pd,hsz,Bj⟩:=I.MX hd;obtain⟨rfl,rfl⟩:=oS qz pd;exact jF (I.ok.hd hc) st wb pd hsz hi fun h' eb=>⟨rfl,I.turned (t':=s.toks) (fun b ob hb e=>eb b ob hb e) f0 f1 f3 f4 f5⟩
 self:=fun A i s Q E st h=>by
  refine wpAny_pyIter_slot st.typeIs F.slot_dict_keyiterator_iter (wpAny_call_entry F.slot_dict_keyiterator_iter st.typeIs F.entry_dict_keyiterator_iter ?_ (F.args_dict_keyiterator_iter_1 _));show wpAny _ _ (ret (.ref it)) _ _ s
  exact ai ⟨_,rfl,"dict_keyiterator",_,st.typeIs,F.slot_dict_keyiterator_next.lookup,h⟩
end
noncomputable def SG(td:TE):TI:=fun σ H R=>td σ H fun x H1=>∃d o,x=.ref d/\((∃kvs,H1 d=some (.frz o (.dK kvs))/\R (Itk d o kvs) H1)\/∃kvs,H1 d=some (.frz o (.dT kvs))/\R (A5 d o kvs) H1)
section
variable {X:Cx}{tg e:Expr}{td:TE}{md kg:Pos}
theorem lO(he:PE X e td):PI X tg e (SG td):=by
 intro jx s σ H R I h;refine thn (he jx s σ H _ I h) fun u s1 ⟨x,H1,I1,rx,d,o,ex,q⟩=>?_
 subst ex;obtain rfl:u=Value.ref d:=rx;rcases q with⟨kvs,hd,q⟩|⟨kvs,hd,q⟩
 ·obtain⟨hs,wb,hx,es,ep,vs,pd,hsz,kv,hm⟩:=I1.MY hd;refine pT hs wb hx pd (AY (tk:=s1.toks) I1 _ (EB _ pd) ⟨_,bc _ rfl,rfl,?_⟩ q);rw[hsz]<;>rfl
 ·obtain⟨hs,wb,hx,es,ep,pd,hsz,Bj⟩:=I1.MX hd;refine pT hs wb hx pd (AY (tk:=s1.toks) I1 _ (AG _ pd) ⟨_,bc _ rfl,rfl,?_⟩ q);rw[hsz]<;>rfl
end
noncomputable def Ite(K:W.Frag)(a:Addr):It:=
 ⟨fun i H=>∃(xs:List V)(x:V),SqL K H a xs/\xs[i]? =some x,fun i H v H'=>∃T x,v=.ref T/\H T=none/\H'=upd H T (.tup [.int (i:Nat),x])/\∀xs,SqL K H a xs->xs[i]? =some x,fun i H=>∃xs:List V,SqL K H a xs/\xs.length<=i⟩
theorem ED{P:Program}{w:World}{K:W.Frag}{qv:List Expr}{kk:Nat}{nu:Pos}(a e it:Addr):
  Turn P w K (.Tuple qv kk nu) (Ite K a) [e,it] e (fun i h=>(∃old,IsEnum h e it ((i:Nat):Int) old)/\h.IsListIter it a i/\e≠it) where
 mem:=by simp
 obj:=fun i h st b hb=>by
  obtain⟨⟨old,he⟩,⟨o,ho,hc,hd⟩,_⟩:=st;have e':b=e\/b=it:=by simpa using hb
  rcases e' with z|z
  ·rw[z];exact⟨_,he,fun v q=>nomatch q⟩
  ·rw[z];exact⟨o,ho,fun v q=>by rw[hd]at q;cases q⟩
 keep:=fun i h h' st k=>let⟨⟨old,he⟩,hi,kb⟩:=st;⟨⟨old,k e (by simp) _ he⟩,hi.at fun o q=>k it (by simp) o q,kb⟩
 item:=by
  intro X hP hw hK hc i jx s σ H E I hf st hg;subst hP hw hK;obtain⟨⟨old,he⟩,kx,kb⟩:=st;obtain⟨xs,x,hq,hx⟩:=hg;obtain⟨its,rv,p,hz⟩:=I.list hq;obtain⟨u,hu,ru⟩:=rv.get hx;have hel:e<s.heap.objs.size:=bu he;have sj:it<s.heap.objs.size:=by obtain⟨_,q,_⟩:=kx;exact bu q
  refine wpAny_pyNext_enum_item he kx p.isList (x:=u) (by simpa using hu) kb fun h' ho xf hT hsz hk=>?_
  refine⟨_,rfl,wpAny_letOwnedTupleGo_enum (s:={s with heap:=h',toks:=s.toks+1}) ho fun xu Dn sb=>?_⟩;have yo:xu.get? s.heap.objs.size=some {cls:=.type "tuple",data:=.seq #[.int i s.toks,u]}:=(sb.2 _ (jo hel)).trans hT;have new:dG X.prog X.w (upd H s.heap.objs.size (.tup [.int (i:Nat),x])) xu s.heap.objs.size (.tup [.int (i:Nat),x]):=
   ⟨by show 2<=sizeLine;decide,[.int i s.toks,u],.cons ⟨_,rfl⟩ (.cons ru .nil),⟨_,yo,rfl,_,rfl⟩⟩
  have I1:Inv X jx σ (upd H s.heap.objs.size (.tup [.int (i:Nat),x])) {s with heap:=xu,toks:=s.toks+1}:=
   I.uV (ch:=[e,it]) (fun b ob hb q=>(sb.2 b (fun z=>hb (by simp[z]))).trans (hk b ob (fun z=>hb (by simp[z])) (fun z=>hb (by simp[z])) q)) hf (ay _) new
  refine⟨.ref s.heap.objs.size,_,I1,rfl,⟨_,x,rfl,I.hok.fresh (ay _),rfl,fun ys hy=>by rw[I.yS hy hq];exact hx⟩,⟨⟨u,?_⟩,xf.at fun o q=>(sb.2 it (Ne.symm kb)).trans q,kb⟩,fun b hb=>?_⟩
  ·have e1:((i+1:Nat):Int)=(i:Int)+1:=by omega
   rw[e1];exact Dn
  ·have sv:b<s.heap.objs.size:=by
    have e':b=e\/b=it:=by simpa using hb
    rcases e' with z|z
    ·rw[z];exact hel
    ·rw[z];exact sj
   rw[aB (da sv)];exact(hf b hb).1
 done:=by intro X hP hw hK hc i jx s σ H E I hf st hg;subst hP hw hK;obtain⟨⟨old,he⟩,kx,kb⟩:=st;obtain⟨xs,hq,hx⟩:=hg;obtain⟨its,rv,p,hz⟩:=I.list hq;obtain⟨f0,f1,f2,f3,f4,f5⟩:=hf it (by simp);have hl:=rv.length;exact wpAny_pyNext_enum_end (I.ok.hd hc) he kx p.isList (by simp;omega) fun h' eb=>⟨rfl,I.turned (t':=s.toks) (fun b o hb q=>eb b o hb q) f0 f1 f3 f4 f5⟩
 self:=fun A i s Q E st h=>let⟨⟨_,he⟩,_⟩:=st;wpAny_pyIter_enum he h
noncomputable def SH(K:W.Frag)(ta:TA):TI:=fun σ H R=>ta σ H fun vs H1=>∃a xs,vs=[.ref a]/\SqL K H1 a xs/\R (Ite K a) H1
theorem wW{X:Cx}{e:Expr}{ta:TA}{p pos nu:Pos}{qv:List Expr}{kk:Nat}(hg:Gl X "enumerate")(hm:X.mg "enumerate" =none)(ha:PA X [e] ta)(hs:starEach [e] X.env=[(false,eval e X.env)]:=by rfl):
  PI X (.Tuple qv kk nu) (.Call (.Name "enumerate" p) [e] [] pos) (SH X.K ta):=by
 intro jx s σ H R I h;refine Call_ (pR I hg hm boot_enumerate (PyProof.Rows.callWith_type1 (thn (ha pos jx s σ H _ I h) fun us s1 ⟨vs,H1,I1,r1,q1⟩=>?_) hs rfl));obtain⟨a,xs,ex,hq,q⟩:=q1;subst ex;cases r1 with
 |cons r rr=>
  cases rr;cases r;obtain⟨its,rv,p',hz⟩:=I1.list hq;refine call_enumerate_list p'.isList fun h' he kx hsz hk=>wpAny_pyIter_enum he ?_
  have I2:Inv X jx σ H1 {s1 with heap:=h'}:=I1.kept (t':=s1.toks) hk;refine⟨s1.heap.objs.size+1,[s1.heap.objs.size+1,s1.heap.objs.size],_,_,H1,rfl,I2,ED a (s1.heap.objs.size+1) s1.heap.objs.size,⟨⟨.none,he⟩,kx,Nat.succ_ne_self _⟩,fun b hb=>?_,q⟩;have e':b=s1.heap.objs.size+1\/b=s1.heap.objs.size:=by simpa using hb
  have qm:s1.heap.objs.size<=b:=by
   rcases e' with z|z
   ·rw[z];exact Nat.le_add_right _ _
   ·rw[z];exact ay _
  exact I1.BX qm (I1.hok.fresh qm)
theorem pA:∀{vs:List Value}{ns:List Int},IntsAre vs ns->Vals (ns.map V.int) vs
 |_,_,.nil=>.nil
 |_,_,.cons n t h=>.cons ⟨t,rfl⟩ (pA h)
abbrev KOf{K:W.Frag}{h:Heap}(_:K.In h):W.Frag:=K
noncomputable def inClass(s:Stmt)(j:Nat):Stmt:=match s with
 | .ClassDef _ _ _ body _ _ _ _ _ _ _=>body.getD j (.Pass ⟨0,0,0,0⟩)
 |_=>.Pass ⟨0,0,0,0⟩
noncomputable def iD(s:Stmt):Arguments:=match s with
 | .FunctionDef _ a _ _ _ _ _ _ _ _=>a
 |_=>{posonlyargs:=[],args:=[],vararg:=none,kwonlyargs:=[],kw_defaults:=[],kwarg:=none,defaults:=[]}
noncomputable def fB(s:Stmt):List Stmt:=match s with
 | .FunctionDef _ _ b _ _ _ _ _ _ _=>b
 |_=>[]
noncomputable def aI(s:Stmt):Scope:=match s with
 | .FunctionDef _ _ _ _ _ _ sc _ _ _=>sc
 |_=>{kind:=.function,names:=[],isGenerator:=false,isCoroutine:=false}
abbrev CX0:CXT:=fun _ _ _ _ _ _=>False
abbrev E0:XK:=fun _ _ _=>False
theorem aX{X:Cx}:Passes CX0 X E0:=fun _ _ _ _ _ _ _ h=>h.elim
structure Fun(K:W.Frag)(x qual:Str)(st:Stmt)(f:Addr)(fd:FuncData):Prop where
 ex:∃(oc:Value)(od:Option Addr)(kV mm pm:Value)(an:Option Addr)(kc ct:Value)(nv:Array (Option Value)),
  fd=W.fnOf x qual (iD st) (fB st) (aI st) .none kV mm pm an kc ct/\K.lookup f=some ⟨oc,od,.func fd,nv⟩/\W.codeIn K kc qual=true
 kp:W.keepIn K (.ref f)=true
section
variable {P:Program}{w:World}{K:W.Frag}{mg:Str->Option Value}{base:Heap}
theorem Fun.ok{x qual:Str}{st:Stmt}{f:Addr}{fd:FuncData}{N ps:List Str}{k:Nat}{sp:Sp}(F:Fun K x qual st f fd)(S:aM N ps (aI st))(len:∀vs H Q E,sp vs H Q E->vs.length=ps.length)
  (mi:∀(kc:Value)(A:Around)(outer:List Env)(s:Shared)(H:Hp)(vs:List V)(Q:VK)(E:XK),cY k (A.deeper (envOfC qual (aI st) s.heap.objs.size f kc))->sp vs H Q E ->
   ∃t,PSs (uN CX0 P w K mg base N qual (aI st) f kc A outer s H E).nox (fB st) t/\t {nx:=fun _ H'=>Q .non H',rt:=Q} (start N vs) H):bO P w K mg base CX0 (k+1) f fd ps sp:=by
 obtain⟨oc,od,kV,mm,pm,an,kc,ct,nv,rfl,lk,pf⟩:=F.ex;refine SJ lk pf S len fun A outer s H vs Q E hr uz=>?_
 obtain⟨t,h,q⟩:=mi kc A outer s H vs Q E hr uz;exact⟨t,h.nox,q⟩
theorem Fun.binds{x qual:Str}{st:Stmt}{f:Addr}{fd:FuncData}{ps:List Str}(F:Fun K x qual st f fd)
  (h:∀(kV mm pm:Value)(an:Option Addr)(kc ct:Value)(us:List Value),us.length=ps.length->bindArgs (W.fnOf x qual (iD st) (fB st) (aI st) .none kV mm pm an kc ct) ⟨us,[]⟩=pure (ps.zip us)):Binds K fd ps []:=by
 obtain⟨oc,od,kV,mm,pm,an,kc,ct,nv,rfl,lk,pf⟩:=F.ex;exact .all (h kV mm pm an kc ct)
theorem BV{x qual:Str}{st:Stmt}{f:Addr}{oc:Value}{od an:Option Addr}{nv:Array (Option Value)}{kV mm pm kc ct:Value}(l:K.lookup f=some ⟨oc,od,.func (W.fnOf x qual (iD st) (fB st) (aI st) .none kV mm pm an kc ct),nv⟩)
  (c:W.codeIn K kc qual=true) (k:W.keepIn K (.ref f)=true):Fun K x qual st f (W.fnOf x qual (iD st) (fB st) (aI st) .none kV mm pm an kc ct):=⟨⟨oc,od,kV,mm,pm,an,kc,ct,nv,rfl,l,c⟩,k⟩
end
theorem bK{A:Around}{k:Nat}(hr:cY k A):A.units+1<cLine:=gk (Nat.add_le_add_left (by decide:1<=64) _) hr.units
section
variable {X:Cx}
theorem pv(i:Nat){x:Str}{pos:Pos}(hN:X.N[i]? =some x:=by rfl)(hv:Vis X.env.scope x:=by first|exact Or.inl rfl|exact Or.inr (Or.inl rfl)|exact Or.inr (Or.inr rfl))(hd:(x==("__debug__" : Str))=false:=by decide)
  (pf:(x==("__classdict__" : Str))=false:=by decide):PE X (.Name x pos) (M0 i):=HB hN hv hd pf
end
theorem IP{A B:Prop}(h:B):if false=true then A else B:=by rw[af bp];exact h
theorem F6{A B:Prop}(h:A):if true=true then A else B:=by rw[ah rfl];exact h
theorem cB{c A B:Prop}[Decidable c](h1:c->A)(h2:¬c->B):if c then A else B:=by
 by_cases h:c
 ·rw[ah h];exact h1 h
 ·rw[af h];exact h2 h
def a9(H H':Hp):Prop:=∀b o,H b=some o->H' b=some o
theorem a9.refl(H:Hp):a9 H H:=fun _ _ h=>h
theorem a9.trans{H H1 H2:Hp}(a:a9 H H1)(b:a9 H1 H2):a9 H H2:=fun c o h=>b c o (a c o h)
theorem a9.free{H H':Hp}(e:a9 H H'){l:Addr}(h:H' l=Option.none):H l=Option.none:=by
 cases q:H l with
 |none=>rfl
 |some o=>rw[e l o q]at h;cases h
theorem a9.seq{K:W.Frag}{H H':Hp}{a:Addr}{xs:List V}(e:a9 H H')(h:SqL K H a xs):SqL K H' a xs:=by
 rcases h with(h|⟨o,h⟩)|h
 ·exact .inl (.inl (e _ _ h))
 ·exact .inl (.inr ⟨o,e _ _ h⟩)
 ·exact .inr h
theorem at_of{xs:List V}{z:Int}{j:Nat}{v:V}(e:z=(j:Int))(h:xs[j]? =some v):atI xs z=some v:=by rw[e];exact LF h
theorem a9.made{H H1:Hp}{x dx C:Addr}(nx:H x=Option.none)(nd:H dx=Option.none)(k:∀b o,(upd (upd H dx (.own x)) x (.ins C dx [])) b=some o->b≠x->H1 b=some o):a9 H H1:=fun b o e=>
 k b o (by rw[aB (aH e nx),aB (aH e nd)];exact e) (aH e nx)
end L2
namespace RM
open Roof
abbrev Pl:=Int×Int
noncomputable def parts(m:Int):List Int->List (List Int)
 |[]=>[[]]
 |v::r=>if v=m then[]::parts m r else
  match parts m r with
  |[]=>[[v]]
  |p::ps=>(v::p)::ps
def kY(v:Int):Option Int:=if v<48\/57<v then none else some (v - 48)
def hY(n v:Int):Option Int:=(kY v).map fun d=>n*10+d
noncomputable def dJ(row:List Int):Option Int:=
 if row.length=0\/2<row.length then none
 else if 1<row.length/\row.head?=some 48 then none
 else(row.foldlM hY 0).bind fun n=>if 64<n then none else some n
noncomputable def dN(row:List Int):Option Pl:=((parts 44 row).mapM dJ).bind fun ns=>match ns with
 |[a,b]=>some (a,b)
 |_=>none
noncomputable def iT(row:List Int):Option (List Pl):=((parts 32 row).mapM dN).bind fun cs=>if cs.length<4 then none else some cs
noncomputable def eQ(t:List Int):Option (List (List Pl)):=
 if(parts 10 t).getLast?≠some []\/(parts 10 t).dropLast=[]then none else(parts 10 t).dropLast.mapM iT
theorem yH(m:Int):∀t,parts m t≠[]
 |[]=>by simp[parts]
 |v::r=>by
  unfold parts;split
  ·simp
  ·split<;>simp
theorem parts_free{m:Int}:∀{a:List Int},m∉a->parts m a=[a]
 |[],_=>rfl
 |v::r,h=>by
  have h1:¬v=m:=fun e=>h (by simp[e])
  have h2:m∉r:=fun e=>h (by simp[e])
  unfold parts;rw[af h1,parts_free h2]
theorem vI{m:Int}:∀{a b:List Int},m∉a->parts m (a++m::b)=a::parts m b
 |[],b,_=>by
  show parts m (m::b)=_
  rw[parts,ah rfl]
 |v::r,b,h=>by
  have h1:¬v=m:=fun e=>h (by simp[e])
  have h2:m∉r:=fun e=>h (by simp[e])
  show parts m (v::(r++m::b))=_
  rw[parts,af h1,vI h2]
noncomputable def glue(m:Int):List (List Int)->List Int
 |[]=>[]
 |[p]=>p
 |p::q::ps=>p++m::glue m (q::ps)
theorem FA{m v:Int}{p:List Int}{ps:List (List Int)}:glue m ((v::p)::ps)=v::glue m (p::ps):=by cases ps<;>simp[glue]
theorem jN(m:Int):∀t,glue m (parts m t)=t
 |[]=>rfl
 |v::r=>by
  have ih:=jN m r;have hn:=yH m r;unfold parts;split
  ·rename_i e;cases q:parts m r with
   |nil=>exact absurd q hn
   |cons p ps=>
    rw[q]at ih;show glue m ([]::p::ps)=_
    simp only[glue,nil_append];rw[ih,e]
  ·cases q:parts m r with
   |nil=>exact absurd q hn
   |cons p ps=>
    rw[q]at ih;show glue m ((v::p)::ps)=_
    rw[FA,ih]
theorem fF{m:Int}:∀{ps:List (List Int)},ps≠[]->(∀p∈ps,m∉p)->parts m (glue m ps)=ps
 |[],h,_=>absurd rfl h
 |[p],_,h=>by
  show parts m p=[p]
  exact parts_free (h p (by simp))
 |p::q::ps,_,h=>by
  show parts m (p++m::glue m (q::ps))=_
  rw[vI (h p (by simp)),fF (by simp) fun x hx=>h x (by simp only[ar]at hx ⊢;exact .inr hx)]
noncomputable def pNum(n:Nat):List Int:=if n<10 then[48+(n:Int)]else[48+((n/10:Nat):Int),48+((n%10:Nat):Int)]
def cG(p:Point):List Int:=glue 44 [pNum p.1,pNum p.2]
def g7(w:Walk):List Int:=glue 32 (w.map cG)
def d9(ws:List Walk):List Int:=ws.flatMap fun w=>g7 w++[10]
def iP(p:Point):Pl:=((p.1:Int),(p.2:Int))
def iW(w:Walk):List Pl:=w.map iP
def iWs(ws:List Walk):List (List Pl):=ws.map iW
def okP(p:Point):Prop:=p.1<=64/\p.2<=64
def okW(w:Walk):Prop:=4<=w.length/\∀p∈w,okP p
def B5(ws:List Walk):Prop:=ws≠[]/\∀w∈ws,okW w
theorem nN{n:Nat}(h:n<=64){x:Int}(hx:x∈pNum n):48<=x/\x<=57:=by
 unfold pNum at hx;split at hx
 ·simp at hx;omega
 ·simp at hx;omega
theorem kH{p:Point}(h:okP p){x:Int}(hx:x∈cG p):(48<=x/\x<=57)\/x=44:=by
 unfold cG glue glue at hx;simp only[aw,ar]at hx;rcases hx with hx|rfl|hx
 ·exact .inl (nN h.1 hx)
 ·exact .inr rfl
 ·exact .inl (nN h.2 hx)
theorem zG{m:Int}:∀{ps:List (List Int)}{x:Int},x∈glue m ps->x=m\/∃p∈ps,x∈p
 |[],x,h=>by simp[glue]at h
 |[p],x,h=>.inr ⟨p,by simp,h⟩
 |p::q::ps,x,h=>by
  simp only[glue,aw,ar]at h;rcases h with h|rfl|h
  ·exact .inr ⟨p,by simp,h⟩
  ·exact .inl rfl
  ·rcases zG h with h|⟨y,hy,hx⟩
   ·exact .inl h
   ·exact .inr ⟨y,by simp only[ar]at hy ⊢;exact .inr hy,hx⟩
theorem nM{w:Walk}(h:∀p∈w,okP p){x:Int}(hx:x∈g7 w):(48<=x/\x<=57)\/x=44\/x=32:=by
 rcases zG hx with h1|⟨q,hq,hx⟩
 ·exact .inr (.inr h1)
 ·obtain⟨p,hp,rfl⟩:=au.mp hq;rcases kH (h p hp) hx with h1|h1
  ·exact .inl h1
  ·exact .inr (.inl h1)
theorem nQ{n:Nat}(h:n<=64):dJ (pNum n)=some (n:Int):=by
 have key:∀k:Fin 65,dJ (pNum k.val)=some (k.val:Int):=by decide+kernel
 exact key ⟨n,by omega⟩
theorem nP{row:List Int}{z:Int}(h:dJ row=some z):∃n:Nat,n<=64/\z=n/\row=pNum n:=by
 unfold dJ at h;split at h
 ·cases h
 ·rename_i h1;split at h
  ·cases h
  ·rename_i h2;match row,h1,h2,h with
   |[],h1,_,_=>simp at h1
   |[a],h1,h2,h=>
    simp only[List.foldlM,hY,kY]at h;split at h
    ·simp at h
    ·rename_i ha;simp at h;obtain⟨h3,h4⟩:=h;refine⟨(a - 48).toNat,by omega,by omega,?_⟩;unfold pNum;rw[ah (by omega)];congr 1;omega
   |[a,b],h1,h2,h=>
    simp only[List.foldlM,hY,kY]at h;have h48:¬a=48:=by intro e;exact h2 ⟨by simp,by simp[e]⟩
    split at h
    ·simp at h
    ·rename_i ha;split at h
     ·simp at h
     ·rename_i hb;simp at h;obtain⟨h3,h4⟩:=h;refine⟨((a - 48)*10+(b - 48)).toNat,by omega,by omega,?_⟩;unfold pNum;rw[af (by omega)];congr 1
      ·omega
      ·congr 1;omega
   |_::_::_::_,h1,_,_=>simp at h1
inductive m9 {α β:Type} (R:α->β->Prop):List α->List β->Prop where
 |nil:m9 R [] []
 |cons {a:α}{b:β}{l:List α}{r:List β}:R a b->m9 R l r->m9 R (a::l) (b::r)
theorem m9.inv2{α β:Type}{R:α->β->Prop}{l:List α}{a b:β}(h:m9 R l [a,b]):∃x y,l=[x,y]/\R x a/\R y b:=by
 cases h with
 |cons h1 h=>
  cases h with
  |cons h2 h=>cases h;exact⟨_,_,rfl,h1,h2⟩
theorem mapM_some{α β:Type}{f:α->Option β}:∀{l:List α}{r:List β},l.mapM f=some r->m9 (fun a b=>f a=some b) l r
 |[],r,h=>by simp at h;subst h;exact .nil
 |a::l,r,h=>by
  rw[List.mapM_cons]at h;cases e1:f a with
  |none=>rw[e1]at h;simp at h
  |some b=>
   rw[e1]at h;cases e2:l.mapM f with
   |none=>rw[e2]at h;simp at h
   |some bs=>rw[e2]at h;simp at h;subst h;exact .cons e1 (mapM_some e2)
theorem lS{α β:Type}{f:α->Option β}:∀{l:List α}{r:List β},m9 (fun a b=>f a=some b) l r->l.mapM f=some r
 |_,_,.nil=>rfl
 |_,_,.cons h t=>by rw[List.mapM_cons,h,lS t];rfl
theorem xP{row:List Int}{z:Pl}(h:dN row=some z):∃p:Point,okP p/\z=iP p/\row=cG p:=by
 unfold dN at h;cases e:(parts 44 row).mapM dJ with
 |none=>rw[e]at h;simp at h
 |some ns=>
  rw[e]at h;simp only[Option.bind_some]at h;have f:=mapM_some e;have g:=jN 44 row;match ns,f,h with
  |[],_,h=>simp at h
  |[_],_,h=>simp at h
  |_::_::_::_,_,h=>simp at h
  |[a,b],f,h=>simp at h;subst h;obtain⟨x,y,ex,f1,f2⟩:=f.inv2;obtain⟨n1,l1,r1,e1⟩:=nP f1;obtain⟨n2,l2,r2,e2⟩:=nP f2;refine⟨(n1,n2),⟨l1,l2⟩,by rw[r1,r2];rfl,?_⟩;rw[<- g,ex,e1,e2];rfl
theorem g8{p:Point}(h:okP p):dN (cG p)=some (iP p):=by
 unfold dN cG;rw[fF (by simp) fun q hq=>?_]
 ·rw[lS (r:=[(p.1:Int),(p.2:Int)]) (.cons (nQ h.1) (.cons (nQ h.2) .nil))];rfl
 ·simp at hq;rcases hq with rfl|rfl
  ·intro e;have:=nN h.1 e;omega
  ·intro e;have:=nN h.2 e;omega
theorem AA{row:List Int}{z:List Pl}(h:iT row=some z):∃w:Walk,okW w/\z=iW w/\row=g7 w:=by
 unfold iT at h;cases e:(parts 32 row).mapM dN with
 |none=>rw[e]at h;simp at h
 |some cs=>
  rw[e]at h;simp only[Option.bind_some]at h;split at h
  ·cases h
  ·rename_i hl;have h:cs=z:=by simpa using h
   subst h;have f:=mapM_some e;have g:=jN 32 row;have key:∀{l:List (List Int)}{r:List Pl},m9 (fun a b=>dN a=some b) l r->∃w:Walk,(∀p∈w,okP p)/\r=iW w/\l=w.map cG:=by
    intro l r f;induction f with
    |nil=>exact⟨[],by simp,rfl,rfl⟩
    |cons h1 _ ih=>
     obtain⟨w,a1,a2,a3⟩:=ih;obtain⟨p,b1,b2,b3⟩:=xP h1;refine⟨p::w,?_,?_,?_⟩
     ·intro q hq;rcases ar.mp hq with rfl|hq
      ·exact b1
      ·exact a1 q hq
     ·rw[a2,b2];rfl
     ·rw[a3,b3];rfl
   obtain⟨w,a1,a2,a3⟩:=key f;refine⟨w,⟨?_,a1⟩,a2,?_⟩
   ·rw[a2,iW,ag]at hl;omega
   ·rw[<- g,a3];rfl
theorem AB{w:Walk}(h:okW w):iT (g7 w)=some (iW w):=by
 unfold iT g7;have kb:w.map cG≠[]:=by intro e;have h1:=h.1;rw[List.map_eq_nil_iff.mp e]at h1;simp at h1
 rw[fF kb fun q hq=>?_]
 ·have f:m9 (fun a b=>dN a=some b) (w.map cG) (iW w):=by
   have h2:=h.2;clear h kb;induction w with
   |nil=>exact .nil
   |cons p w ih=>exact .cons (g8 (h2 p (by simp))) (ih fun q hq=>h2 q (by simp[hq]))
  rw[lS f];have:¬(iW w).length<4:=by have:=h.1;rw[iW,ag];omega
  simp[this]
 ·obtain⟨p,hp,rfl⟩:=au.mp hq;intro e;rcases kH (h.2 p hp) e with h1|h1
  ·omega
  ·omega
theorem lW{m:Int}:∀{ps:List (List Int)},glue m (ps++[[]])=ps.flatMap fun p=>p++[m]
 |[]=>rfl
 |[p]=>by simp[glue]
 |p::q::ps=>by
  have ih:=lW (m:=m) (ps:=q::ps);show p++m::glue m (q::ps++[[]])=_
  rw[ih];simp
theorem qK{t:List Int}{z:List (List Pl)}(h:eQ t=some z):∃ws:List Walk,B5 ws/\z=iWs ws/\t=d9 ws:=by
 unfold eQ at h;split at h
 ·cases h
 ·rename_i hc;have hc1:(parts 10 t).getLast?=some []:=by apply Classical.byContradiction;intro e;exact hc (.inl e)
  have ym:(parts 10 t).dropLast≠[]:=fun e=>hc (.inr e)
  have f:=mapM_some h;have key:∀{l:List (List Int)}{r:List (List Pl)},m9 (fun a b=>iT a=some b) l r->∃w:List Walk,(∀p∈w,okW p)/\r=iWs w/\l=w.map g7:=by
   intro l r f;induction f with
   |nil=>exact⟨[],by simp,rfl,rfl⟩
   |cons h1 _ ih=>
    obtain⟨w,a1,a2,a3⟩:=ih;obtain⟨p,b1,b2,b3⟩:=AA h1;refine⟨p::w,?_,?_,?_⟩
    ·intro q hq;rcases ar.mp hq with rfl|hq
     ·exact b1
     ·exact a1 q hq
    ·rw[a2,b2];rfl
    ·rw[a3,b3];rfl
  obtain⟨ws,a1,a2,a3⟩:=key f;refine⟨ws,⟨?_,a1⟩,a2,?_⟩
  ·intro e;rw[e]at a3;exact ym a3
  ·have e:parts 10 t=(parts 10 t).dropLast++[[]]:=by obtain⟨ys,hys⟩:=List.getLast?_eq_some_iff.mp hc1;rw[hys];simp
   rw[<- jN 10 t,e,a3,lW,d9,flatMap_map]
theorem uE{ws:List Walk}(h:B5 ws):eQ (d9 ws)=some (iWs ws):=by
 have e:parts 10 (d9 ws)=ws.map g7++[[]]:=by
  have:d9 ws=glue 10 (ws.map g7++[[]]):=by rw[lW,d9,flatMap_map]
  rw[this];refine fF (by simp) fun q hq=>?_
  rcases aw.mp hq with hq|hq
  ·obtain⟨w,hw,rfl⟩:=au.mp hq;intro e;rcases nM (h.2 w hw).2 e with h1|h1|h1
   ·omega
   ·omega
   ·omega
  ·simp at hq;subst hq;simp
 unfold eQ;rw[e];have h1:¬((ws.map g7++[[]]).getLast?≠some []\/(ws.map g7++[[]]).dropLast=[]):=by simp;exact h.1
 rw[af h1];have e2:(ws.map g7++[[]]).dropLast=ws.map g7:=by simp
 rw[e2];refine lS ?_;have h2:=h.2;clear h e h1 e2;induction ws with
 |nil=>exact .nil
 |cons w ws ih=>exact .cons (AB (h2 w (by simp))) (ih fun q hq=>h2 q (by simp[hq]))
noncomputable def G2(n:Nat):Bytes:=if n<10 then[UInt8.ofNat (48+n)]else[UInt8.ofNat (48+n/10),UInt8.ofNat (48+n%10)]
theorem iZ{n:Nat}(h:n<=64):number n=G2 n:=by
 have key:∀k:Fin 65,number k.val=G2 k.val:=by decide+kernel
 exact key ⟨n,by omega⟩
theorem qT{v d:Nat}(h1:v≠0)(h2:10*v+d<=64)(h3:d<=9):number (10*v+d)=number v++[UInt8.ofNat (48+d)]:=by
 rw[iZ h2,iZ (by omega)];unfold G2;rw[af (by omega),ah (by omega)];have e1:(10*v+d)/10=v:=by omega
 have e2:(10*v+d)%10=d:=by omega
 rw[e1,e2];rfl
theorem tE{d:Nat}(h:d<=9):number d=[UInt8.ofNat (48+d)]:=by rw[iZ (by omega),G2,ah (by omega)]
theorem C4{c:UInt8}{d:Nat}(h:digit c=some d):d<=9/\c=UInt8.ofNat (48+d):=by
 unfold digit at h;split at h
 ·rename_i hc;have h:c.toNat - 48=d:=by simpa using h
  refine⟨by omega,?_⟩;have e:48+d=c.toNat:=by omega
  rw[e];simp
 ·cases h
theorem kX{d:Nat}(h:d<=9):digit (UInt8.ofNat (48+d))=some d:=by
 have key:∀k:Fin 10,digit (UInt8.ofNat (48+k.val))=some k.val:=by decide+kernel
 exact key ⟨d,by omega⟩
def gF(w:Walk):Bytes:=w.flatMap fun p=>cornerText p++[32]
noncomputable def eD(r:Reading):Bytes:=if r.part=0 then[]else if r.part=1 then number r.val else if r.part=2 then number r.east++[44]else number r.east++(44::number r.val)
noncomputable def eO(r:Reading):Bytes:=walksText r.done.reverse++(gF r.now.reverse++eD r)
structure OkR(r:Reading):Prop where
 done:∀w∈r.done,okW w
 now:∀p∈r.now,okP p
 val:r.val<=64
 east:r.east<=64
 part:r.part<=3
theorem qL:∀{w:Walk}{p:Point},walkText (w++[p])=gF w++(cornerText p++[10])
 |[],p=>by simp[walkText,gF]
 |[q],p=>by simp[walkText,gF]
 |q::q2::w,p=>by
  have ih:=qL (w:=q2::w) (p:=p);show cornerText q++(32::walkText (q2::w++[p]))=_
  rw[ih];simp[gF]
theorem IA{r s:Reading}{c:UInt8}(h:r.more c=some s)(o:OkR r):OkR s/\eO s=eO r++[c]:=by
 obtain⟨o1,o2,o3,o4,o5⟩:=o;unfold Reading.more at h;cases e:digit c with
 |some d=>
  rw[e]at h;obtain⟨hd,hc⟩:=C4 e;dsimp only at h;by_cases hp:r.part=0\/r.part=2
  ·rw[ah hp]at h;have h:=Option.some.inj h;subst h;refine⟨⟨o1,o2,by dsimp only;omega,o4,by dsimp only;omega⟩,?_⟩;rcases hp with hp|hp
   ·simp[eO,eD,hp,tE hd,hc]
   ·simp[eO,eD,hp,tE hd,hc]
  ·rw[af hp]at h;by_cases hv:r.val=0\/SIDE<10*r.val+d
   ·rw[ah hv]at h;cases h
   ·rw[af hv]at h;have h:=Option.some.inj h;subst h;have hv1:r.val≠0:=fun q=>hv (.inl q)
    have hv2:10*r.val+d<=64:=by
     have:¬SIDE<10*r.val+d:=fun q=>hv (.inr q)
     unfold SIDE at this;omega
    refine⟨⟨o1,o2,by dsimp only;omega,o4,o5⟩,?_⟩;have hp2:r.part=1\/r.part=3:=by omega
    rcases hp2 with hp2|hp2
    ·simp[eO,eD,hp2,qT hv1 hv2 hd,hc]
    ·simp[eO,eD,hp2,qT hv1 hv2 hd,hc]
 |none=>
  rw[e]at h;dsimp only at h;by_cases h1:r.part=1/\c=44
  ·rw[ah h1]at h;have h:=Option.some.inj h;subst h;refine⟨⟨o1,o2,o3,o3,by dsimp only;omega⟩,?_⟩;simp[eO,eD,h1.1,h1.2]
  ·rw[af h1]at h;by_cases h2:r.part=3/\c=32
   ·rw[ah h2]at h;have h:=Option.some.inj h;subst h;refine⟨⟨o1,?_,o3,o4,by dsimp only;omega⟩,?_⟩
    ·intro p hp;rcases ar.mp hp with rfl|hp
     ·exact⟨o4,o3⟩
     ·exact o2 p hp
    ·simp[eO,eD,h2.1,h2.2,gF,cornerText]
   ·rw[af h2]at h;by_cases h3:r.part=3/\c=10/\3<=r.now.length
    ·rw[ah h3]at h;have h:=Option.some.inj h;subst h;refine⟨⟨?_,by simp,o3,o4,by dsimp only;omega⟩,?_⟩
     ·intro w hw;rcases ar.mp hw with rfl|hw
      ·refine⟨by simp;omega,?_⟩;intro p hp;rcases ar.mp (List.mem_reverse.mp hp)with rfl|hp
       ·exact⟨o4,o3⟩
       ·exact o2 p hp
      ·exact o1 w hw
     ·simp only[eO,eD,h3.1,h3.2.1,walksText,List.reverse_cons,gf,dj,List.flatMap_nil,dc,qL];simp[gF,cornerText]
    ·rw[af h3]at h;cases h
theorem qP:∀{b:Bytes}{p:Nat}{r:Reading}{ws:List Walk},OkR r->readFrom p r b=.ok ws->B5 ws/\eO r++b=walksText ws
 |[],p,r,ws,o,h=>by
  unfold readFrom at h;split at h
  ·rename_i hc;obtain⟨h1,h2,h3⟩:=hc;have h:r.done.reverse=ws:=by simpa using h
   subst h;refine⟨⟨by simpa using h3,fun w hw=>o.done w (by simpa using hw)⟩,?_⟩;simp[eO,eD,h1,h2,gF]
  ·cases h
 |c::t,p,r,ws,o,h=>by
  unfold readFrom at h;cases e:r.more c with
  |none=>rw[e]at h;cases h
  |some s=>rw[e]at h;obtain⟨os,es⟩:=IA e o;have h:readFrom (p+1) s t=.ok ws:=h;obtain⟨h1,h2⟩:=qP os h;refine⟨h1,?_⟩;rw[<- h2,es];simp
theorem nG{b:Bytes}{ws:List Walk}(h:readWalks b=.ok ws):B5 ws/\b=walksText ws:=by have o:OkR ⟨[],[],0,0,0⟩:=⟨by simp,by simp,by simp,by simp,by simp⟩;obtain⟨h1,h2⟩:=qP o h;refine⟨h1,?_⟩;rw[<- h2];simp[eO,eD,gF,walksText]
theorem gK{r s:Reading}{c:UInt8}{t:Bytes}{p:Nat}(h:r.more c=some s):readFrom p r (c::t)=readFrom (p+1) s t:=by
 show(match r.more c with|some s=>readFrom (p+1) s t|none=>.error p)=_
 rw[h]
theorem qN{n:Nat}(hn:n<=64){r:Reading}(hp:r.part=0\/r.part=2)(p:Nat)(t:Bytes):∃p',readFrom p r (number n++t)=readFrom p' {r with part:=r.part+1,val:=n} t:=by
 rw[iZ hn];unfold G2;by_cases h:n<10
 ·rw[ah h];refine⟨p+1,gK ?_⟩;unfold Reading.more;rw[kX (by omega)];dsimp only;rw[ah hp]
 ·rw[af h];refine⟨p+1+1,?_⟩;refine(gK (s:={r with part:=r.part+1,val:=n/10}) ?_).trans (gK ?_)
  ·unfold Reading.more;rw[kX (by omega)];dsimp only;rw[ah hp]
  ·unfold Reading.more;rw[kX (by omega)];dsimp only;rw[af (by omega),af]
   ·have:10*(n/10)+n%10=n:=by omega
    rw[this]
   ·unfold SIDE;omega
theorem qO{q:Point}(hq:okP q){r:Reading}(hp:r.part=0)(p:Nat)(t:Bytes):∃p',readFrom p r (cornerText q++t)=readFrom p' {r with part:=3,val:=q.2,east:=q.1} t:=by
 unfold cornerText;rw[dv];obtain⟨p1,e1⟩:=qN hq.1 (r:=r) (.inl hp) p (44::number q.2++t);rw[e1];have e2:readFrom p1 {r with part:=r.part+1,val:=q.1} (44::number q.2++t)=readFrom (p1+1) {r with part:=2,val:=q.1,east:=q.1} (number q.2++t):=by refine gK ?_;unfold Reading.more;rw[show digit 44=none from by decide];dsimp only;rw[hp];simp
 rw[e2];obtain⟨p3,e3⟩:=qN hq.2 (r:={r with part:=2,val:=q.1,east:=q.1}) (.inr rfl) (p1+1) t;exact⟨p3,e3⟩
theorem v8:∀{w:Walk}{r:Reading}(p:Nat)(t:Bytes),(∀q∈w,okP q)->w≠[]->r.part=0->4<=r.now.length+w.length ->
  ∃p' v e,readFrom p r (walkText w++t)=readFrom p' ⟨(r.now.reverse++w)::r.done,[],0,v,e⟩ t
 |[],r,p,t,_,h,_,_=>absurd rfl h
 |[q],r,p,t,hq,_,hp,hl=>by
  have e0:walkText [q]++t=cornerText q++(10::t):=by simp[walkText]
  rw[e0];obtain⟨p1,e1⟩:=qO (hq q (by simp)) hp p (10::t);rw[e1];refine⟨p1+1,q.2,q.1,?_⟩;rw[gK (s:=⟨(q::r.now).reverse::r.done,[],0,q.2,q.1⟩)]
  ·simp
  ·unfold Reading.more;rw[show digit 10=none from by decide];dsimp only;rw[af (by simp),af (by simp),ah ⟨rfl,rfl,by simp at hl;omega⟩]
 |q::q2::w,r,p,t,hq,_,hp,hl=>by
  have e0:walkText (q::q2::w)++t=cornerText q++(32::(walkText (q2::w)++t)):=by simp[walkText]
  rw[e0];obtain⟨p1,e1⟩:=qO (hq q (by simp)) hp p (32::(walkText (q2::w)++t));rw[e1];have e2:readFrom p1 {r with part:=3,val:=q.2,east:=q.1} (32::(walkText (q2::w)++t))=readFrom (p1+1) ⟨r.done,q::r.now,0,q.2,q.1⟩ (walkText (q2::w)++t):=by refine gK ?_;unfold Reading.more;rw[show digit 32=none from by decide];dsimp only;rw[af (by simp),ah ⟨rfl,rfl⟩]
  rw[e2];obtain⟨p3,v,e,e3⟩:=v8 (w:=q2::w) (r:=⟨r.done,q::r.now,0,q.2,q.1⟩) (p1+1) t (fun x hx=>hq x (aq _ hx)) (by simp) rfl (by simp at hl ⊢;omega);refine⟨p3,v,e,?_⟩;rw[e3];simp
theorem sR:∀{ws:List Walk}{r:Reading}(p:Nat),(∀w∈ws,okW w)->r.part=0->r.now=[]->r.done.reverse++ws≠[]->readFrom p r (walksText ws)=.ok (r.done.reverse++ws)
 |[],r,p,_,hp,hn,kb=>by
  show readFrom p r []=_
  unfold readFrom;rw[ah ⟨hp,hn,by simpa using kb⟩];simp
 |w::ws,r,p,hw,hp,hn,_=>by
  have e0:walksText (w::ws)=walkText w++walksText ws:=by simp[walksText]
  rw[e0];have h1:=hw w (by simp);obtain⟨p1,v,e,e1⟩:=v8 (w:=w) (r:=r) p (walksText ws) h1.2 (by intro q;have:=h1.1;rw[q]at this;simp at this) hp (by have:=h1.1;omega);rw[e1,sR p1 (fun x hx=>hw x (aq _ hx)) rfl rfl (by simp)];simp[hn]
theorem sS{ws:List Walk}(h:B5 ws):readWalks (walksText ws)=.ok ws:=by unfold readWalks;rw[sR (r:=⟨[],[],0,0,0⟩) 0 h.2 rfl rfl (by simpa using h.1)];simp
def inB(t:List Int):Prop:=∀x∈t,0<=x/\x<=255
theorem fT(a b:List Int):RoofBNeutral.text (a++b)=RoofBNeutral.text a++RoofBNeutral.text b:=by simp[RoofBNeutral.text,RoofBNeutral.nats]
theorem dX(a:Int)(b:List Int):RoofBNeutral.text (a::b)=UInt8.ofNat a.toNat::RoofBNeutral.text b:=by simp[RoofBNeutral.text,RoofBNeutral.nats]
theorem sC:∀{a b:List Int},inB a->inB b->RoofBNeutral.text a=RoofBNeutral.text b->a=b
 |[],[],_,_,_=>rfl
 |[],y::b,_,_,h=>by rw[dX]at h;simp[RoofBNeutral.text,RoofBNeutral.nats]at h
 |x::a,[],_,_,h=>by rw[dX]at h;simp[RoofBNeutral.text,RoofBNeutral.nats]at h
 |x::a,y::b,ha,hb,h=>by
  rw[dX,dX]at h;injection h with h1 h2
  have hx:=ha x (by simp);have hy:=hb y (by simp);have e:x.toNat=y.toNat:=by have:=congrArg UInt8.toNat h1;rw[UInt8.toNat_ofNat_of_lt' (by show x.toNat<256;omega),UInt8.toNat_ofNat_of_lt' (by show y.toNat<256;omega)]at this;exact this
  have e2:x=y:=by omega
  rw[e2,sC (fun z hz=>ha z (by simp[hz])) (fun z hz=>hb z (by simp[hz])) h2]
theorem uW{n:Nat}(h:n<=64):RoofBNeutral.text (pNum n)=number n:=by
 rw[iZ h];unfold pNum G2;split
 ·rw[dX];have:(48+(n:Int)).toNat=48+n:=by omega
  rw[this];rfl
 ·rw[dX,dX];have e1:(48+((n/10:Nat):Int)).toNat=48+n/10:=by omega
  have e2:(48+((n%10:Nat):Int)).toNat=48+n%10:=by omega
  rw[e1,e2];rfl
theorem nB{p:Point}(h:okP p):RoofBNeutral.text (cG p)=cornerText p:=by unfold cG glue glue cornerText;rw[fT,dX,uW h.1,uW h.2];rfl
theorem pC:∀{w:Walk},(∀p∈w,okP p)->RoofBNeutral.text (g7 w++[10])=walkText w
 |[],_=>rfl
 |[p],h=>by
  show RoofBNeutral.text (cG p++[10])=_
  rw[fT,nB (h p (by simp))];rfl
 |p::q::w,h=>by
  have ih:=pC (w:=q::w) fun x hx=>h x (aq _ hx)
  show RoofBNeutral.text ((cG p++32::g7 (q::w))++[10])=cornerText p++(32::walkText (q::w))
  rw[dv,fT,nB (h p (by simp)),jr,dX,ih];rfl
theorem kD:∀{ws:List Walk},(∀w∈ws,okW w)->RoofBNeutral.text (d9 ws)=walksText ws
 |[],_=>rfl
 |w::ws,h=>by
  have e:d9 (w::ws)=(g7 w++[10])++d9 ws:=by simp[d9]
  rw[e,fT,pC (h w (by simp)).2,kD fun x hx=>h x (aq _ hx)];simp[walksText]
theorem B3{ws:List Walk}(h:∀w∈ws,okW w):inB (d9 ws):=by
 intro x hx;obtain⟨w,hw,hx⟩:=bx.mp hx;rcases aw.mp hx with hx|hx
 ·rcases nM (h w hw).2 hx with h1|h1|h1<;>omega
 ·simp at hx;omega
theorem reads{t:List Int}(ht:inB t){ws:List Walk}(h:readWalks (RoofBNeutral.text t)=.ok ws):eQ t=some (iWs ws)/\B5 ws:=by obtain⟨o,e⟩:=nG h;rw[<- kD o.2]at e;have:=sC ht (B3 o.2) e;rw[this];exact⟨uE o,o⟩
theorem EM{t:List Int}{p:Nat}(h:readWalks (RoofBNeutral.text t)=.error p):eQ t=none:=by
 cases e:eQ t with
 |none=>rfl
 |some z=>obtain⟨ws,o,_,e2⟩:=qK e;rw[e2,kD o.2,sS o]at h;cases h
noncomputable def inI(l:Cells)(x y:Int):Bool:=decide (0<=x)&& (decide (0<=y)&& l.contains (x.toNat,y.toNat))
theorem cE(l:Cells)(x y:Nat):inI l x y=l.contains (x,y):=by simp[inI]
theorem z9(l:Cells){x y:Int}(h:x<0):inI l x y=false:=by
 have:decide (0<=x)=false:=by simp;omega
 simp[inI,this]
theorem z8(l:Cells){x y:Int}(h:y<0):inI l x y=false:=by
 have:decide (0<=y)=false:=by simp;omega
 simp[inI,this]
theorem bT{l:Cells}{x y:Int}(h:inI l x y=true):0<=x/\0<=y/\(x.toNat,y.toNat)∈l:=by simp[inI]at h;exact h
def ne(l:Cells)(X Y:Int):Bool:=inI l X Y
def nw(l:Cells)(X Y:Int):Bool:=inI l (X - 1) Y
def sw(l:Cells)(X Y:Int):Bool:=inI l (X - 1) (Y - 1)
def se(l:Cells)(X Y:Int):Bool:=inI l X (Y - 1)
theorem IQ{l:Cells}{a b:Nat}:isIn l (if 0<a then some (a - 1,b)else none)=inI l ((a:Int) - 1) b:=by
 by_cases h:0<a
 ·have e:(a:Int) - 1=((a - 1:Nat):Int):=by omega
  rw[ah h,e,cE];rfl
 ·rw[af h,z9 l (by omega)];rfl
theorem IS{l:Cells}{a b:Nat}:isIn l (if 0<b then some (a,b - 1)else none)=inI l a ((b:Int) - 1):=by
 by_cases h:0<b
 ·have e:(b:Int) - 1=((b - 1:Nat):Int):=by omega
  rw[ah h,e,cE];rfl
 ·rw[af h,z8 l (by omega)];rfl
theorem DC{l:Cells}{a b:Nat}:isIn l (if 0<a/\0<b then some (a - 1,b - 1)else none)=inI l ((a:Int) - 1) ((b:Int) - 1):=by
 by_cases h:0<a/\0<b
 ·have e1:(a:Int) - 1=((a - 1:Nat):Int):=by omega
  have e2:(b:Int) - 1=((b - 1:Nat):Int):=by omega
  rw[ah h,e1,e2,cE];rfl
 ·rw[af h];by_cases ha:0<a
  ·rw[z8 l (by omega)];rfl
  ·rw[z9 l (by omega)];rfl
noncomputable def aZ(l:Cells)(X Y:Int)(d:Nat):Bool:=
 if d=0 then ne l X Y&& !se l X Y else if d=1 then nw l X Y&& !ne l X Y else if d=2 then sw l X Y&& !nw l X Y else se l X Y&& !sw l X Y
theorem cU(l:Cells)(p:Point)(d:Nat):wallFoot l p d=aZ l p.1 p.2 d:=by
 unfold wallFoot leftOf rightOf aZ;by_cases h0:d=0
 ·subst h0;simp only[ah];rw[IS];show(isIn l (some p)&& _)=_
  have:isIn l (some p)=ne l p.1 p.2:=by rw[ne,cE];rfl
  rw[this];rfl
 ·by_cases h1:d=1
  ·subst h1;simp only[ah,af h0];rw[IQ];have:isIn l (some p)=ne l p.1 p.2:=by rw[ne,cE];rfl
   rw[this];rfl
  ·by_cases h2:d=2
   ·subst h2;simp only[ah,af h0,af h1];rw[IQ,DC];rfl
   ·simp only[af h0,af h1,af h2];rw[IS,DC];rfl
theorem gJ{l:Cells}(h:pinched l=false)(X Y:Int):¬(sw l X Y=true/\ne l X Y=true/\se l X Y=false/\nw l X Y=false)/\¬(nw l X Y=true/\se l X Y=true/\ne l X Y=false/\sw l X Y=false):=by
 have key:∀c∈l,¬((l.contains (c.1+1,c.2+1)&& !(l.contains (c.1+1,c.2)||l.contains (c.1,c.2+1)))||(decide (0<c.1)&& (l.contains (c.1 - 1,c.2+1)&& !(l.contains (c.1 - 1,c.2)||l.contains (c.1,c.2+1)))))=true:=by intro c hc q;have:pinched l=true:=fo.mpr ⟨c,hc,q⟩;rw[h]at this;cases this
 refine⟨fun⟨h1,h2,h3,h4⟩=>?_,fun⟨h1,h2,h3,h4⟩=>?_⟩
 ·obtain⟨x0,y0,m⟩:=bT h1;have e1:X=((X - 1).toNat+1:Nat):=by omega
  have e2:Y=((Y - 1).toNat+1:Nat):=by omega
  refine key _ m ?_;have a1:l.contains ((X - 1).toNat+1,(Y - 1).toNat+1)=true:=by rw[<- cE,<- e1,<- e2];exact h2
  have a2:l.contains ((X - 1).toNat+1,(Y - 1).toNat)=false:=by rw[<- cE,<- e1,show(((Y - 1).toNat:Nat):Int)=Y - 1 by omega];exact h3
  have a3:l.contains ((X - 1).toNat,(Y - 1).toNat+1)=false:=by rw[<- cE,<- e2,show(((X - 1).toNat:Nat):Int)=X - 1 by omega];exact h4
  simp only[a1,a2,a3];rfl
 ·obtain⟨x0,y0,m⟩:=bT h2;obtain⟨x1,y1,_⟩:=bT h1;have e1:X=(X.toNat:Int):=by omega
  have e2:Y=((Y - 1).toNat+1:Nat):=by omega
  refine key _ m ?_;have a1:l.contains (X.toNat - 1,(Y - 1).toNat+1)=true:=by rw[<- cE,<- e2,show((X.toNat - 1:Nat):Int)=X - 1 by omega];exact h1
  have a2:l.contains (X.toNat - 1,(Y - 1).toNat)=false:=by rw[<- cE,show((X.toNat - 1:Nat):Int)=X - 1 by omega,show(((Y - 1).toNat:Nat):Int)=Y - 1 by omega];exact h4
  have a3:l.contains (X.toNat,(Y - 1).toNat+1)=false:=by rw[<- cE,<- e2,<- e1];exact h3
  have a4:decide (0<X.toNat)=true:=by simp;omega
  simp only[a1,a2,a3,a4];simp
noncomputable def stI(X Y:Int)(d:Nat):Int×Int:=if d=0 then(X+1,Y)else if d=1 then(X,Y+1)else if d=2 then(X - 1,Y)else(X,Y - 1)
theorem E8{l:Cells}(h:pinched l=false){X Y:Int}{d e:Nat}(hd:d<4)(he:e<4)(h1:aZ l X Y d=true)(h2:aZ l X Y e=true):d=e:=by
 obtain⟨u1,u2⟩:=gJ h X Y;have cd:d=0\/d=1\/d=2\/d=3:=by omega
 have ce:e=0\/e=1\/e=2\/e=3:=by omega
 generalize a1:ne l X Y=A at*;generalize a2:nw l X Y=B at*;generalize a3:sw l X Y=C at*;generalize a4:se l X Y=D at*;rcases cd with rfl|rfl|rfl|rfl<;>rcases ce with rfl|rfl|rfl|rfl<;>simp[aZ,a1,a2,a3,a4]at h1 h2 u1 u2 ⊢ <;>simp_all
theorem G8{l:Cells}{X Y:Int}{d:Nat}(hd:d<4)(h1:aZ l X Y d=true):∃e,e<4/\aZ l (stI X Y d).1 (stI X Y d).2 e=true:=by
 have cd:d=0\/d=1\/d=2\/d=3:=by omega
 rcases cd with rfl|rfl|rfl|rfl
 ·simp[aZ]at h1;have b1:nw l (X+1) Y=true:=by rw[nw,show X+1 - 1=X by omega];exact h1.1
  have b2:sw l (X+1) Y=false:=by rw[sw,show X+1 - 1=X by omega];exact h1.2
  show∃e,e<4/\aZ l (X+1) Y e=true
  cases c1:se l (X+1) Y with
  |true=>exact⟨3,by omega,by simp[aZ,c1,b2]⟩
  |false=>
   cases c2:ne l (X+1) Y with
   |true=>exact⟨0,by omega,by simp[aZ,c1,c2]⟩
   |false=>exact⟨1,by omega,by simp[aZ,c2,b1]⟩
 ·simp[aZ]at h1;have b1:sw l X (Y+1)=true:=by rw[sw,show Y+1 - 1=Y by omega];exact h1.1
  have b2:se l X (Y+1)=false:=by rw[se,show Y+1 - 1=Y by omega];exact h1.2
  show∃e,e<4/\aZ l X (Y+1) e=true
  cases c1:ne l X (Y+1)with
  |true=>exact⟨0,by omega,by simp[aZ,c1,b2]⟩
  |false=>
   cases c2:nw l X (Y+1)with
   |true=>exact⟨1,by omega,by simp[aZ,c1,c2]⟩
   |false=>exact⟨2,by omega,by simp[aZ,c2,b1]⟩
 ·simp[aZ]at h1;have b1:se l (X - 1) Y=true:=h1.1;have b2:ne l (X - 1) Y=false:=h1.2;show∃e,e<4/\aZ l (X - 1) Y e=true
  cases c1:nw l (X - 1) Y with
  |true=>exact⟨1,by omega,by simp[aZ,c1,b2]⟩
  |false=>
   cases c2:sw l (X - 1) Y with
   |true=>exact⟨2,by omega,by simp[aZ,c1,c2]⟩
   |false=>exact⟨3,by omega,by simp[aZ,c2,b1]⟩
 ·simp[aZ]at h1;have b1:ne l X (Y - 1)=true:=h1.1;have b2:nw l X (Y - 1)=false:=h1.2;show∃e,e<4/\aZ l X (Y - 1) e=true
  cases c1:sw l X (Y - 1)with
  |true=>exact⟨2,by omega,by simp[aZ,c1,b2]⟩
  |false=>
   cases c2:se l X (Y - 1)with
   |true=>exact⟨3,by omega,by simp[aZ,c1,c2]⟩
   |false=>exact⟨0,by omega,by simp[aZ,c2,b1]⟩
noncomputable def rX(l:Cells)(X Y:Int)(d:Nat):Bool:=
 if d=0 then nw l X Y&& !sw l X Y else if d=1 then sw l X Y&& !se l X Y else if d=2 then se l X Y&& !ne l X Y else ne l X Y&& !nw l X Y
theorem rW{l:Cells}{X Y:Int}{d:Nat}(hd:d<4):rX l (stI X Y d).1 (stI X Y d).2 d=aZ l X Y d:=by
 have cd:d=0\/d=1\/d=2\/d=3:=by omega
 rcases cd with rfl|rfl|rfl|rfl
 ·simp only[rX,aZ,stI,ah,nw,sw,ne,se,show X+1 - 1=X by omega]
 ·simp[rX,aZ,stI,nw,sw,ne,se,show Y+1 - 1=Y by omega]
 ·simp[rX,aZ,stI,nw,sw,ne,se]
 ·simp[rX,aZ,stI,nw,sw,ne,se]
theorem GA{l:Cells}(h:pinched l=false){X Y X' Y':Int}{d e:Nat}(hd:d<4)(he:e<4)(h1:aZ l X Y d=true)(h2:aZ l X' Y' e=true)(hq:stI X Y d=stI X' Y' e):d=e/\X=X'/\Y=Y':=by
 rw[<- rW hd]at h1;rw[<- rW he,<- hq]at h2;have hde:d=e:=by
  generalize (stI X Y d).1=U at*;generalize (stI X Y d).2=V at*;obtain⟨u1,u2⟩:=gJ h U V;have cd:d=0\/d=1\/d=2\/d=3:=by omega
  have ce:e=0\/e=1\/e=2\/e=3:=by omega
  generalize a1:ne l U V=A at*;generalize a2:nw l U V=B at*;generalize a3:sw l U V=C at*;generalize a4:se l U V=D at*;rcases cd with rfl|rfl|rfl|rfl<;>rcases ce with rfl|rfl|rfl|rfl<;>simp[rX,a1,a2,a3,a4]at h1 h2 u1 u2 ⊢ <;>simp_all
 subst hde;refine⟨rfl,?_⟩;have cd:d=0\/d=1\/d=2\/d=3:=by omega
 rcases cd with rfl|rfl|rfl|rfl<;>simp[stI]at hq<;>omega
theorem mZ{l:Cells}{X Y:Int}{d:Nat}(hd:d<4)(h:aZ l X Y d=true):(d=2->1<=X)/\(d=3->1<=Y):=by
 refine⟨fun e=>?_,fun e=>?_⟩
 ·subst e;simp[aZ,sw]at h;have:=bT h.1;omega
 ·subst e;simp[aZ,se]at h;have:=bT h.1;omega
theorem lK{l:Cells}{p:Point}{d:Nat}(hd:d<4)(h:wallFoot l p d=true):(((stepped p d).1:Int),((stepped p d).2:Int))=stI p.1 p.2 d:=by
 rw[cU]at h;obtain⟨g1,g2⟩:=mZ hd h;have cd:d=0\/d=1\/d=2\/d=3:=by omega
 rcases cd with rfl|rfl|rfl|rfl
 ·simp[stepped,stI]
 ·simp[stepped,stI]
 ·have:=g1 rfl;simp[stepped,stI];omega
 ·have:=g2 rfl;simp[stepped,stI];omega
theorem b8{l:Cells}{p:Point}{d:Nat}(h:outOf l p=some d):d<4/\wallFoot l p d=true:=by unfold outOf at h;have h1:=List.find?_some h;have h2:=List.mem_of_find?_eq_some h;simp at h2;exact⟨by omega,h1⟩
theorem gT{l:Cells}(hp:pinched l=false){p:Point}{d:Nat}(hd:d<4)(h:wallFoot l p d=true):outOf l p=some d:=by
 cases e:outOf l p with
 |none=>unfold outOf at e;rw[List.find?_eq_none]at e;exact absurd h (e d (by simp;omega))
 |some x=>obtain⟨hx,h2⟩:=b8 e;rw[cU]at h h2;rw[E8 hp hd hx h h2]
theorem HN{l:Cells}(hp:pinched l=false){p:Point}{d:Nat}(h:outOf l p=some d):∃e,outOf l (stepped p d)=some e:=by obtain⟨hd,h1⟩:=b8 h;have e1:=lK hd h1;rw[cU]at h1;obtain⟨e,he,h2⟩:=G8 hd h1;rw[<- e1]at h2;exact⟨e,gT hp he (by rw[cU];exact h2)⟩
theorem yL{l:Cells}(hp:pinched l=false){p q:Point}{d e:Nat}(h1:outOf l p=some d)(h2:outOf l q=some e)(hq:stepped p d=stepped q e):p=q:=by obtain⟨hd,w1⟩:=b8 h1;obtain⟨he,w2⟩:=b8 h2;have e1:=lK hd w1;have e2:=lK he w2;rw[cU]at w1 w2;obtain⟨_,a,b⟩:=GA hp hd he w1 w2 (by rw[<- e1,<- e2,hq]);exact Prod.ext (by omega) (by omega)
theorem cO{α:Type}[DecidableEq α]:∀{a b:List α},a.Nodup->(∀x∈a,x∈b)->a.length<=b.length
 |[],_,_,_=>by simp
 |x::a,b,h,hs=>by
  have hx:x∈b:=hs x (by simp);obtain⟨h1,h2⟩:=de.mp h;have:=cO (a:=a) (b:=b.erase x) h2 fun y hy=>by
   have:y≠x:=fun e=>h1 (e▸hy)
   exact(List.mem_erase_of_ne this).mpr (hs y (by simp[hy]))
  rw[List.length_erase_of_mem hx]at this;have:0<b.length:=List.length_pos_of_mem hx;simp;omega
theorem dZ{α β:Type}{f:α->β}:∀{l:List α},l.Nodup->(∀x∈l,∀y∈l,f x=f y->x=y)->(l.map f).Nodup
 |[],_,_=>by simp
 |x::l,h,hf=>by obtain⟨h1,h2⟩:=de.mp h;rw[bo];refine de.mpr ⟨fun hm=>?_,dZ h2 fun a ha b hb=>hf a (by simp[ha]) b (by simp[hb])⟩;obtain⟨y,hy,e⟩:=au.mp hm;exact h1 (hf y (by simp[hy]) x (by simp) e▸hy)
inductive Way (l:Cells):Point->List Foot->Point->Prop where
 |nil (p:Point):Way l p [] p
 |cons {p q:Point}{d:Nat}{r:List Foot}:outOf l p=some d->Way l (stepped p d) r q->Way l p ((p,d)::r) q
theorem Way.append{l:Cells}{p q:Point}{a:List Foot}(h:Way l p a q):∀{b:List Foot}{r:Point},Way l q b r->Way l p (a++b) r:=by
 induction h with
 |nil p=>exact fun h=>h
 |cons h1 _ ih=>exact fun h=>.cons h1 (ih h)
theorem Way.out{l:Cells}{p q:Point}{a:List Foot}(h:Way l p a q):∀x∈a,outOf l x.1=some x.2:=by
 induction h with
 |nil p=>simp
 |cons h1 _ ih=>
  intro x hx;rcases ar.mp hx with rfl|hx
  ·exact h1
  ·exact ih x hx
theorem Way.prev{l:Cells}{p q:Point}{a:List Foot}(h:Way l p a q):∀y,(y∈a.map (·.1)\/y=q)->y=p\/∃x∈a,stepped x.1 x.2=y:=by
 induction h with
 |nil p=>intro y hy;simp at hy;exact .inl hy
 | @cons p q d r h1 hw ih=>
  intro y hy;by_cases hp:y=p
  ·exact .inl hp
  ·have Cf:y∈r.map (·.1)\/y=q:=by
    rcases hy with hy|hy
    ·rw[bo]at hy;rcases ar.mp hy with e|hy
     ·exact absurd e hp
     ·exact .inl hy
    ·exact .inr hy
   rcases ih y Cf with e|⟨x,hx,e⟩
   ·exact .inr ⟨(p,d),by simp,e.symm⟩
   ·exact .inr ⟨x,by simp[hx],e⟩
def kR(x:Foot):Cell×Nat:=((leftOf x.1 x.2).getD (0,0),x.2)
theorem xI{l:Cells}{x:Foot}(h:outOf l x.1=some x.2):kR x∈l.flatMap fun c=>[(c,0),(c,1),(c,2),(c,3)]:=by
 obtain⟨hd,w⟩:=b8 h;unfold wallFoot at w;simp at w;have w:=w.1;cases e:leftOf x.1 x.2 with
 |none=>rw[e]at w;simp[isIn]at w
 |some c=>rw[e]at w;simp[isIn]at w;refine bx.mpr ⟨c,w,?_⟩;unfold kR;rw[e];simp;omega
theorem xJ{l:Cells}{x y:Foot}(h1:outOf l x.1=some x.2)(h2:outOf l y.1=some y.2)(e:kR x=kR y):x=y:=by
 obtain⟨hd1,w1⟩:=b8 h1;obtain⟨xl,w2⟩:=b8 h2;obtain⟨⟨a,b⟩,d⟩:=x;obtain⟨⟨a',b'⟩,d'⟩:=y;have ed:d=d':=congrArg (fun z=>z.2) e;subst ed;rw[cU]at w1 w2;obtain⟨g1,g2⟩:=mZ hd1 w1;obtain⟨g3,g4⟩:=mZ xl w2;have ec:(leftOf (a,b) d).getD (0,0)=(leftOf (a',b') d).getD (0,0):=congrArg (fun z=>z.1) e;have cd:d=0\/d=1\/d=2\/d=3:=by have:d<4:=hd1;omega
 rcases cd with rfl|rfl|rfl|rfl
 ·simp[leftOf]at ec;simp[ec]
 ·simp[aZ,nw]at w1 w2;have i1:=bT w1.1;have i2:=bT w2.1;have p1:0<a:=by omega
  have p2:0<a':=by omega
  simp[leftOf,p1,p2]at ec;simp;omega
 ·simp[aZ,sw]at w1 w2;have i1:=bT w1.1;have i2:=bT w2.1;have p1:0<a:=by omega
  have p2:0<a':=by omega
  have p3:0<b:=by omega
  have p4:0<b':=by omega
  simp[leftOf,p1,p2,p3,p4]at ec;simp;omega
 ·simp[aZ,se]at w1 w2;have i1:=bT w1.1;have i2:=bT w2.1;have p3:0<b:=by omega
  have p4:0<b':=by omega
  simp[leftOf,p3,p4]at ec;simp;omega
theorem nR{f:List Foot}(h:(f.map (·.1)).Nodup):f.Nodup:=by
 induction f with
 |nil=>simp
 |cons x f ih=>rw[bo]at h;obtain⟨h1,h2⟩:=de.mp h;exact de.mpr ⟨fun hm=>h1 (au.mpr ⟨x,hm,rfl⟩),ih h2⟩
theorem KW{l:Cells}{f:List Foot}(h:(f.map (·.1)).Nodup)(ho:∀x∈f,outOf l x.1=some x.2):f.length<=4*l.length:=by
 have h1:(f.map kR).Nodup:=dZ (nR h) fun x hx y hy e=>xJ (ho x hx) (ho y hy) e
 have h2:=cO h1 (b:=l.flatMap fun c=>[(c,0),(c,1),(c,2),(c,3)]) fun z hz=>by obtain⟨x,hx,rfl⟩:=au.mp hz;exact xI (ho x hx)
 have h3:∀l:Cells,(l.flatMap fun c=>[(c,0),(c,1),(c,2),(c,3)]).length=4*l.length:=by
  intro l;induction l with
  |nil=>rfl
  |cons c l ih=>simp at ih ⊢;omega
 rw[h3]at h2;simpa using h2
structure Round(l:Cells)(p:Point)(f:List Foot):Prop where
 way:Way l p f p
 ne:f≠[]
 nd:(f.map (·.1)).Nodup
theorem oJ{l:Cells}(hp:pinched l=false){p:Point}:∀(n:Nat)(done:List Foot)(q:Point)(d:Nat),outOf l q=some d->Way l p done q->((done++[(q,d)]).map (·.1)).Nodup->4*l.length<done.length+n+1 ->
  (done=[]->q=p)->Round l p (done++follow l p n q d)
 |0,done,q,d,hq,hw,hn,hl,h0=>by
  exfalso;have:=KW (l:=l) hn fun x hx=>by
   rcases aw.mp hx with hx|hx
   ·exact hw.out x hx
   ·simp at hx;subst hx;exact hq
  simp at this;omega
 |n+1,done,q,d,hq,hw,hn,hl,h0=>by
  have vm:Way l p (done++[(q,d)]) (stepped q d):=hw.append (.cons hq (.nil _));have eF:follow l p (n+1) q d=(q,d)::(if stepped q d=p then[]else match outOf l (stepped q d)with|some e=>follow l p n (stepped q d) e|none=>[]):=rfl;rw[eF];by_cases hs:stepped q d=p
  ·rw[ah hs];rw[hs]at vm;exact⟨vm,by simp,hn⟩
  ·rw[af hs];obtain⟨e,he⟩:=HN hp hq;rw[he];have vc:stepped q d∉ (done++[(q,d)]).map (·.1):=by
    intro hm;rcases vm.prev _ (.inl hm)with e1|⟨x,hx,e1⟩
    ·exact hs e1
    ·
     obtain⟨i,hi,ei⟩:=List.getElem_of_mem hm;have key:∀{a:List Foot}{u v:Point},Way l u a v->∀y∈a.map (·.1),y≠u->∃x∈a.dropLast,stepped x.1 x.2=y:=by
      intro a u v hw;induction hw with
      |nil u=>intro y hy;simp at hy
      | @cons u v d' r h1 hw ih=>
       intro y hy kb;rw[bo]at hy;rcases ar.mp hy with e|hy
       ·exact absurd e kb
       ·cases r with
        |nil=>simp at hy
        |cons z r=>
         by_cases hz:y=stepped u d'
         ·exact⟨(u,d'),by simp,hz.symm⟩
         ·obtain⟨x,hx,e⟩:=ih y hy hz;exact⟨x,by simp[hx],e⟩
     obtain⟨x,hx,e1⟩:=key vm _ hm hs;have hxd:x∈done:=by simpa using hx
     have hxo:=hw.out x hxd;have:=yL hp hxo hq e1;rw[cg,cv]at hn;exact hn.2.2 x.1 (au.mpr ⟨x,hxd,rfl⟩) q (by simp) this
   have:=oJ hp n (done++[(q,d)]) (stepped q d) e he vm (by
    rw[cg,cv];refine⟨hn,by simp,?_⟩;intro a ha b hb;simp at hb;subst hb;intro e2;exact vc (e2▸ha)) (by simp;omega) (by simp)
   simpa using this
theorem FH{l:Cells}(hp:pinched l=false){p:Point}{d:Nat}(h:outOf l p=some d):Round l p (follow l p (4*l.length+4) p d):=by have:=oJ hp (4*l.length+4) [] p d h (.nil p) (by simp) (by simp;omega) (by simp);simpa using this
noncomputable def A4(l:Cells)(seen:List Point):Prop:=∀y∈seen,∃x∈seen,∃d,outOf l x=some d/\stepped x d=y
theorem A4.nil(l:Cells):A4 l []:=fun _ h=>by simp at h
theorem Round.prev{l:Cells}{p:Point}{f:List Foot}(h:Round l p f):∀y∈f.map (·.1),∃x∈f,stepped x.1 x.2=y:=by
 intro y hy;rcases h.way.prev y (.inl hy)with e|e
 ·subst e;have key:∀{a:List Foot}{u v:Point},Way l u a v->a≠[]->∃x∈a,stepped x.1 x.2=v:=by
   intro a u v hw;induction hw with
   |nil u=>intro h;exact absurd rfl h
   | @cons u v d' r h1 hw ih=>
    intro _;cases r with
    |nil=>cases hw;exact⟨(u,d'),by simp,rfl⟩
    |cons z r=>obtain⟨x,hx,e⟩:=ih (by simp);exact⟨x,by simp only[ar]at hx ⊢;exact .inr hx,e⟩
  exact key h.way h.ne
 ·exact e
theorem A4.add{l:Cells}{seen:List Point}{p:Point}{f:List Foot}(hs:A4 l seen)(h:Round l p f):A4 l (seen++f.map (·.1)):=by
 intro y hy;rcases aw.mp hy with hy|hy
 ·obtain⟨x,hx,e⟩:=hs y hy;exact⟨x,cc _ hx,e⟩
 ·obtain⟨x,hx,e⟩:=h.prev y hy;exact⟨x.1,bh _ (au.mpr ⟨x,hx,rfl⟩),x.2,h.way.out x hx,e⟩
theorem Way.fresh{l:Cells}(hp:pinched l=false){seen:List Point}(hs:A4 l seen){p q:Point}{f:List Foot}(h:Way l p f q):p∉seen->∀y∈f.map (·.1),y∉seen:=by
 induction h with
 |nil p=>intro _ y hy;simp at hy
 | @cons p q d r h1 hw ih=>
  intro hn y hy;rw[bo]at hy;rcases ar.mp hy with e|hy
  ·rw[e];exact hn
  ·refine ih (fun hm=>?_) y hy;obtain⟨x,hx,e,he,es⟩:=hs _ hm;have:=yL hp he h1 es;exact hn (this▸hx)
theorem cX{a b:Point}:before a b=true↔a.2<b.2\/(a.2=b.2/\a.1<b.1):=by simp[before]
theorem uQ{a:Point}(h:before a a=true):False:=by rw[cX]at h;omega
theorem jV{a b c:Point}(h1:before a b=true)(h2:before b c=true):before a c=true:=by rw[cX]at*;omega
theorem CB(a b:Point):a=b\/before a b=true\/before b a=true:=by
 by_cases h:a=b
 ·exact .inl h
 ·right;rw[cX,cX];have:¬(a.1=b.1/\a.2=b.2):=fun⟨x,y⟩=>h (Prod.ext x y)
  omega
def leR(a b:Cell):Bool:=a==b||before a b
theorem xB{a b:Cell}:leR a b=true↔a=b\/before a b=true:=by simp[leR]
theorem EZ(a b c:Cell)(h1:leR a b=true)(h2:leR b c=true):leR a c=true:=by
 rw[xB]at*;rcases h1 with rfl|h1
 ·exact h2
 ·rcases h2 with rfl|h2
  ·exact .inr h1
  ·exact .inr (jV h1 h2)
theorem F0(a b:Cell):(leR a b||leR b a)=true:=by
 rcases CB a b with rfl|h|h
 ·simp[leR]
 ·simp[leR,h]
 ·simp[leR,h]
theorem jE:∀{l:Cells}{x:Cell},x∈onceEach l↔x∈l
 |[],x=>by simp[onceEach]
 |[a],x=>by simp[onceEach]
 |a::b::r,x=>by
  have ih:=jE (l:=b::r) (x:=x);unfold onceEach;split
  ·rename_i e;rw[ih,e];simp
  ·rw[ar,ih,ar (a:=x) (b:=a)]
theorem jW:∀{l:Cells},l.Pairwise (fun a b=>leR a b=true)->(onceEach l).Pairwise (fun a b=>before a b=true)
 |[],_=>by simp[onceEach]
 |[a],_=>by simp[onceEach]
 |a::b::r,h=>by
  obtain⟨h1,h2⟩:=gh.mp h;have ih:=jW h2;unfold onceEach;split
  ·exact ih
  ·rename_i e;refine gh.mpr ⟨fun x hx=>?_,ih⟩;have hx:=jE.mp hx;have Aj:before a b=true:=by
    rcases xB.mp (h1 b (by simp))with q|q
    ·exact absurd q e
    ·exact q
   rcases ar.mp hx with rfl|hx
   ·exact Aj
   ·obtain⟨h3,_⟩:=gh.mp h2;rcases xB.mp (h3 x hx)with rfl|q
    ·exact Aj
    ·exact jV Aj q
theorem tN{l:Cells}{x:Cell}:x∈inRows l↔x∈l:=by unfold inRows;rw[jE,List.mem_mergeSort]
theorem uJ(l:Cells):(inRows l).Pairwise (fun a b=>before a b=true):=jW (List.pairwise_mergeSort EZ F0 l)
theorem wQ{l:List Point}(h:l.Pairwise (fun a b=>before a b=true)):l.Nodup:=by refine List.Pairwise.imp (fun{a b} q=>?_) h;intro e;subst e;exact uQ q
noncomputable def bI(p:Point)(d k:Nat):Point:=if d=0 then(p.1+k,p.2)else if d=1 then(p.1,p.2+k)else if d=2 then(p.1 - k,p.2)else(p.1,p.2 - k)
def bM(p:Point)(d k:Nat):List Foot:=(List.range k).map fun i=>(bI p d i,d)
theorem fO{p:Point}{d k:Nat}(hd:d<4)(h2:d=2->k<=p.1)(h3:d=3->k<=p.2):feet p (bI p d k)=bM p d k:=by
 have cd:d=0\/d=1\/d=2\/d=3:=by omega
 rcases cd with rfl|rfl|rfl|rfl
 ·simp only[feet,bI,bM,ah];by_cases hk:k=0
  ·subst hk;simp
  ·rw[ah (by omega)];rw[show p.1+k - p.1=k by omega]
 ·simp only[feet,bI,bM];by_cases hk:k=0
  ·subst hk;simp
  ·simp only[af (show¬(1:Nat)=0 by omega),ah];rw[af (by omega),ah (by omega),show p.2+k - p.2=k by omega]
 ·have:=h2 rfl;simp only[feet,bI,bM];simp only[af (show¬(2:Nat)=0 by omega),af (show¬(2:Nat)=1 by omega),ah];rw[af (by omega),show p.1 - (p.1 - k)=k by omega]
 ·have:=h3 rfl;simp only[feet,bI,bM];simp only[af (show¬(3:Nat)=0 by omega),af (show¬(3:Nat)=1 by omega),af (show¬(3:Nat)=2 by omega),ah];by_cases hk:k=0
  ·subst hk;simp
  ·rw[af (by omega),af (by omega),show p.2 - (p.2 - k)=k by omega]
theorem mC{p:Point}{d k:Nat}:bM p d (k+1)=bM p d k++[(bI p d k,d)]:=by simp[bM,jj]
theorem dH{p:Point}{d k:Nat}(hd:d<4):stepped (bI p d k) d=bI p d (k+1):=by
 have cd:d=0\/d=1\/d=2\/d=3:=by omega
 rcases cd with rfl|rfl|rfl|rfl<;>simp[stepped,bI]<;>omega
noncomputable def A8(cs:Walk)(q:Point):List Foot:=(cs.zip (cs.drop 1++[q])).flatMap fun x=>feet x.1 x.2
theorem E6{p a:Point}{cs:Walk}{q:Point}:A8 (p::a::cs) q=feet p a++A8 (a::cs) q:=by simp[A8]
theorem fG{l:Cells}{p:Point}{d:Nat}(h:outOf l p=some d):(d=2->1<=p.1)/\(d=3->1<=p.2):=by obtain⟨hd,w⟩:=b8 h;rw[cU]at w;obtain⟨g1,g2⟩:=mZ hd w;exact⟨fun e=>by have:=g1 e;omega,fun e=>by have:=g2 e;omega⟩
theorem expand{l:Cells}:∀{r:List Foot}{p p' q:Point}{d k:Nat},Way l p' r q->d<4->(d=2->k<=p.1)->(d=3->k<=p.2)->p'=bI p d k->A8 (p::turns d r) q=bM p d k++r
 |[],p,p',q,d,k,hw,hd,h2,h3,e=>by
  cases hw;show A8 [p] p'=_
  rw[e];simp[A8,fO hd h2 h3]
 |(x,d2)::r,p,PP,q,d,k,hw,hd,h2,h3,e=>by
  cases hw with
  |cons h1 hw=>
   obtain⟨b2,b3⟩:=fG h1;obtain⟨xl,_⟩:=b8 h1;by_cases vd:d2=d
   ·subst vd;have et:turns d2 ((x,d2)::r)=turns d2 r:=by
     show(if d2=d2 then _ else _)=_
     rw[ah rfl]
    rw[et,expand (r:=r) (p:=p) (p':=stepped x d2) (k:=k+1) hw hd ?_ ?_ (by rw[e,dH hd]),mC,<- e]
    ·simp
    ·intro e2;have:=b2 e2;rw[e]at this;subst e2;simp[bI]at this;omega
    ·intro e3;have:=b3 e3;rw[e]at this;subst e3;simp[bI]at this;omega
   ·have et:turns d ((x,d2)::r)=x::turns d2 r:=by
     show(if d2=d then _ else _)=_
     rw[af vd]
    rw[et,E6,e,fO hd h2 h3,<- e];have:=expand (r:=r) (p:=x) (p':=stepped x d2) (q:=q) (d:=d2) (k:=1) hw xl (fun z=>b2 z) (fun z=>b3 z) (by
     have:=dH (p:=x) (d:=d2) (k:=0) xl;have e0:bI x d2 0=x:=by unfold bI;split<;>(try split)<;>(try split)<;>simp
     rw[e0]at this;exact this)
    rw[this];have es:bM x d2 1=[(x,d2)]:=by
     have e0:bI x d2 0=x:=by unfold bI;split<;>(try split)<;>(try split)<;>simp
     simp[bM,e0]
    rw[es];simp
theorem uO{l:Cells}{p:Point}{d:Nat}{r:List Foot}{x:Foot}(h:Round l p ((p,d)::r))(hx:((p,d)::r).getLast?=some x)(kb:d≠x.2):
  cornersOf ((p,d)::r)=p::turns d r/\walkFeet (cornersOf ((p,d)::r))=(p,d)::r:=by
 have e1:cornersOf ((p,d)::r)=p::turns d r:=by
  unfold cornersOf;rw[hx];show(if d=x.2 then _ else _)=_
  rw[af kb]
 refine⟨e1,?_⟩;rw[e1];have hw:=h.way;cases hw with
 |cons h1 hw=>
  obtain⟨b2,b3⟩:=fG h1;obtain⟨hd,_⟩:=b8 h1;have e0:bI p d 0=p:=by unfold bI;split<;>(try split)<;>(try split)<;>simp
  have:=expand (r:=r) (p:=p) (p':=stepped p d) (q:=p) (d:=d) (k:=1) hw hd b2 b3 (by
   have:=dH (p:=p) (d:=d) (k:=0) hd;rw[e0]at this;exact this)
  have es:bM p d 1=[(p,d)]:=by simp[bM,e0]
  rw[es]at this;simp only[List.singleton_append]at this;rw[<- this];show((p::turns d r).zip ((p::turns d r).drop 1++(p::turns d r).take 1)).flatMap _=_
  simp[A8]
theorem Way.nil_inv{l:Cells}{a b:Point}(h:Way l a [] b):a=b:=by cases h;rfl
structure d6(l:Cells)(seen sk:List Point):Prop where
 pH:A4 l seen
 all:∀q d,outOf l q=some d->q∈seen\/q∈sk
 row:sk.Pairwise fun a b=>before a b=true
theorem gO{l:Cells}{q:Point}{d:Nat}(h:outOf l q=some d):q∈pointsOf l:=by
 obtain⟨hd,w⟩:=b8 h;unfold pointsOf;rw[tN];rw[cU]at w;obtain⟨a,b⟩:=q;have cd:d=0\/d=1\/d=2\/d=3:=by omega
 rcases cd with rfl|rfl|rfl|rfl
 ·simp[aZ,ne,cE]at w;exact bx.mpr ⟨(a,b),w.1,by simp⟩
 ·simp[aZ,nw]at w;obtain⟨x0,y0,m⟩:=bT w.1;refine bx.mpr ⟨_,m,?_⟩;simp;omega
 ·simp[aZ,sw]at w;obtain⟨x0,y0,m⟩:=bT w.1;refine bx.mpr ⟨_,m,?_⟩;simp;omega
 ·simp[aZ,se]at w;obtain⟨x0,y0,m⟩:=bT w.1;refine bx.mpr ⟨_,m,?_⟩;simp;omega
theorem d6.start(l:Cells):d6 l [] (pointsOf l):=⟨A4.nil l,fun q d h=>.inr (gO h),uJ _⟩
theorem d6.skip{l:Cells}{seen r:List Point}{p:Point}(g:d6 l seen (p::r))(h:p∈seen\/outOf l p=none):d6 l seen r:=by
 refine⟨g.pH,fun q d hq=>?_,(gh.mp g.row).2⟩;rcases g.all q d hq with h1|h1
 ·exact .inl h1
 ·rcases ar.mp h1 with rfl|h1
  ·rcases h with h|h
   ·exact .inl h
   ·rw[h]at hq;cases hq
  ·exact .inr h1
theorem d6.step{l:Cells}(hp:pinched l=false){seen r:List Point}{p:Point}{d:Nat}(g:d6 l seen (p::r))(hs:p∉seen)(ho:outOf l p=some d){f:List Foot}(hf:f=follow l p (4*l.length+4) p d):
  Round l p f/\(∀y∈f.map (·.1),y∉seen)/\(∃r',f=(p,d)::r'/\cornersOf f=p::turns d r')/\walkFeet (cornersOf f)=f/\d6 l (seen++f.map (·.1)) r:=by
 have R:=FH hp ho;rw[<- hf]at R;have fr:=R.way.fresh hp g.pH hs;have ur:∀y∈f.map (·.1),y=p\/before p y=true:=by
  intro y hy;obtain⟨x,hx,rfl⟩:=au.mp hy;rcases g.all x.1 x.2 (R.way.out x hx)with h1|h1
  ·exact absurd h1 (fr _ hy)
  ·rcases ar.mp h1 with h1|h1
   ·exact .inl h1
   ·exact .inr ((gh.mp g.row).1 _ h1)
 obtain⟨r',er⟩:∃r',f=(p,d)::r':=by rw[hf];exact⟨_,rfl⟩
 refine⟨R,fr,?_⟩;rw[er]at R ur fr ⊢;obtain⟨x,hx⟩:∃x,((p,d)::r').getLast?=some x:=by
  cases e:((p,d)::r').getLast? with
  |none=>simp at e
  |some x=>exact⟨x,rfl⟩
 have mf:stepped x.1 x.2=p:=by
  have key:∀{a:List Foot}{u v:Point}{x:Foot},Way l u a v->a.getLast?=some x->stepped x.1 x.2=v:=by
   intro a u v x hw;induction hw with
   |nil u=>intro h;simp at h
   | @cons u v d' r h1 hw ih=>
    intro h;cases r with
    |nil=>cases hw;simp at h;rw[<- h]
    |cons z r=>exact ih (by simpa using h)
  exact key R.way hx
 have xm:x∈(p,d)::r':=List.mem_of_getLast? hx;have xo:=R.way.out x xm;obtain⟨hxd,_⟩:=b8 xo;obtain⟨hd,_⟩:=b8 ho;have hx23:x.2=2\/x.2=3:=by
  have cx:x.2=0\/x.2=1\/x.2=2\/x.2=3:=by omega
  have hl:=ur x.1 (au.mpr ⟨x,xm,rfl⟩);rw[cX]at hl;rcases cx with c|c|c|c
  ·exfalso;rw[c]at mf;simp[stepped]at mf;have a1:=congrArg Prod.fst mf;have a2:=congrArg Prod.snd mf;simp at a1 a2;rcases hl with h|h|h
   ·rw[h]at a1;omega
   ·omega
   ·omega
  ·exfalso;rw[c]at mf;simp[stepped]at mf;have a1:=congrArg Prod.fst mf;have a2:=congrArg Prod.snd mf;simp at a1 a2;rcases hl with h|h|h
   ·rw[h]at a2;omega
   ·omega
   ·omega
  ·exact .inl c
  ·exact .inr c
 have hd01:d=0\/d=1:=by
  have hw:=R.way;cases hw with
  |cons h1 hw=>
   have Bv:stepped p d=p\/stepped p d∈((p,d)::r').map (·.1):=by
    cases r' with
    |nil=>exact .inl hw.nil_inv
    |cons z r2=>cases hw;right;simp
   have hl:stepped p d=p\/before p (stepped p d)=true:=by
    rcases Bv with h|h
    ·exact .inl h
    ·exact ur _ h
   rw[cX]at hl;obtain⟨b2,b3⟩:=fG ho;have cx:d=0\/d=1\/d=2\/d=3:=by omega
   rcases cx with c|c|c|c
   ·exact .inl c
   ·exact .inr c
   ·exfalso;have:=b2 c;subst c;simp[stepped]at hl;rcases hl with h|h
    ·have a1:=congrArg Prod.fst h;simp at a1;omega
    ·omega
   ·exfalso;have:=b3 c;subst c;simp[stepped]at hl;rcases hl with h|h
    ·have a1:=congrArg Prod.snd h;simp at a1;omega
    ·omega
 have kb:d≠x.2:=by omega
 obtain⟨c1,c2⟩:=uO R hx kb;refine⟨⟨r',rfl,c1⟩,c2,g.pH.add R,fun q e hq=>?_,(gh.mp g.row).2⟩;rcases g.all q e hq with h1|h1
 ·exact .inl (cc _ h1)
 ·rcases ar.mp h1 with rfl|h1
  ·exact .inl (bh _ (by simp))
  ·exact .inr h1
theorem cN{l:Cells}(hp:pinched l=false):∀{sk seen:List Point},d6 l seen sk ->
  ∃F:List Foot,(walksFrom l seen sk).flatMap walkFeet=F/\(∀x∈F,outOf l x.1=some x.2)/\(F.map (·.1)).Nodup/\(∀x∈F,x.1∉seen)/\∀w∈walksFrom l seen sk,∀q∈w,∃d,outOf l q=some d
 |[],seen,g=>⟨[],by simp[walksFrom],by simp,by simp,by simp,by simp[walksFrom]⟩
 |p::r,seen,g=>by
  by_cases hs:seen.contains p=true
  ·have e:walksFrom l seen (p::r)=walksFrom l seen r:=by
    show(if seen.contains p=true then _ else _)=_
    rw[ah hs]
   rw[e];exact cN hp (g.skip (.inl (by simpa using hs)))
  ·cases ho:outOf l p with
   |none=>
    have e:walksFrom l seen (p::r)=walksFrom l seen r:=by
     show(if seen.contains p=true then _ else match outOf l p with|none=>_|some d=>_)=_
     rw[af hs,ho]
    rw[e];exact cN hp (g.skip (.inr ho))
   |some d=>
    have e:walksFrom l seen (p::r)=cornersOf (follow l p (4*l.length+4) p d)::walksFrom l (seen++(follow l p (4*l.length+4) p d).map fun(x:Foot)=>x.1) r:=by
     show(if seen.contains p=true then _ else match outOf l p with|none=>_|some d=>_)=_
     rw[af hs,ho]
    obtain⟨R,fr,⟨r',er,ec⟩,ew,g2⟩:=g.step hp (by simpa using hs) ho rfl;obtain⟨F,h1,h2,h3,h4,h5⟩:=cN hp g2;refine⟨follow l p (4*l.length+4) p d++F,?_,?_,?_,?_,?_⟩
    ·rw[e,dj,ew,h1]
    ·intro x hx;rcases aw.mp hx with hx|hx
     ·exact R.way.out x hx
     ·exact h2 x hx
    ·rw[cg,cv];refine⟨R.nd,h3,?_⟩;intro a ha b hb e2;obtain⟨x,hx,rfl⟩:=au.mp hb;exact h4 x hx (bh _ (e2▸ha))
    ·intro x hx;rcases aw.mp hx with hx|hx
     ·exact fr _ (au.mpr ⟨x,hx,rfl⟩)
     ·exact fun hm=>h4 x hx (cc _ hm)
    ·intro w hw;rw[e]at hw;rcases ar.mp hw with rfl|hw
     ·intro q hq;have key:∀{a:List Foot}{d:Nat}{q:Point},q∈turns d a->∃x∈a,x.1=q:=by
       intro a;induction a with
       |nil=>intro d q h;simp[turns]at h
       |cons x a ih=>
        intro d q h;unfold turns at h;split at h
        ·obtain⟨y,hy,e⟩:=ih h;exact⟨y,by simp[hy],e⟩
        ·rcases ar.mp h with e|h
         ·exact⟨x,by simp,e.symm⟩
         ·obtain⟨y,hy,e⟩:=ih h;exact⟨y,by simp[hy],e⟩
      have:q∈turns ((follow l p (4*l.length+4) p d).getLast?.elim 0 (·.2)) (follow l p (4*l.length+4) p d):=by
       unfold cornersOf at hq;cases e3:(follow l p (4*l.length+4) p d).getLast? with
       |none=>rw[e3]at hq;simp at hq
       |some z=>rw[e3]at hq;exact hq
      obtain⟨x,hx,e4⟩:=key this;exact⟨x.2,e4▸R.way.out x hx⟩
     ·exact h5 w hw
def tD(ws:List Walk):Prop:=∀w∈ws,∀p∈w,okP p
theorem j8:∀{ws:List Walk},tD ws->RoofBNeutral.text (d9 ws)=walksText ws
 |[],_=>rfl
 |w::ws,h=>by
  have e:d9 (w::ws)=(g7 w++[10])++d9 ws:=by simp[d9]
  rw[e,fT,pC (h w (by simp)),j8 fun x hx=>h x (aq _ hx)];simp[walksText]
theorem qS{ws:List Walk}(h:tD ws):inB (d9 ws):=by
 intro x hx;obtain⟨w,hw,hx⟩:=bx.mp hx;rcases aw.mp hx with hx|hx
 ·rcases nM (h w hw) hx with h1|h1|h1<;>omega
 ·simp at hx;omega
theorem nL{ws:List Walk}(h:tD ws):parts 10 (d9 ws)=ws.map g7++[[]]:=by
 have:d9 ws=glue 10 (ws.map g7++[[]]):=by rw[lW,d9,flatMap_map]
 rw[this];refine fF (by simp) fun q hq=>?_
 rcases aw.mp hq with hq|hq
 ·obtain⟨w,hw,rfl⟩:=au.mp hq;intro e;rcases nM (h w hw) e with h1|h1|h1<;>omega
 ·simp at hq;subst hq;simp
theorem B4{p:Point}:cG p≠[]:=by unfold cG glue glue pNum;split<;>simp
theorem yK{p q:Point}(hp:okP p)(hq:okP q)(e:cG p=cG q):p=q:=by have h1:=g8 hp;rw[e,g8 hq]at h1;have h2:=Option.some.inj h1;have a:=congrArg Prod.fst h2;have b:=congrArg Prod.snd h2;simp[iP]at a b;exact Prod.ext (by omega) (by omega)
theorem map_inj{α β:Type}{f:α->β}:∀{a b:List α},(∀x∈a,∀y∈b,f x=f y->x=y)->a.map f=b.map f->a=b
 |[],[],_,_=>rfl
 |[],_::_,_,h=>by simp at h
 |_::_,[],_,h=>by simp at h
 |x::a,y::b,hf,h=>by simp at h;rw[hf x (by simp) y (by simp) h.1,map_inj (fun u hu v hv=>hf u (by simp[hu]) v (by simp[hv])) h.2]
theorem HM{w v:Walk}(hw:∀p∈w,okP p)(hv:∀p∈v,okP p)(e:g7 w=g7 v):w=v:=by
 have key:∀{w:Walk},(∀p∈w,okP p)->w≠[]->parts 32 (g7 w)=w.map cG:=by
  intro w hw kb;unfold g7;refine fF (by simpa using kb) fun q hq=>?_
  obtain⟨p,hp,rfl⟩:=au.mp hq;intro e;rcases kH (hw p hp) e with h1|h1<;>omega
 have Cw:∀{w:Walk},(∀p∈w,okP p)->g7 w=[]->w=[]:=by
  intro w hw e;by_cases h:w=[]
  ·exact h
  ·exfalso;have k:=key hw h;rw[e]at k;have:[([]:List Int)]=w.map cG:=k;cases w with
   |nil=>exact h rfl
   |cons p w=>simp at this;exact B4 this.1
 by_cases h1:w=[]
 ·subst h1;exact(Cw hv e.symm).symm
 ·by_cases h2:v=[]
  ·subst h2;exact absurd (Cw hw e) h1
  ·have k1:=key hw h1;rw[e,key hv h2]at k1;exact map_inj (fun x hx y hy=>yK (hw x hx) (hv y hy)) k1.symm
theorem uD{a b:List Walk}(ha:tD a)(hb:tD b)(h:walksText a=walksText b):a=b:=by
 rw[<- j8 ha,<- j8 hb]at h;have h:=sC (qS ha) (qS hb) h;have k:=nL ha;rw[h,nL hb]at k;have k:a.map g7=b.map g7:=by simpa using k.symm
 exact map_inj (fun x hx y hy=>HM (ha x hx) (hb y hy)) k
noncomputable def bL(x y:Nat)(f:Foot):Bool:=(f.2==1&& f.1==(x,y))||(f.2==3&& f.1==(x,y+1))
noncomputable def c9(F:Nat->Nat->Bool)(y:Nat):Nat->Bool
 |0=>F 0 y
 |x+1=>xor (c9 F y x) (F (x+1) y)
noncomputable def aV(F:Nat->Nat->Bool):Cells:=(List.range SIDE).flatMap fun y=>((List.range SIDE).map fun x=>((x,y):Cell)).filter fun c=>c9 F c.2 c.1
theorem rS(F:List Foot)(y:Nat):wallsWest F (0,y)=F.countP (bL 0 y):=by
 unfold wallsWest;refine List.countP_congr fun f _=>?_
 obtain⟨⟨a,b⟩,k⟩:=f;show(decide (a<=0)&& ((k==1&& b==y)||(k==3&& b==y+1)))=true↔((k==1&& (a==0&& b==y))||(k==3&& (a==0&& b==y+1)))=true
 rw[show(a==0)=decide (a<=0)from di.mpr (by rw[beq_iff_eq,decide_eq_true_iff];exact Nat.le_zero.symm)];cases decide (a<=0)
 ·simp only[Bool.false_and,Bool.and_false,Bool.or_false]
 ·simp only[Bool.true_and]
theorem w9{α:Type}{p q r:α->Bool}:∀{l:List α},(∀x∈l,r x=(p x||q x))->(∀x∈l,¬(p x=true/\q x=true))->l.countP r=l.countP p+l.countP q
 |[],_,_=>by simp
 |x::l,h1,h2=>by have ih:=w9 (l:=l) (fun y hy=>h1 y (by simp[hy])) (fun y hy=>h2 y (by simp[hy]));have a:=h1 x (by simp);have b:=h2 x (by simp);rw[countP_cons,countP_cons,countP_cons,ih,a];cases hp:p x<;>cases hq:q x<;>simp_all<;>omega
theorem rT(F:List Foot)(x y:Nat):wallsWest F (x+1,y)=wallsWest F (x,y)+F.countP (bL (x+1) y):=by
 unfold wallsWest;refine w9 (fun f _=>?_) fun f _ h=>?_
 ·obtain⟨⟨a,b⟩,k⟩:=f;show(decide (a<=x+1)&& ((k==1&& b==y)||(k==3&& b==y+1)))=((decide (a<=x)&& ((k==1&& b==y)||(k==3&& b==y+1)))||((k==1&& (a==x+1&& b==y))||(k==3&& (a==x+1&& b==y+1))))
  by_cases c:a=x+1
  ·rw[decide_eq_true (ie c),decide_eq_false (by omega),show(a==x+1)=true from beq_iff_eq.mpr c];rfl
  ·rw[show decide (a<=x+1)=decide (a<=x)from decide_eq_decide.mpr (by omega),show(a==x+1)=false from beq_eq_false_iff_ne.mpr c];simp only[Bool.false_and,Bool.and_false,Bool.or_false]
 ·obtain⟨⟨a,b⟩,k⟩:=f;have h1:(decide (a<=x)&& ((k==1&& b==y)||(k==3&& b==y+1)))=true:=h.1;have h2:((k==1&& (a==x+1&& b==y))||(k==3&& (a==x+1&& b==y+1)))=true:=h.2;have e:a<=x:=bb (Bool.and_eq_true_iff.mp h1).1;rw[show(a==x+1)=false from beq_eq_false_iff_ne.mpr (by omega)]at h2;simp only[Bool.false_and,Bool.and_false,Bool.or_false]at h2;cases h2
theorem z6{F:List Foot}(h:∀x y,F.countP (bL x y)<=1)(y:Nat):∀x,c9 (fun x y=>F.any (bL x y)) y x=(wallsWest F (x,y)%2==1):=by
 have one:∀x,F.any (bL x y)=(F.countP (bL x y)==1):=by
  intro x;have:=h x y;cases e:F.any (bL x y)with
  |true=>
   have:0<F.countP (bL x y):=by rw[List.countP_pos_iff];exact fo.mp e
   have:F.countP (bL x y)=1:=by omega
   simp[this]
  |false=>
   have:F.countP (bL x y)=0:=by rw[List.countP_eq_zero];intro a ha q;have:F.any (bL x y)=true:=fo.mpr ⟨a,ha,q⟩;rw[e]at this;cases this
   simp[this]
 intro x;induction x with
 |zero=>
  show F.any (bL 0 y)=_
  rw[rS,one];have:=h 0 y;rw[di];simp;omega
 |succ x ih=>
  show xor (c9 _ y x) (F.any (bL (x+1) y))=_
  rw[rT,ih,one];have:=h (x+1) y;rw[di];have hx:∀a b:Nat,b<=1->(((a%2==1)^^ (b==1))=true↔((a+b)%2==1)=true):=by
   intro a b hb;have:b=0\/b=1:=by omega
   rcases this with rfl|rfl
   ·simp
   ·have:a%2=0\/a%2=1:=by omega
    rcases this with q|q
    ·simp[q];omega
    ·simp[q];omega
  exact hx _ _ this
theorem C8(ws:List Walk):cellsIn ws=(List.range SIDE).flatMap fun y=>((List.range SIDE).map fun x=>((x,y):Cell)).filter fun c=>wallsWest (ws.flatMap walkFeet) c%2==1:=by
 unfold cellsIn;dsimp only;congr 1;funext y;have Bm:∀x,wallsWest (((ws.flatMap walkFeet).filter fun(x:Foot)=>x.2==1||x.2==3).filter fun(x:Foot)=>x.1.2==y||x.1.2==y+1) (x,y)=wallsWest (ws.flatMap walkFeet) (x,y):=by
  intro x;unfold wallsWest;rw[List.countP_filter,List.countP_filter];refine List.countP_congr fun f _=>?_
  simp;omega
 split
 ·rename_i e;symm;rw[List.filter_eq_nil_iff];intro c hc;obtain⟨x,_,rfl⟩:=au.mp hc;have w:=Bm x;rw[List.isEmpty_iff.mp e]at w;rw[<- w];simp[wallsWest]
 ·refine filter_congr fun c hc=>?_
  obtain⟨x,_,rfl⟩:=au.mp hc;rw[Bm x]
theorem wB{ws:List Walk}(h:∀x y,(ws.flatMap walkFeet).countP (bL x y)<=1):cellsIn ws=aV fun x y=>(ws.flatMap walkFeet).any (bL x y):=by
 rw[C8,aV];congr 1;funext y;refine filter_congr fun c hc=>?_
 obtain⟨x,_,rfl⟩:=au.mp hc;rw[z6 h]
noncomputable def r8(a b:Point)(x y:Nat):Bool:=a.1==b.1&& (a.1==x&& (decide (min a.2 b.2<=y)&& decide (y<max a.2 b.2)))
theorem J2(a b:Point)(x y:Nat):(feet a b).any (bL x y)=r8 a b x y:=by
 rw[di,fo];unfold feet;constructor
 ·rintro⟨f,hf,hv⟩;by_cases h1:a.2=b.2
  ·rw[ah h1]at hf;split at hf
   ·obtain⟨i,_,rfl⟩:=au.mp hf;simp[bL]at hv
   ·obtain⟨i,_,rfl⟩:=au.mp hf;simp[bL]at hv
  ·rw[af h1]at hf;by_cases h2:a.1=b.1
   ·rw[ah h2]at hf;split at hf
    ·obtain⟨i,hi,rfl⟩:=au.mp hf;simp[bL,Prod.ext_iff]at hv hi;simp[r8];omega
    ·obtain⟨i,hi,rfl⟩:=au.mp hf;simp[bL,Prod.ext_iff]at hv hi;simp[r8];omega
   ·rw[af h2]at hf;simp at hf
 ·intro h;simp[r8]at h;obtain⟨h1,h2,h3,h4⟩:=h;have kb:a.2≠b.2:=by omega
  rw[af kb,ah h1];by_cases kh:a.2<b.2
  ·rw[ah kh];refine⟨((a.1,y),1),au.mpr ⟨y - a.2,by simp;omega,?_⟩,by simp[bL,Prod.ext_iff];omega⟩;simp[Prod.ext_iff];omega
  ·rw[af kh];refine⟨((a.1,y+1),3),au.mpr ⟨a.2 - (y+1),by simp;omega,?_⟩,by simp[bL,Prod.ext_iff];omega⟩;simp[Prod.ext_iff];omega
noncomputable def dR(ws:List Walk)(x y:Nat):Bool:=ws.any fun w=>(sides w).any fun s=>r8 s.1 s.2 x y
theorem FG(ws:List Walk)(x y:Nat):(ws.flatMap walkFeet).any (bL x y)=dR ws x y:=by unfold dR walkFeet;rw[List.any_flatMap];congr 1;funext w;rw[List.any_flatMap];congr 1;funext s;exact J2 s.1 s.2 x y
theorem kN{l:Cells}(h:isHouse l=true):l≠[]/\l.length<=256/\(∀c∈l,c.1<64/\c.2<64)/\rising l=true/\pinched l=false:=by
 unfold isHouse at h;cases l with
 |nil=>simp at h
 |cons c r=>
  simp[Roof.within,SIDE,CELLS]at h;obtain⟨h1,h2,h3,h4,h5⟩:=h;refine⟨by simp,by simpa using h1,?_,h3,h5⟩;intro x hx;rcases ar.mp hx with rfl|hx
  ·exact⟨bb h2.1.1,bb h2.1.2⟩
  ·exact⟨bb (h2.2 x.1 x.2 hx).1,bb (h2.2 x.1 x.2 hx).2⟩
theorem JM{l:Cells}(h:∀c∈l,c.1<64/\c.2<64){q:Point}{d:Nat}(ho:outOf l q=some d):okP q:=by have:=gO ho;unfold pointsOf at this;rw[tN]at this;obtain⟨c,hc,hq⟩:=bx.mp this;have:=h c hc;simp at hq;rcases hq with rfl|rfl|rfl|rfl<;>(constructor<;>(try simp only)<;>omega)
theorem qX{l:Cells}(h:isHouse l=true):tD (walksOf l)/\∀x y,((walksOf l).flatMap walkFeet).countP (bL x y)<=1:=by
 obtain⟨_,_,hb,_,hp⟩:=kN h;obtain⟨F,h1,h2,h3,_,h5⟩:=cN hp (d6.start l);refine⟨fun w hw p hpw=>?_,fun x y=>?_⟩
 ·obtain⟨d,hd⟩:=h5 w hw p hpw;exact JM hb hd
 ·show((walksFrom l [] (pointsOf l)).flatMap walkFeet).countP _<=1
  rw[h1];have nd:=nR h3;have uniq:∀f∈F,∀g∈F,bL x y f=true->bL x y g=true->f=g:=by
   intro f hf g hg vf vg;have of:=h2 f hf;have og:=h2 g hg;obtain⟨⟨a,b⟩,d⟩:=f;obtain⟨⟨a',b'⟩,d'⟩:=g;simp[bL,Prod.ext_iff]at vf vg;obtain⟨_,w1⟩:=b8 of;obtain⟨_,w2⟩:=b8 og;rw[cU]at w1 w2;rcases vf with⟨e1,e2,e3⟩|⟨e1,e2,e3⟩<;>rcases vg with⟨g1,g2,g3⟩|⟨g1,g2,g3⟩
   ·subst e1 e2 e3 g1 g2 g3;rfl
   ·exfalso;subst e1 e2 e3 g1 g2 g3;simp[aZ,ne,se]at w1 w2;rw[w1.2]at w2;simp at w2
   ·exfalso;subst e1 e2 e3 g1 g2 g3;simp[aZ,ne,se]at w1 w2;rw[w2.2]at w1;simp at w1
   ·subst e1 e2 e3 g1 g2 g3;rfl
  have key:∀{F:List Foot},F.Nodup->(∀f∈F,∀g∈F,bL x y f=true->bL x y g=true->f=g)->F.countP (bL x y)<=1:=by
   intro F;induction F with
   |nil=>intro _ _;simp
   |cons f F ih=>
    intro nd u;obtain⟨n1,n2⟩:=de.mp nd;rw[countP_cons];by_cases hv:bL x y f=true
    ·have:F.countP (bL x y)=0:=by rw[List.countP_eq_zero];intro g hg vg;have:=u f (by simp) g (by simp[hg]) hv vg;exact n1 (this▸hg)
     simp[this,hv]
    ·have:=ih n2 fun a ha b hb=>u a (by simp[ha]) b (by simp[hb])
     simp[hv];omega
  exact key nd uniq
noncomputable def IU(ws:List Walk):Option Cells:=if isHouse (aV (dR ws))=true/\walksOf (aV (dR ws))=ws then some (aV (dR ws))else none
theorem tU(ws:List Walk):(fun x y=>(ws.flatMap walkFeet).any (bL x y))=dR ws:=by funext x y;exact FG ws x y
theorem BQ{t:List Int}(ht:inB t){ws:List Walk}(o:B5 ws)(e:eQ t=some (iWs ws)):houseOf (RoofBNeutral.text t)=IU ws:=by
 have inj:∀{a b:List Walk},iWs a=iWs b->a=b:=by intro a b h;refine map_inj (fun x _ y _ q=>map_inj (fun p _ p' _ r=>?_) q) h;have a1:=congrArg Prod.fst r;have a2:=congrArg Prod.snd r;simp[iP]at a1 a2;exact Prod.ext (by omega) (by omega)
 have hr:readWalks (RoofBNeutral.text t)=.ok ws:=by
  cases q:readWalks (RoofBNeutral.text t)with
  |error p=>rw[EM q]at e;cases e
  |ok v=>have:=(reads ht q).1;rw[e]at this;rw[inj (Option.some.inj this)]
 have hx:=(nG hr).2;have okp:tD ws:=fun w hw=>(o.2 w hw).2
 unfold houseOf;rw[hr];dsimp only;unfold IU;by_cases h1:isHouse (cellsIn ws)=true/\textOf (cellsIn ws)=RoofBNeutral.text t
 ·rw[ah h1];obtain⟨k1,k2⟩:=qX h1.1;have hw:walksOf (cellsIn ws)=ws:=uD k1 okp (by rw[<- hx];exact h1.2);rw[hw]at k2;have e2:=wB k2;rw[tU]at e2;rw[<- e2,ah ⟨h1.1,hw⟩]
 ·rw[af h1];by_cases h2:isHouse (aV (dR ws))=true/\walksOf (aV (dR ws))=ws
  ·exfalso;obtain⟨k1,k2⟩:=qX h2.1;rw[h2.2]at k2;have e2:=wB k2;rw[tU]at e2;refine h1 ⟨by rw[e2];exact h2.1,?_⟩;rw[e2,textOf,h2.2,hx]
  ·rw[af h2]
theorem BR{t:List Int}(ht:inB t)(e:eQ t=none):houseOf (RoofBNeutral.text t)=none:=by
 unfold houseOf;cases q:readWalks (RoofBNeutral.text t)with
 |error p=>rfl
 |ok v=>have:=(reads ht q).1;rw[e]at this;cases this
noncomputable def aK(p:Pl)(s:Nat):Pl:=if s=0 then(p.1,p.2 - 1)else if s=1 then(p.1+1,p.2)else if s=2 then(p.1,p.2+1)else(p.1 - 1,p.2)
theorem fJ{a b:Point}(h:iP a=iP b):a=b:=by have a1:=congrArg Prod.fst h;have a2:=congrArg Prod.snd h;simp[iP]at a1 a2;exact Prod.ext (by omega) (by omega)
theorem gV{l:Cells}{x:Cell}:iP x∈iW l↔x∈l:=by
 constructor
 ·intro h;obtain⟨y,hy,e⟩:=au.mp h;exact fJ e▸hy
 ·exact fun h=>au.mpr ⟨x,h,rfl⟩
theorem rD{x y:Cell}:y∈beside x↔∃s,s<4/\iP y=aK (iP x) s:=by
 obtain⟨a,b⟩:=x;obtain⟨u,v⟩:=y;constructor
 ·intro h;unfold beside at h;rw[aw,aw]at h;rcases h with h|h|h
  ·simp at h;rcases h with⟨rfl,rfl⟩|⟨rfl,rfl⟩
   ·exact⟨1,by omega,by simp[iP,aK]⟩
   ·exact⟨2,by omega,by simp[iP,aK]⟩
  ·split at h
   ·simp at h;obtain⟨rfl,rfl⟩:=h;rename_i q;exact⟨3,by omega,by simp[iP,aK];simp at q;omega⟩
   ·simp at h
  ·split at h
   ·simp at h;obtain⟨rfl,rfl⟩:=h;rename_i q;exact⟨0,by omega,by simp[iP,aK];simp at q;omega⟩
   ·simp at h
 ·rintro⟨s,hs,e⟩;have cs:s=0\/s=1\/s=2\/s=3:=by omega
  unfold beside;rw[aw,aw];rcases cs with rfl|rfl|rfl|rfl
  ·simp[iP,aK]at e;right;right;rw[ah (show 0<b by omega)];simp;omega
  ·simp[iP,aK]at e;left;simp;omega
  ·simp[iP,aK]at e;left;simp;omega
  ·simp[iP,aK]at e;right;left;rw[ah (show 0<a by omega)];simp;omega
inductive uB (l:Cells) (c:Cell):Cell->Prop where
 |refl:uB l c c
 |step {x y:Cell}:uB l c x->y∈beside x->y∈l->uB l c y
theorem zY{l:Cells}{c:Cell}{R:List Cell}(h0:c∈R)(hc:∀x∈R,∀y∈beside x,y∈l->y∈R):∀x,uB l c x->x∈R:=by
 intro x h;induction h with
 |refl=>exact h0
 |step _ h1 h2 ih=>exact hc _ ih _ h1 h2
theorem y9{α:Type}[DecidableEq α]{R l:List α}(hR:R.Nodup)(hl:l.Nodup)(hs:∀x∈R,x∈l):R.length=l.length↔∀x∈l,x∈R:=by
 constructor
 ·intro e x hx;apply Classical.byContradiction;intro hn;have:=cO (a:=R) (b:=l.erase x) hR fun y hy=>(List.mem_erase_of_ne (fun(q:y=x)=>hn (q▸hy))).mpr (hs y hy)
  rw[List.length_erase_of_mem hx]at this;have:0<l.length:=List.length_pos_of_mem hx;omega
 ·intro h;exact Nat.le_antisymm (cO hR hs) (cO hl h)
theorem jY{α:Type}[BEq α][LawfulBEq α]:∀(n:Nat)(l:List α),l.length<=n->l.eraseDups.Nodup
 |0,l,h=>by have:l=[]:=List.length_eq_zero_iff.mp (by omega);subst this;simp
 |n+1,[],h=>by simp
 |n+1,a::l,h=>by
  rw[List.eraseDups_cons];refine de.mpr ⟨fun hm=>?_,jY n _ ?_⟩
  ·rw[List.mem_eraseDups]at hm;simp at hm
  ·have:=gx (fun b=>!b==a) l;simp at h;omega
structure DX(l:Cells)(c:Cell)(R:List Cell):Prop where
 nd:R.Nodup
 sub:∀x∈R,x∈l
 conn:∀x∈R,uB l c x
 start:c∈R
theorem v9{l:Cells}{c:Cell}:∀(f:Nat)(seen new:List Cell),DX l c seen->(∀x∈new,x∈seen)->(∀x∈seen,x∉new->∀y∈beside x,y∈l->y∈seen)->l.length<seen.length+f ->
  DX l c (reach l f seen new)/\∀x∈reach l f seen new,∀y∈beside x,y∈l->y∈reach l f seen new
 |0,seen,new,h,_,_,hl=>by have:=cO h.nd h.sub;omega
 |f+1,seen,new,h,hn,hc,hl=>by
  have eR:reach l (f+1) seen new=(if((new.flatMap beside).filter fun(c:Cell)=>l.contains c&& !seen.contains c).eraseDups=[]then seen else
   reach l f (seen++((new.flatMap beside).filter fun(c:Cell)=>l.contains c&& !seen.contains c).eraseDups) ((new.flatMap beside).filter fun(c:Cell)=>l.contains c&& !seen.contains c).eraseDups):=rfl
  rw[eR];generalize hN:((new.flatMap beside).filter fun(c:Cell)=>l.contains c&& !seen.contains c).eraseDups=N;have hm:∀y,y∈N↔(∃x∈new,y∈beside x)/\y∈l/\y∉seen:=by intro y;rw[<- hN,List.mem_eraseDups,cf,bx];simp
  have rp:N.Nodup:=hN▸jY _ _ (ay _);have Eb:∀x∈seen,∀y∈beside x,y∈l->y∈seen\/y∈N:=by
   intro x hx y hy uv;by_cases hxn:x∈new
   ·by_cases hys:y∈seen
    ·exact .inl hys
    ·exact .inr ((hm y).mpr ⟨⟨x,hxn,hy⟩,uv,hys⟩)
   ·exact .inl (hc x hx hxn y hy uv)
  by_cases he:N=[]
  ·rw[ah he];refine⟨h,fun x hx y hy uv=>?_⟩;rcases Eb x hx y hy uv with q|q
   ·exact q
   ·rw[he]at q;simp at q
  ·rw[af he];refine v9 f (seen++N) N ⟨?_,?_,?_,cc _ h.start⟩ (fun x hx=>bh _ hx) ?_ ?_
   ·rw[cv];refine⟨h.nd,rp,fun a ha b hb e=>?_⟩;exact((hm b).mp hb).2.2 (e▸ha)
   ·intro x hx;rcases aw.mp hx with hx|hx
    ·exact h.sub x hx
    ·exact((hm x).mp hx).2.1
   ·intro x hx;rcases aw.mp hx with hx|hx
    ·exact h.conn x hx
    ·obtain⟨⟨z,hz,q⟩,hl,_⟩:=(hm x).mp hx;exact .step (h.conn z (hn z hz)) q hl
   ·intro x hx hxn y hy uv;rcases aw.mp hx with hx|hx
    ·rcases Eb x hx y hy uv with q|q
     ·exact cc _ q
     ·exact bh _ q
    ·exact absurd hx hxn
   ·have:0<N.length:=gr.mpr he;rw[aj];omega
theorem EN{l:Cells}(hl:l.Nodup){c:Cell}(hc:c∈l):(reach l l.length [c] [c]).length=l.length↔∀x∈l,uB l c x:=by
 obtain⟨h,ow⟩:=v9 l.length [c] [c] (l:=l) (c:=c) ⟨by simp,by simpa using hc,by intro x hx;simp at hx;subst hx;exact .refl,by simp⟩ (by simp) (by intro x hx hn;exact absurd hx hn) (by simp);rw[y9 h.nd hl h.sub];constructor
 ·exact fun q x hx=>h.conn x (q x hx)
 ·exact fun q x hx=>zY h.start ow x (q x hx)
structure Dfs(l:Cells)(c:Cell)(reached qb:List Pl):Prop where
 nd:reached.Nodup
 sub:∀p∈reached,∃x∈l,p=iP x/\uB l c x
 wait:∀p∈qb,∀x∈l,p=iP x->uB l c x
 start:iP c∈reached\/iP c∈qb
 pH:∀p∈reached,∀s,s<4->aK p s∈iW l->aK p s∈reached\/aK p s∈qb
theorem Dfs.first{l:Cells}{c:Cell}:Dfs l c [] [iP c]:=
 ⟨by simp,by simp,by intro p hp x hx e;simp at hp;subst hp;rw[fJ e];exact .refl,.inr (by simp),by simp⟩
theorem Dfs.skip{l:Cells}{c:Cell}{reached w:List Pl}{p:Pl}(h:Dfs l c reached (w++[p]))(hc:c∈l)(hp:p∉iW l\/p∈reached):Dfs l c reached w:=by
 refine⟨h.nd,h.sub,fun q hq=>h.wait q (by simp[hq]),?_,fun q hq s hs hm=>?_⟩
 ·rcases h.start with e|e
  ·exact .inl e
  ·rcases aw.mp e with e|e
   ·exact .inr e
   ·simp at e;rcases hp with hp|hp
    ·rw[<- e]at hp;exact absurd (gV.mpr hc) hp
    ·rw[e];exact .inl hp
 ·rcases h.pH q hq s hs hm with e|e
  ·exact .inl e
  ·rcases aw.mp e with e|e
   ·exact .inr e
   ·simp at e;rcases hp with hp|hp
    ·rw[e]at hm;exact absurd hm hp
    ·rw[e];exact .inl hp
theorem Dfs.take{l:Cells}{c:Cell}{reached w:List Pl}{p:Pl}(h:Dfs l c reached (w++[p]))(hp:p∈iW l)(hn:p∉reached):
  Dfs l c (reached++[p]) (w++[aK p 0,aK p 1,aK p 2,aK p 3]):=by
 obtain⟨x,hx,e⟩:=au.mp hp;have hcx:uB l c x:=h.wait p (by simp) x hx e.symm;refine⟨?_,?_,?_,?_,?_⟩
 ·rw[cv];refine⟨h.nd,by simp,fun a ha b hb=>?_⟩;simp at hb;subst hb;intro q;exact hn (q▸ha)
 ·intro q hq;rcases aw.mp hq with hq|hq
  ·exact h.sub q hq
  ·simp at hq;exact⟨x,hx,by rw[hq,e],hcx⟩
 ·intro q hq y hy ey;rcases aw.mp hq with hq|hq
  ·exact h.wait q (by simp[hq]) y hy ey
  ·have:y∈beside x:=by
    rw[rD];simp at hq;rcases hq with q0|q0|q0|q0
    ·exact⟨0,by omega,by rw[e,<- ey,q0]⟩
    ·exact⟨1,by omega,by rw[e,<- ey,q0]⟩
    ·exact⟨2,by omega,by rw[e,<- ey,q0]⟩
    ·exact⟨3,by omega,by rw[e,<- ey,q0]⟩
   exact .step hcx this hy
 ·rcases h.start with q|q
  ·exact .inl (by simp[q])
  ·rcases aw.mp q with q|q
   ·exact .inr (by simp[q])
   ·simp at q;exact .inl (by simp[q])
 ·intro q hq s hs hm;rcases aw.mp hq with hq|hq
  ·rcases h.pH q hq s hs hm with r|r
   ·exact .inl (by simp[r])
   ·rcases aw.mp r with r|r
    ·exact .inr (by simp[r])
    ·simp at r;exact .inl (by simp[r])
  ·simp at hq;subst hq;have cs:s=0\/s=1\/s=2\/s=3:=by omega
   right;rcases cs with rfl|rfl|rfl|rfl<;>simp
theorem Dfs.len{l:Cells}{c:Cell}{reached w:List Pl}(h:Dfs l c reached w):reached.length<=l.length:=by
 have:=cO (b:=iW l) h.nd fun p hp=>by obtain⟨x,hx,e,_⟩:=h.sub p hp;rw[e];exact gV.mpr hx
 simpa[iW]using this
theorem Dfs.done{l:Cells}(hl:l.Nodup){c:Cell}(hc:c∈l){reached:List Pl}(h:Dfs l c reached []):decide (reached.length=l.length)=((reach l l.length [c] [c]).length==l.length):=by
 have e1:(iW l).length=l.length:=by simp[iW]
 have nd:(iW l).Nodup:=dZ hl fun x _ y _ e=>fJ e
 have k1:=y9 (R:=reached) (l:=iW l) h.nd nd fun p hp=>by obtain⟨x,hx,e,_⟩:=h.sub p hp;rw[e];exact gV.mpr hx
 rw[e1]at k1;have k2:=EN hl hc;have k3:(∀x∈iW l,x∈reached)↔∀x∈l,uB l c x:=by
  constructor
  ·intro q x hx;obtain⟨y,hy,e,hcy⟩:=h.sub _ (q (iP x) (gV.mpr hx));rw[fJ e];exact hcy
  ·intro q p hp;obtain⟨x,hx,rfl⟩:=au.mp hp;have key:∀x,uB l c x->iP x∈reached:=by
    intro x hcx;induction hcx with
    |refl=>
     rcases h.start with r|r
     ·exact r
     ·simp at r
    |step _ h1 h2 ih=>
     obtain⟨s,hs,e⟩:=rD.mp h1;rcases h.pH _ ih s hs (by rw[<- e];exact gV.mpr h2)with r|r
     ·rw[e];exact r
     ·simp at r
   exact key x (q x hx)
 rw[di];simp only[decide_eq_true_eq,beq_iff_eq];rw[k1,k3,k2]
noncomputable def bD(l:Cells)(p:Pl)(s:Nat):Bool:=!decide (aK p s∈iW l)&& (!decide (aK p ((s+1)%4)∈iW l)&& decide (aK (aK p s) ((s+1)%4)∈iW l))
theorem mO{l:Cells}{x y:Int}:(x,y)∈iW l↔inI l x y=true:=by
 constructor
 ·intro h;obtain⟨c,hc,e⟩:=au.mp h;have a1:=congrArg Prod.fst e;have a2:=congrArg Prod.snd e;simp[iP]at a1 a2;rw[<- a1,<- a2,cE];simpa using hc
 ·intro h;obtain⟨h1,h2,h3⟩:=bT h;refine au.mpr ⟨_,h3,?_⟩;simp[iP];omega
theorem jU{l:Cells}{x y:Int}:decide ((x,y)∈iW l)=inI l x y:=by rw[di,decide_eq_true_eq];exact mO
theorem AX{l:Cells}:pinched l=(iW l).any fun p=>bD l p 0||(bD l p 1||(bD l p 2||bD l p 3)):=by
 have m0:∀x y:Int,bD l (x,y) 0=(!inI l x (y - 1)&& (!inI l (x+1) y&& inI l (x+1) (y - 1))):=by intro x y;simp only[bD,aK];simp only[jU,ah,af (show¬((0+1)%4=0) by decide),ah (show(0+1)%4=1 by decide)]
 have m1:∀x y:Int,bD l (x,y) 1=(!inI l (x+1) y&& (!inI l x (y+1)&& inI l (x+1) (y+1))):=by intro x y;simp[bD,aK,jU]
 have m2:∀x y:Int,bD l (x,y) 2=(!inI l x (y+1)&& (!inI l (x - 1) y&& inI l (x - 1) (y+1))):=by intro x y;simp[bD,aK,jU]
 have m3:∀x y:Int,bD l (x,y) 3=(!inI l (x - 1) y&& (!inI l x (y - 1)&& inI l (x - 1) (y - 1))):=by intro x y;simp[bD,aK,jU]
 rw[di];constructor
 ·intro h;obtain⟨⟨a,b⟩,hc,q⟩:=fo.mp h;refine fo.mpr ⟨iP (a,b),gV.mpr hc,?_⟩;show(bD l ((a:Int),(b:Int)) 0||(bD l ((a:Int),(b:Int)) 1||(bD l ((a:Int),(b:Int)) 2||bD l ((a:Int),(b:Int)) 3)))=true
  rw[m1,m2];rw[or_eq_true]at q;rcases q with q|q
  ·simp only[dm,ig,Bool.or_eq_false_iff]at q;have b1:inI l ((a:Int)+1) ((b:Int)+1)=true:=by have:=cE l (a+1) (b+1);rw[q.1]at this;simpa using this
   have b2:inI l ((a:Int)+1) b=false:=by have:=cE l (a+1) b;rw[q.2.1]at this;simpa using this
   have b3:inI l (a:Int) ((b:Int)+1)=false:=by have:=cE l a (b+1);rw[q.2.2]at this;simpa using this
   simp[b1,b2,b3]
  ·simp only[dm,ig,Bool.or_eq_false_iff,decide_eq_true_eq]at q;obtain⟨q0,q1,q2,q3⟩:=q;have e:((a - 1:Nat):Int)=(a:Int) - 1:=by have:0<a:=q0;omega
   have b1:inI l ((a:Int) - 1) ((b:Int)+1)=true:=by have:=cE l (a - 1) (b+1);rw[q1,e]at this;simpa using this
   have b2:inI l ((a:Int) - 1) b=false:=by have:=cE l (a - 1) b;rw[q2,e]at this;simpa using this
   have b3:inI l (a:Int) ((b:Int)+1)=false:=by have:=cE l a (b+1);rw[q3]at this;simpa using this
   simp[b1,b2,b3]
 ·intro h;obtain⟨p,hp,q⟩:=fo.mp h;cases hb:pinched l with
  |true=>rfl
  |false=>
   exfalso;obtain⟨x,y⟩:=p;have hp:=mO.mp hp;rw[m0,m1,m2,m3]at q;simp only[or_eq_true,dm,ig]at q;rcases q with⟨q1,q2,q3⟩|⟨q1,q2,q3⟩|⟨q1,q2,q3⟩|⟨q1,q2,q3⟩
   ·
    refine(gJ hb (x+1) y).2 ⟨?_,?_,?_,?_⟩
    ·rw[nw,show x+1 - 1=x by omega];exact hp
    ·exact q3
    ·exact q2
    ·rw[sw,show x+1 - 1=x by omega];exact q1
   ·refine(gJ hb (x+1) (y+1)).1 ⟨?_,?_,?_,?_⟩
    ·rw[sw,show x+1 - 1=x by omega,show y+1 - 1=y by omega];exact hp
    ·exact q3
    ·rw[se,show y+1 - 1=y by omega];exact q1
    ·rw[nw,show x+1 - 1=x by omega];exact q2
   ·refine(gJ hb x (y+1)).2 ⟨?_,?_,?_,?_⟩
    ·exact q3
    ·rw[se,show y+1 - 1=y by omega];exact hp
    ·exact q1
    ·rw[sw,show y+1 - 1=y by omega];exact q2
   ·refine(gJ hb x y).1 ⟨?_,?_,?_,?_⟩
    ·exact q3
    ·exact hp
    ·exact q2
    ·exact q1
theorem sO:∀{l:Cells},rising l=true↔l.Pairwise fun a b=>before a b=true
 |[]=>by simp[rising]
 |[a]=>by simp[rising]
 |a::b::r=>by
  have ih:=sO (l:=b::r);unfold rising;rw[dm,ih,gh (l:=b::r)];constructor
  ·rintro⟨h1,h2⟩;refine⟨fun x hx=>?_,h2⟩;rcases ar.mp hx with rfl|hx
   ·exact h1
   ·exact jV h1 ((gh.mp h2).1 x hx)
  ·rintro⟨h1,h2⟩;exact⟨h1 b (by simp),h2⟩
theorem mW{F:Nat->Nat->Bool}{c:Cell}:c∈aV F↔c.1<64/\c.2<64/\c9 F c.2 c.1=true:=by
 unfold aV SIDE;simp only[bx,cf,au,iy];constructor
 ·rintro⟨y,hy,⟨x,hx,rfl⟩,h⟩;exact⟨hx,hy,h⟩
 ·rintro⟨h1,h2,h3⟩;exact⟨c.2,h2,⟨c.1,h1,rfl⟩,h3⟩
theorem mI(F:Nat->Nat->Bool):(aV F).Pairwise fun a b=>before a b=true:=by
 unfold aV;rw[List.pairwise_flatMap];refine⟨fun y _=>?_,?_⟩
 ·refine List.Pairwise.filter _ ?_;rw[jk];refine List.Pairwise.imp (fun{a b} h=>?_) List.pairwise_lt_range;rw[cX];exact .inr ⟨rfl,h⟩
 ·refine List.Pairwise.imp (fun{a b} h=>?_) List.pairwise_lt_range;intro x hx y hy;simp only[cf,au]at hx hy;obtain⟨⟨i,_,rfl⟩,_⟩:=hx;obtain⟨⟨j,_,rfl⟩,_⟩:=hy;rw[cX];exact .inl h
theorem tL{F:Nat->Nat->Bool}{c:Cell}{r:Cells}(e:aV F=c::r):
  isHouse (aV F)=(decide ((aV F).length<=256)&& (!pinched (aV F)&& ((reach (aV F) (aV F).length [c] [c]).length==(aV F).length))):=by
 have h1:(aV F).all Roof.within=true:=ir.mpr fun x hx=>by have:=mW.mp hx;simp[Roof.within,SIDE];exact⟨decide_eq_true this.1,decide_eq_true this.2.1⟩
 have h2:=sO.mpr (mI F);rw[e]at h1 h2 ⊢;show(decide ((c::r).length<=CELLS)&& ((c::r).all Roof.within&& (rising (c::r)&& ((reach (c::r) (c::r).length [c] [c]).length==(c::r).length&& !pinched (c::r)))))=_
 rw[h1,h2,Bool.true_and,Bool.true_and,Bool.and_comm (!pinched (c::r))];rfl
theorem z4:isHouse []=false:=rfl
def hP(r:Nat):Pl:=((iOf r:Int),(jOf r:Int))
def okR(r:Nat):Prop:=∃i j,i<128/\j<128/\r=raw i j
theorem DG{i j:Nat}(hi:i<128):iOf (raw i j)=i:=by unfold iOf raw W;omega
theorem DA{i j:Nat}(hi:i<128):jOf (raw i j)=j:=by unfold jOf raw W;omega
theorem dD{i j:Nat}(hi:i<128):hP (raw i j)=((i:Int),(j:Int)):=by unfold hP;rw[DG hi,DA hi]
theorem tO{r q:Nat}(hr:okR r)(hq:okR q)(e:hP r=hP q):r=q:=by
 obtain⟨i,j,hi,hj,rfl⟩:=hr;obtain⟨i',j',qh,vz,rfl⟩:=hq;rw[dD hi,dD qh]at e;have a:=congrArg Prod.fst e;have b:=congrArg Prod.snd e;simp at a b;have a:i=i':=by omega
 have b:j=j':=by omega
 rw[a,b]
theorem HS{r:Nat}(h:okR r):r<W*W:=by obtain⟨i,j,hi,hj,rfl⟩:=h;unfold raw W;omega
theorem K6{L:List Nat}(hL:∀q∈L,okR q){r q:Nat}(hr:okR r){dx dy:Int}(h1:-1<=dx/\dx<=1)(h2:-1<=dy/\dy<=1)(hq:(q:Int)=r+130*dy+dx):
  q∈L↔((hP r).1+dx,(hP r).2+dy)∈L.map hP:=by
 obtain⟨i,j,hi,hj,rfl⟩:=hr;rw[dD hi];constructor
 ·intro h;refine au.mpr ⟨q,h,?_⟩;obtain⟨i',j',qh,vz,e⟩:=hL q h;rw[e,dD qh];unfold raw W at e hq;apply Prod.ext
  ·simp;omega
  ·simp;omega
 ·intro h;obtain⟨z,hz,e⟩:=au.mp h;obtain⟨i',j',qh,vz,ez⟩:=hL z hz;rw[ez,dD qh]at e;have a:=congrArg Prod.fst e;have b:=congrArg Prod.snd e;simp at a b;have:z=q:=by rw[ez];unfold raw W at hq ⊢;omega
  rw[<- this];exact hz
noncomputable def bA(h:List Nat):Nat->List Nat
 |0=>h
 |k+1=>(bA h k).filter fun r=>(about r).all fun q=>(bA h k).contains q
noncomputable def cP(p:Pl):List Pl:=[(p.1+-1,p.2+-1),(p.1+0,p.2+-1),(p.1+1,p.2+-1),(p.1+-1,p.2+0),(p.1+1,p.2+0),(p.1+-1,p.2+1),(p.1+0,p.2+1),(p.1+1,p.2+1)]
noncomputable def aO(hs:List Pl):Nat->List Pl
 |0=>hs
 |k+1=>(aO hs k).filter fun p=>(cP p).all fun q=>(aO hs k).contains q
theorem kL(h:List Nat):∀k,∀r∈bA h k,r∈h
 |0,r,hr=>hr
 |k+1,r,hr=>kL h k r (cf.mp hr).1
theorem jJ{h:List Nat}(hh:∀r∈h,okR r)(k:Nat):∀r∈bA h k,okR r:=fun r hr=>hh r (kL h k r hr)
theorem G4{L:List Nat}(hL:∀q∈L,okR q){r:Nat}(hr:okR r):((about r).all fun q=>L.contains q)=(cP (hP r)).all fun q=>(L.map hP).contains q:=by
 obtain⟨i,j,hi,hj,e⟩:=id hr;have key:∀{q:Nat}{dx dy:Int},(-1<=dx/\dx<=1)->(-1<=dy/\dy<=1)->((q:Int)=r+130*dy+dx)->L.contains q=(L.map hP).contains ((hP r).1+dx,(hP r).2+dy):=by intro q dx dy h1 h2 hq;rw[di];simp only[je];exact K6 hL hr h1 h2 hq
 have qy:131<=r:=by rw[e];unfold raw W;omega
 simp only[about,cP,List.all_cons,List.all_nil];rw[key (dx:=-1) (dy:=-1) (by omega) (by omega) (by unfold W;omega),key (dx:=0) (dy:=-1) (by omega) (by omega) (by unfold W;omega),key (dx:=1) (dy:=-1) (by omega) (by omega) (by unfold W;omega),
  key (dx:=-1) (dy:=0) (by omega) (by omega) (by omega),key (dx:=1) (dy:=0) (by omega) (by omega) (by omega),
  key (dx:=-1) (dy:=1) (by omega) (by omega) (by unfold W;omega),key (dx:=0) (dy:=1) (by omega) (by omega) (by unfold W;omega),key (dx:=1) (dy:=1) (by omega) (by omega) (by unfold W;omega)]
theorem dC{h:List Nat}(hh:∀r∈h,okR r):∀k,aO (h.map hP) k=(bA h k).map hP
 |0=>rfl
 |k+1=>by
  have ih:=dC hh k;show(aO (h.map hP) k).filter _=((bA h k).filter _).map hP
  rw[ih,List.filter_map];have e:=filter_congr (l:=bA h k) (p:=(fun p=>(cP p).all fun q=>((bA h k).map hP).contains q)∘hP) (q:=fun r=>(about r).all fun q=>(bA h k).contains q) fun r hr=>(G4 (jJ hh k) (jJ hh k r hr)).symm
  rw[e]
theorem mQ{h:List Nat}(hh:∀r∈h,okR r):∀k,∀p∈aO (h.map hP) k,(k:Int)<=p.1/\p.1+k<=127
 |0,p,hp=>by obtain⟨r,hr,rfl⟩:=au.mp hp;obtain⟨i,j,hi,hj,rfl⟩:=hh r hr;rw[dD hi];simp;omega
 |k+1,p,hp=>by obtain⟨h1,h2⟩:=cf.mp hp;simp only[ir,je]at h2;have a:=mQ hh k _ (h2 (p.1+-1,p.2+0) (by simp[cP]));have b:=mQ hh k _ (h2 (p.1+1,p.2+0) (by simp[cP]));simp at a b;simp;omega
theorem eT{h:List Nat}(hh:∀r∈h,okR r){k:Nat}(hk:64<=k):bA h k=[]:=by
 have:=mQ hh k;rw[dC hh]at this;cases e:bA h k with
 |nil=>rfl
 |cons r t=>rw[e]at this;have:=this (hP r) (by simp);omega
theorem qV{h:List Nat}{k:Nat}(e:bA h k=[]):∀m,k<=m->bA h m=[]
 |0,hm=>by
  have:k=0:=by omega
  rw[<- this];exact e
 |m+1,hm=>by
  by_cases hk:k=m+1
  ·rw[<- hk];exact e
  ·show(bA h m).filter _=[]
   rw[qV e m (by omega)];rfl
noncomputable def gv(h:List Nat):Nat->Nat->Nat
 |0,_=>0
 |k+1,r=>if r∈bA h k then k+1 else gv h k r
theorem LQ(h:List Nat):∀k r,gv h k r<=k
 |0,r=>ay _
 |k+1,r=>by
  unfold gv;split
  ·exact ay _
  ·exact Nat.le_succ_of_le (LQ h k r)
theorem MV{h:List Nat}{k r:Nat}:k+1<=gv h (k+1) r↔r∈bA h k:=by
 show k+1<=(if r∈bA h k then k+1 else gv h k r)↔ _
 split
 ·rename_i q;simp[q]
 ·rename_i q;have:=LQ h k r;simp[q];omega
theorem oB{h:List Nat}{k:Nat}(e:bA h k=[])(r:Nat):∀m,k<=m->gv h m r=gv h k r
 |0,hm=>by
  have:k=0:=by omega
  rw[this]
 |m+1,hm=>by
  by_cases hk:k=m+1
  ·rw[hk]
  ·show(if r∈bA h m then m+1 else gv h m r)=_
   rw[qV e m (by omega),af (by simp)];exact oB e r m (by omega)
theorem sV(k:Nat):∀(l:List Nat)(g:Grid),(put g k l).size=g.size
 |[],g=>rfl
 |r::l,g=>by
  show(put (g.setIfInBounds r k) k l).size=_
  rw[sV k l];simp
theorem wV(k:Nat):∀(l:List Nat)(g:Grid)(r:Nat),(∀x∈l,x<g.size)->(put g k l).val r=if r∈l then k else g.val r
 |[],g,r,_=>by simp[put]
 |x::l,g,r,h=>by
  show(put (g.setIfInBounds x k) k l).val r=_
  rw[wV k l _ r fun y hy=>by simpa using h y (by simp[hy])];have hx:=h x (by simp);by_cases h1:r∈l
  ·simp[h1]
  ·rw[af h1];by_cases h2:r=x
   ·subst h2;simp only[ar,true_or,if_true];simp[Grid.val,dh,hx]
   ·have h3:¬r∈x::l:=by simp[h1,h2]
    rw[af h3];unfold Grid.val;simp only[dh,jm];rw[af (fun e=>h2 e.symm)]
theorem y6{h:List Nat}(hh:∀r∈h,okR r):∀(f k:Nat)(g:Grid),g.size=W*W->(∀r,g.val r=gv h (k+1) r)->64<=f+k->∀r,(sink f (k+1) (bA h k) g).val r=gv h (f+k+1) r
 |0,k,g,hs,hg,hk,r=>by
  show g.val r=_
  rw[hg];simp
 |f+1,k,g,hs,hg,hk,r=>by
  have en:((bA h k).filter fun(r:Nat)=>(about r).all fun(q:Nat)=>decide (k+1<=g.val q))=bA h (k+1):=by
   show _=(bA h k).filter _
   refine filter_congr fun r hr=>?_
   congr 1;funext q;rw[di,decide_eq_true_eq,je,hg];exact MV
  show(if((bA h k).filter fun(r:Nat)=>(about r).all fun(q:Nat)=>decide (k+1<=g.val q)).isEmpty=true then g else sink f (k+1+1) ((bA h k).filter fun(r:Nat)=>(about r).all fun(q:Nat)=>decide (k+1<=g.val q)) (put g (k+1+1) ((bA h k).filter fun(r:Nat)=>(about r).all fun(q:Nat)=>decide (k+1<=g.val q)))).val r=_
  rw[en];by_cases he:(bA h (k+1)).isEmpty=true
  ·rw[ah he,hg];exact(oB (List.isEmpty_iff.mp he) r _ (by omega)).symm
  ·rw[af he];have lt:∀x∈bA h (k+1),x<g.size:=fun x hx=>by rw[hs];exact HS (jJ hh _ x hx)
   rw[y6 hh f (k+1) _ (by rw[sV,hs]) (fun x=>?_) (by omega) r]
   ·congr 1;omega
   ·rw[wV _ _ _ _ lt,hg];rfl
theorem zE{h:List Nat}(hh:∀r∈h,okR r){n:Nat}(hn:bA h n=[])(r:Nat):(gridOf h).val r=gv h n r:=by
 unfold gridOf HALVES;have e:(put (Array.replicate (W*W) 0) 1 h).size=W*W:=by rw[sV];simp
 have lt:∀x∈h,x<(Array.replicate (W*W) (0:Nat)).size:=fun x hx=>by have:=HS (hh x hx);simpa using this
 have z:∀r,Grid.val (Array.replicate (W*W) 0) r=0:=by intro r;unfold Grid.val;rw[dh,Array.getElem?_replicate];split<;>rfl
 have:=y6 hh 128 0 (put (Array.replicate (W*W) 0) 1 h) e (fun r=>by rw[wV _ _ _ _ lt,z];rfl) (by omega) r;show(sink 128 (0+1) (bA h 0) _).val r=_
 rw[this];have Bk:=eT hh (ay 64);rw[oB Bk r _ (by omega)];by_cases hc:n<=64
 ·exact oB hn r 64 hc
 ·exact(oB Bk r n (by omega)).symm
noncomputable def gG(hs:List Pl):Nat->Pl->Int
 |0,_=>-1
 |k+1,p=>if p∈aO hs k then k else gG hs k p
theorem DO{h:List Nat}(hh:∀r∈h,okR r){r:Nat}(hr:okR r):∀k,gG (h.map hP) k (hP r)=(gv h k r:Int) - 1
 |0=>rfl
 |k+1=>by
  have ih:=DO hh hr k;have e:hP r∈aO (h.map hP) k↔r∈bA h k:=by
   rw[dC hh];constructor
   ·intro q;obtain⟨z,hz,e⟩:=au.mp q;rw[<- tO (jJ hh k z hz) hr e];exact hz
   ·exact fun q=>au.mpr ⟨r,q,rfl⟩
  show(if hP r∈aO (h.map hP) k then(k:Int)else gG (h.map hP) k (hP r))=((if r∈bA h k then k+1 else gv h k r:Nat):Int) - 1
  by_cases q:r∈bA h k
  ·rw[ah (e.mpr q),ah q];omega
  ·rw[af (fun z=>q (e.mp z)),af q,ih]
theorem vZ{h:List Nat}(hh:∀r∈h,okR r){n:Nat}(hn:aO (h.map hP) n=[]){r:Nat}(hr:okR r):gG (h.map hP) n (hP r)=((gridOf h).val r:Int) - 1:=by rw[dC hh,List.map_eq_nil_iff]at hn;rw[DO hh hr,zE hh hn]
theorem rN{h:List Nat}(hh:∀r∈h,okR r){r:Nat}:0<(gridOf h).val r↔r∈h:=by
 have Bk:=eT hh (ay 64);rw[zE hh Bk];have key:∀k,0<gv h (k+1) r↔r∈h:=by
  intro k;induction k with
  |zero=>
   show 0<(if r∈h then 0+1 else 0)↔ _
   split<;>simp_all
  |succ k ih=>
   show 0<(if r∈bA h (k+1)then k+1+1 else gv h (k+1) r)↔ _
   split
   ·rename_i q;simp[kL h _ r q]
   ·exact ih
 exact key 63
theorem IY{h:List Nat}(hh:∀r∈h,okR r){r:Nat}(hr:r∉h):(gridOf h).val r=0:=by
 have:¬0<(gridOf h).val r:=fun q=>hr ((rN hh).mp q)
 omega
noncomputable def qQ(l:Cells):List Nat:=l.flatMap fun(c:Cell)=>[raw (2*c.1) (2*c.2),raw (2*c.1+1) (2*c.2),raw (2*c.1) (2*c.2+1),raw (2*c.1+1) (2*c.2+1)]
theorem mS{l:Cells}{r:Nat}:r∈halvesOf l↔r∈qQ l:=by unfold halvesOf;rw[List.mem_mergeSort];rfl
theorem aP{l:Cells}(hb:∀c∈l,c.1<64/\c.2<64):∀r∈halvesOf l,okR r:=by
 intro r hr;rw[mS]at hr;obtain⟨c,hc,h⟩:=bx.mp hr;have b:=hb c hc;simp at h;rcases h with rfl|rfl|rfl|rfl
 ·exact⟨_,_,by omega,by omega,rfl⟩
 ·exact⟨_,_,by omega,by omega,rfl⟩
 ·exact⟨_,_,by omega,by omega,rfl⟩
 ·exact⟨_,_,by omega,by omega,rfl⟩
theorem yC{l:Cells}(hl:l.Nodup)(hb:∀c∈l,c.1<64/\c.2<64):(qQ l).Nodup:=by
 induction l with
 |nil=>simp[qQ]
 |cons c l ih=>
  obtain⟨n1,n2⟩:=de.mp hl;have e:qQ (c::l)=[raw (2*c.1) (2*c.2),raw (2*c.1+1) (2*c.2),raw (2*c.1) (2*c.2+1),raw (2*c.1+1) (2*c.2+1)]++qQ l:=rfl;rw[e,cv];have b:=hb c (by simp);refine⟨?_,ih n2 fun x hx=>hb x (by simp[hx]),?_⟩
  ·simp[raw,W];omega
  ·intro a ha z hz e2;obtain⟨c',we,h⟩:=bx.mp hz;have b':=hb c' (by simp[we]);have:c=c':=by
    subst e2;simp[raw,W]at h ha;apply Prod.ext
    ·omega
    ·omega
   exact n1 (this▸we)
theorem iK{l:Cells}(hl:l.Nodup)(hb:∀c∈l,c.1<64/\c.2<64):(halvesOf l).Pairwise (· < ·):=by
 have h1:(halvesOf l).Pairwise fun a b=>decide (a<=b)=true:=List.pairwise_mergeSort (le:=fun(a b:Nat)=>decide (a<=b)) (by intro a b c h1 h2;simp at*;omega) (by intro a b;simp;omega) _
 have h2:(halvesOf l).Nodup:=(List.mergeSort_perm _ _).nodup_iff.mpr (yC hl hb);have h3:(halvesOf l).Pairwise fun a b=>decide (a<=b)=true/\a≠b:=List.pairwise_and_iff.mpr ⟨h1,h2⟩
 exact h3.imp fun{a b} ⟨q1,q2⟩=>by simp at q1;omega
def CO(a b:Pl):Prop:=a.2<b.2\/(a.2=b.2/\a.1<b.1)
def gC(a b:Pl):Prop:=a.2<b.2\/(a.2=b.2/\a.1<=b.1)
theorem sL{a b:Pl}(h1:gC a b)(h2:gC b a):a=b:=by unfold gC at*;exact Prod.ext (by omega) (by omega)
theorem zD{l:Cells}(hl:l.Nodup)(hb:∀c∈l,c.1<64/\c.2<64):((halvesOf l).map hP).Pairwise gC:=by
 rw[jk];refine(iK hl hb).imp_of_mem fun{a b} ha sv h=>?_
 obtain⟨i,j,hi,hj,rfl⟩:=aP hb a ha;obtain⟨i',j',qh,vz,rfl⟩:=aP hb b sv;rw[dD hi,dD qh];unfold gC;unfold raw W at h;simp;omega
noncomputable def eY(cs:List Pl):List Pl:=cs.flatMap fun c=>[(2*c.1+0,2*c.2+0),(2*c.1+1,2*c.2+0),(2*c.1+0,2*c.2+1),(2*c.1+1,2*c.2+1)]
theorem vA{l:Cells}(hb:∀c∈l,c.1<64/\c.2<64):eY (iW l)=(qQ l).map hP:=by
 induction l with
 |nil=>rfl
 |cons c l ih=>have b:=hb c (by simp);have e:qQ (c::l)=[raw (2*c.1) (2*c.2),raw (2*c.1+1) (2*c.2),raw (2*c.1) (2*c.2+1),raw (2*c.1+1) (2*c.2+1)]++qQ l:=rfl;have e2:eY (iW (c::l))=[(2*(c.1:Int)+0,2*(c.2:Int)+0),(2*(c.1:Int)+1,2*(c.2:Int)+0),(2*(c.1:Int)+0,2*(c.2:Int)+1),(2*(c.1:Int)+1,2*(c.2:Int)+1)]++eY (iW l):=rfl;rw[e,e2,ih fun x hx=>hb x (by simp[hx]),cg];congr 1;simp only[bo,ja];rw[dD (by omega),dD (by omega),dD (by omega),dD (by omega)];simp
theorem uL{l:Cells}(hl:l.Nodup)(hb:∀c∈l,c.1<64/\c.2<64){ys:List Pl}(hp:ys.Perm (eY (iW l)))(hs:ys.Pairwise gC):ys=(halvesOf l).map hP:=by refine List.Perm.eq_of_pairwise (le:=gC) (fun a b _ _=>sL) hs (zD hl hb) (hp.trans ?_);rw[vA hb];exact(List.mergeSort_perm _ _).symm.map hP
def aS(h:List Nat)(p:Pl):Int:=if p∈h.map hP then gG (h.map hP) 64 p else -1
theorem IX{h:List Nat}(hh:∀r∈h,okR r){X Y:Nat}(hX:X<=129):(((X:Int) - 1,(Y:Int) - 1)∈h.map hP)↔W*Y+X∈h:=by
 constructor
 ·intro q;obtain⟨r,hr,e⟩:=au.mp q;obtain⟨i,j,hi,hj,rfl⟩:=hh r hr;rw[dD hi]at e;have a:=congrArg Prod.fst e;have b:=congrArg Prod.snd e;simp at a b;have:W*Y+X=raw i j:=by unfold raw W;omega
  rw[this];exact hr
 ·intro q;refine au.mpr ⟨_,q,?_⟩;obtain⟨i,j,hi,hj,e⟩:=hh _ q;rw[e,dD hi];unfold raw W at e;apply Prod.ext
  ·simp;omega
  ·simp;omega
theorem oU{h:List Nat}(hh:∀r∈h,okR r){X Y:Nat}(hX:X<=129):aS h ((X:Int) - 1,(Y:Int) - 1)=((gridOf h).val (W*Y+X):Int) - 1:=by
 unfold aS;by_cases q:((X:Int) - 1,(Y:Int) - 1)∈h.map hP
 ·rw[ah q];have m:=(IX hh hX).mp q;have o:=hh _ m;have e:hP (W*Y+X)=((X:Int) - 1,(Y:Int) - 1):=by
   obtain⟨i,j,hi,hj,e⟩:=o;rw[e,dD hi];unfold raw W at e;apply Prod.ext
   ·simp;omega
   ·simp;omega
  rw[<- e];exact vZ hh (by rw[dC hh,eT hh (ay 64)];rfl) o
 ·rw[af q,IY hh fun m=>q ((IX hh hX).mpr m)];rfl
theorem w8{h:List Nat}(hh:∀r∈h,okR r){r:Nat}(hr:r∈h):aS h (hP r)=((gridOf h).val r:Int) - 1:=by unfold aS;rw[ah (au.mpr ⟨r,hr,rfl⟩)];exact vZ hh (by rw[dC hh,eT hh (ay 64)];rfl) (hh r hr)
noncomputable def cR(h:List Nat)(p:Pl):List Int:=[aS h (p.1+-1,p.2+-1)+1,aS h (p.1+0,p.2+-1)+1,aS h (p.1+-1,p.2+0)+1,aS h (p.1+0,p.2+0)+1]
theorem CC{h:List Nat}(hh:∀r∈h,okR r){X Y:Nat}(hX:X<=128):cR h ((X:Int),(Y:Int))=
  [((gridOf h).val (W*Y+X):Int),((gridOf h).val (W*Y+X+1):Int),((gridOf h).val (W*(Y+1)+X):Int),((gridOf h).val (W*(Y+1)+X+1):Int)]:=by
 have a:=oU hh (X:=X) (Y:=Y) (by omega);have b:=oU hh (X:=X+1) (Y:=Y) (by omega);have c:=oU hh (X:=X) (Y:=Y+1) (by omega);have d:=oU hh (X:=X+1) (Y:=Y+1) (by omega);have e1:(((X+1:Nat):Int) - 1)=(X:Int)+0:=by omega
 have e2:(((Y+1:Nat):Int) - 1)=(Y:Int)+0:=by omega
 rw[e1]at b d;rw[e2]at c d;have s1:(X:Int)+-1=(X:Int) - 1:=rfl;have s2:(Y:Int)+-1=(Y:Int) - 1:=rfl;unfold cR;simp only[s1,s2];rw[a,b,c,d];simp[Nat.add_assoc]
theorem BA{a b c d:Nat}{m:Int}(hm:m∈[(a:Int),(b:Int),(c:Int),(d:Int)])(qm:∀x∈[(a:Int),(b:Int),(c:Int),(d:Int)],m<=x):m=((min (min a b) (min c d):Nat):Int):=by have h1:=qm a (by simp);have h2:=qm b (by simp);have h3:=qm c (by simp);have h4:=qm d (by simp);simp at hm;omega
theorem F8{h:List Nat}(hh:∀r∈h,okR r){X Y:Nat}(hX:X<=128){m:Int}(hm:m∈cR h ((X:Int),(Y:Int)))(qm:∀x∈cR h ((X:Int),(Y:Int)),m<=x):m=(heightAt (gridOf h) X Y:Int):=by rw[CC hh hX]at hm qm;exact BA hm qm
abbrev T3:=Int×Int×Int
def tP(t:Nat):T3:=((iOf (t/4):Int),(jOf (t/4):Int),((t%4:Nat):Int))
theorem cV{h:List Nat}{t:Nat}:t∈trianglesOf h↔t/4∈h:=by
 unfold trianglesOf;rw[bx];constructor
 ·rintro⟨r,hr,q⟩;simp at q;have:t/4=r:=by omega
  rw[this];exact hr
 ·intro q;refine⟨_,q,?_⟩;simp;omega
theorem M4{h:List Nat}(hh:∀r∈h,okR r){t u:Nat}(ht:t∈trianglesOf h)(hu:u∈trianglesOf h)(e:tP t=tP u):t=u:=by have a1:=congrArg (fun z=>z.1) e;have a2:=congrArg (fun z=>z.2.1) e;have a3:=congrArg (fun z=>z.2.2) e;simp[tP]at a1 a2 a3;have:t/4=u/4:=tO (hh _ (cV.mp ht)) (hh _ (cV.mp hu)) (by unfold hP;rw[show iOf (t/4)=iOf (u/4) by omega,show jOf (t/4)=jOf (u/4) by omega]);omega
noncomputable def aC(p:Pl)(c:Nat):Pl:=if c%4=0 then(p.1+0,p.2+0)else if c%4=1 then(p.1+1,p.2+0)else if c%4=2 then(p.1+1,p.2+1)else(p.1+0,p.2+1)
theorem fL(r c:Nat):aC (hP r) c=iP (cornerOf r c):=by
 unfold aC cornerOf hP iP;dsimp only;by_cases h0:c%4=0
 ·simp[h0]
 ·by_cases h1:c%4=1
  ·simp[h0,h1]
  ·by_cases h2:c%4=2
   ·simp[h0,h1,h2]
   ·simp[h0,h1,h2]
theorem FV{r c:Nat}(hr:okR r):(cornerOf r c).1<=128/\(cornerOf r c).2<=128:=by
 obtain⟨i,j,hi,hj,rfl⟩:=hr;unfold cornerOf;rw[DG hi,DA hi];dsimp only;split
 ·simp;omega
 ·split
  ·simp;omega
  ·split
   ·simp;omega
   ·simp;omega
noncomputable def zP(s:Nat)(u v k:Int):Int:=if u=k/\v=k then s else if v=k then((s:Int)+1)%4 else if u=k then((s:Int)+3)%4 else((s:Int)+2)%4
theorem L4{g:Grid}{t:Nat}(hv:0<g.val (t/4)):zP (t%4) (heightOf g (t/4) (t%4):Int) (heightOf g (t/4) (t%4+1):Int) ((g.val (t/4):Int) - 1)=(facingOf g t:Int):=by
 unfold zP facingOf;dsimp only;generalize heightOf g (t/4) (t%4)=u;generalize heightOf g (t/4) (t%4+1)=v;generalize hk:g.val (t/4)=k at*;have ek:(k:Int) - 1=((k - 1:Nat):Int):=by omega
 rw[ek];generalize k - 1=m;have c1:((u:Int)=(m:Int))↔u=m:=by omega
 have c2:((v:Int)=(m:Int))↔v=m:=by omega
 simp only[c1,c2];by_cases h1:u=m<;>by_cases h2:v=m<;>simp[h1,h2]<;>omega
theorem FL(g:Grid)(t:Nat):facingOf g t<4:=by
 unfold facingOf;dsimp only;split
 ·omega
 ·split
  ·omega
  ·split<;>omega
theorem vW{f:Nat->Nat}:∀(l:List Nat)(a:Array Nat),(l.foldl (fun(a:Array Nat)(t:Nat)=>a.setIfInBounds t (f t)) a).size=a.size
 |[],a=>rfl
 |t::l,a=>by rw[List.foldl_cons,vW l];simp
theorem tV{f:Nat->Nat}:∀(l:List Nat)(a:Array Nat)(t d:Nat),(∀x∈l,x<a.size)->(l.foldl (fun(a:Array Nat)(t:Nat)=>a.setIfInBounds t (f t)) a).getD t d=if t∈l then f t else a.getD t d
 |[],a,t,d,_=>by simp
 |x::l,a,t,d,h=>by
  rw[List.foldl_cons,tV l _ t d fun y hy=>by simpa using h y (by simp[hy])];have hx:=h x (by simp);by_cases h1:t∈l
  ·simp[h1]
  ·rw[af h1];by_cases h2:t=x
   ·subst h2;simp[dh,hx]
   ·have h3:¬t∈x::l:=by simp[h1,h2]
    rw[af h3];simp only[dh,jm];rw[af (fun e=>h2 e.symm)]
theorem AJ{h:List Nat}(hh:∀r∈h,okR r){t:Nat}(ht:t∈trianglesOf h):t<4*W*W:=by obtain⟨i,j,hi,hj,e⟩:=hh _ (cV.mp ht);unfold raw W at e;unfold W;omega
noncomputable def oO(h:List Nat):Array Nat:=(trianglesOf h).foldl (fun(a:Array Nat)(t:Nat)=>a.setIfInBounds t (facingOf (gridOf h) t)) (Array.replicate (4*W*W) 4)
noncomputable def yX(h:List Nat):Array Nat:=(trianglesOf h).foldl (fun(a:Array Nat)(t:Nat)=>a.setIfInBounds t NONE) (Array.replicate (4*W*W) 0)
theorem vY{h:List Nat}(hh:∀r∈h,okR r)(t:Nat):(oO h).getD t 4=if t∈trianglesOf h then facingOf (gridOf h) t else 4:=by
 unfold oO;rw[tV _ _ _ _ fun x hx=>by simpa using AJ hh hx];have:(Array.replicate (4*W*W) 4).getD t 4=4:=by rw[dh,Array.getElem?_replicate];split<;>rfl
 rw[this]
theorem yW{h:List Nat}(hh:∀r∈h,okR r)(t:Nat):(yX h).getD t 0=if t∈trianglesOf h then NONE else 0:=by
 unfold yX;rw[tV (f:=fun _=>NONE) _ _ _ _ fun x hx=>by simpa using AJ hh hx];have:(Array.replicate (4*W*W) 0).getD t 0=0:=by rw[dh,Array.getElem?_replicate];split<;>rfl
 rw[this]
theorem F3(h:List Nat):(yX h).size=4*W*W:=by unfold yX;rw[vW (f:=fun _=>NONE)];simp
section
variable {α:Type}
inductive Rch (ok:α->Prop) (nb:α->List α) (U:α->Prop) (t0:α):α->Prop where
 |refl:Rch ok nb U t0 t0
 |step {x u:α}:Rch ok nb U t0 x->u∈nb x->ok u->¬U u->Rch ok nb U t0 u
structure gI(ok:α->Prop)(nb:α->List α)(U:α->Prop)(t0:α)(N W:List α):Prop where
 new:∀x∈N,Rch ok nb U t0 x
 wait:∀x∈W,ok x->¬U x->Rch ok nb U t0 x
 start:t0∈N\/t0∈W
 pH:∀x∈N,∀u∈nb x,ok u->¬U u->u∈N\/u∈W
variable {ok:α->Prop}{nb:α->List α}{U:α->Prop}{t0:α}
theorem gI.first:gI ok nb U t0 [] [t0]:=⟨by simp,by intro x hx _ _;simp at hx;subst hx;exact .refl,.inr (by simp),by simp⟩
theorem gI.skip{N W W':List α}{x:α}(h:gI ok nb U t0 N W)(o0:ok t0)(u0:¬U t0)(h1:∀y∈W',y∈W)(h2:∀y∈W,y∈W'\/y=x)(hx:¬ok x\/U x\/x∈N):gI ok nb U t0 N W':=by
 have drop:∀y,ok y->¬U y->(y∈N\/y∈W)->y∈N\/y∈W':=by
  intro y oy uy hy;rcases hy with hy|hy
  ·exact .inl hy
  ·rcases h2 y hy with hy|rfl
   ·exact .inr hy
   ·rcases hx with hx|hx|hx
    ·exact absurd oy hx
    ·exact absurd hx uy
    ·exact .inl hx
 exact⟨h.new,fun y hy=>h.wait y (h1 y hy),drop t0 o0 u0 h.start,fun y hy u hu ou uu=>drop u ou uu (h.pH y hy u hu ou uu)⟩
theorem gI.take{N W W':List α}{x:α}(h:gI ok nb U t0 N W)(hx:x∈W)(ox:ok x)(ux:¬U x)(h1:∀y∈W',y∈W\/y∈nb x)(h2:∀y∈W,y∈W'\/y=x)(h3:∀u∈nb x,ok u->¬U u->u∈W'):gI ok nb U t0 (x::N) W':=by
 have rx:=h.wait x hx ox ux;have Cb:∀y,(y∈N\/y∈W)->y∈x::N\/y∈W':=by
  intro y hy;rcases hy with hy|hy
  ·exact .inl (by simp[hy])
  ·rcases h2 y hy with hy|rfl
   ·exact .inr hy
   ·exact .inl (by simp)
 refine⟨?_,?_,Cb t0 h.start,?_⟩
 ·intro y hy;rcases ar.mp hy with rfl|hy
  ·exact rx
  ·exact h.new y hy
 ·intro y hy oy uy;rcases h1 y hy with q|q
  ·exact h.wait y q oy uy
  ·exact .step rx q oy uy
 ·intro y hy u hu ou uu;rcases ar.mp hy with rfl|hy
  ·exact .inr (h3 u hu ou uu)
  ·exact Cb u (h.pH y hy u hu ou uu)
theorem gI.done{N:List α}(h:gI ok nb U t0 N [])(x:α):x∈N↔Rch ok nb U t0 x:=by
 constructor
 ·exact h.new x
 ·intro r;induction r with
  |refl=>
       rcases h.start with q|q
       ·exact q
       ·simp at q
  |step _ hu ou uu ih=>
              rcases h.pH _ ih _ hu ou uu with q|q
              ·exact q
              ·simp at q
theorem Rch.ok'{x:α}(h:Rch ok nb U t0 x)(o0:ok t0)(u0:¬U t0):ok x/\¬U x:=by
 cases h with
 |refl=>exact⟨o0,u0⟩
 |step _ _ ou uu=>exact⟨ou,uu⟩
end
def okN(fac:Array Nat)(t0:Nat)(u:Nat):Prop:=fac.getD u 4=fac.getD t0 4
def isU(ki:Array Nat)(u:Nat):Prop:=ki.getD u 0≠NONE
theorem kW{fac labU:Array Nat}{n t0:Nat}{ts:List Nat}(hn:n≠NONE)(zp:∀u,¬isU labU u->u∈ts)(hsz:∀u∈ts,u<labU.size)(o0:¬isU labU t0):
  ∀(f:Nat)(stack N:List Nat)(ki:Array Nat),ki.size=labU.size->(∀t,ki.getD t 0=if t∈N then n else labU.getD t 0)->gI (okN fac t0) besideOf (isU labU) t0 N stack->N.Nodup->(∀x∈N,x∈ts/\¬isU labU x)->(∀x∈stack,okN fac t0 x) ->
   stack.length+3*(ts.length - N.length)<=f->∃N':List Nat,(∀t,(fill fac n f stack ki).getD t 0=if t∈N' then n else labU.getD t 0)/\(fill fac n f stack ki).size=labU.size/\∀x,x∈N'↔Rch (okN fac t0) besideOf (isU labU) t0 x
 |0,stack,N,ki,hs,hl,S,nd,hN,ho,hf=>by have:stack=[]:=List.length_eq_zero_iff.mp (by omega);subst this;exact⟨N,hl,hs,S.done⟩
 |f+1,[],N,ki,hs,hl,S,nd,hN,ho,hf=>⟨N,hl,hs,S.done⟩
 |f+1,t::r,N,ki,hs,hl,S,nd,hN,ho,hf=>by
  have eF:fill fac n (f+1) (t::r) ki=if ki.getD t 0≠NONE then fill fac n f r ki else fill fac n f (((besideOf t).filter fun(u:Nat)=>fac.getD u 4==fac.getD t 4)++r) (ki.setIfInBounds t n):=rfl
  rw[eF];by_cases hc:ki.getD t 0≠NONE
  ·rw[ah hc];refine kW hn zp hsz o0 f r N ki hs hl (S.skip (x:=t) rfl o0 (fun y hy=>by simp[hy]) (fun y hy=>by simp at hy;exact hy.symm) ?_) nd hN (fun x hx=>ho x (by simp[hx])) (by simp at hf;omega);rw[hl t]at hc;by_cases hm:t∈N
   ·exact .inr (.inr hm)
   ·rw[af hm]at hc;exact .inr (.inl hc)
  ·rw[af hc];have hc:ki.getD t 0=NONE:=Classical.byContradiction hc;have htN:t∉N:=by intro q;rw[hl t,ah q]at hc;exact hn hc
   have hU:¬isU labU t:=by rw[hl t,af htN]at hc;exact fun q=>q hc
   have htt:t∈ts:=zp t hU;have kh:t<ki.size:=by rw[hs];exact hsz t htt
   have Av:=ho t (by simp);have nd':(t::N).Nodup:=de.mpr ⟨htN,nd⟩;have Dv:∀x∈t::N,x∈ts/\¬isU labU x:=by
    intro x hx;rcases ar.mp hx with rfl|hx
    ·exact⟨htt,hU⟩
    ·exact hN x hx
   have len:=cO nd' fun x hx=>(Dv x hx).1
   refine kW hn zp hsz o0 f _ (t::N) (ki.setIfInBounds t n) (by simpa using hs) (fun u=>?_) (S.take (x:=t) (by simp) Av hU ?_ ?_ ?_) nd' Dv ?_ ?_
   ·by_cases hu:u=t
    ·subst hu;simp[dh,kh]
    ·have e:(ki.setIfInBounds t n).getD u 0=ki.getD u 0:=by simp only[dh,jm];rw[af (fun e=>hu e.symm)]
     rw[e,hl u];simp[hu]
   ·intro y hy;rcases aw.mp hy with hy|hy
    ·exact .inr (cf.mp hy).1
    ·exact .inl (by simp[hy])
   ·intro y hy;simp at hy;rcases hy with rfl|hy
    ·exact .inr rfl
    ·exact .inl (by simp[hy])
   ·intro u hu ou uu;refine cc _ (cf.mpr ⟨hu,?_⟩);have:fac.getD u 4=fac.getD t 4:=by have h1:fac.getD u 4=fac.getD t0 4:=ou;have h2:fac.getD t 4=fac.getD t0 4:=Av;rw[h1,h2]
    simp[this]
   ·intro x hx;rcases aw.mp hx with hx|hx
    ·have q:=(cf.mp hx).2;have q:fac.getD x 4=fac.getD t 4:=by simpa using q
     have h2:fac.getD t 4=fac.getD t0 4:=Av;show fac.getD x 4=_
     rw[q,h2]
    ·exact ho x (by simp[hx])
   ·have:((besideOf t).filter fun(u:Nat)=>fac.getD u 4==fac.getD t 4).length<=3:=by refine df (gx _ _) ?_;simp[besideOf]
    simp only[aj,bq]at hf len ⊢;omega
theorem FI{fac labU:Array Nat}{n t0:Nat}{ts:List Nat}(hn:n≠NONE)(zp:∀u,¬isU labU u->u∈ts)(hsz:∀u∈ts,u<labU.size)(o0:¬isU labU t0):
  ∃N':List Nat,(∀t,(fill fac n (4*ts.length+4) [t0] labU).getD t 0=if t∈N' then n else labU.getD t 0)/\(fill fac n (4*ts.length+4) [t0] labU).size=labU.size/\∀x,x∈N'↔Rch (okN fac t0) besideOf (isU labU) t0 x:=
 kW hn zp hsz o0 _ [t0] [] labU rfl (fun t=>by simp) gI.first (by simp) (by simp) (by intro x hx;simp at hx;subst hx;rfl) (by simp;omega)
noncomputable def nbP(p:T3):List T3:=[(p.1,p.2.1,(p.2.2+1)%4),(p.1,p.2.1,(p.2.2+3)%4),((aK (p.1,p.2.1) p.2.2.toNat).1,(aK (p.1,p.2.1) p.2.2.toNat).2,(p.2.2+2)%4)]
theorem oY{h:List Nat}(hh:∀r∈h,okR r){r q s:Nat}(hr:okR r)(hq:okR q)(hs:s<4):hP q=aK (hP r) s↔q=beyond r s:=by
 obtain⟨i,j,hi,hj,rfl⟩:=hr;obtain⟨i',j',qh,vz,rfl⟩:=hq;rw[dD hi,dD qh];have cs:s=0\/s=1\/s=2\/s=3:=by omega
 rcases cs with rfl|rfl|rfl|rfl<;>simp[aK,beyond,raw,W,Prod.ext_iff]<;>omega
theorem S8{h:List Nat}(hh:∀r∈h,okR r){t u:Nat}(ht:t∈trianglesOf h)(hu:u∈trianglesOf h):tP u∈nbP (tP t)↔u∈besideOf t:=by
 have Av:=hh _ (cV.mp ht);have oku:=hh _ (cV.mp hu);have hs:t%4<4:=by omega
 have B:=oY hh Av oku hs;have own:∀k:Nat,k<4->(tP u=((tP t).1,(tP t).2.1,(k:Int))↔u=4*(t/4)+k):=by
  intro k hk;constructor
  ·intro e;have a1:=congrArg (fun z=>z.1) e;have a2:=congrArg (fun z=>z.2.1) e;have a3:=congrArg (fun z=>z.2.2) e;simp[tP]at a1 a2 a3;have:u/4=t/4:=tO oku Av (by unfold hP;rw[show iOf (u/4)=iOf (t/4) by omega,show jOf (u/4)=jOf (t/4) by omega]);omega
  ·intro e;have e1:u/4=t/4:=by omega
   have e2:u%4=k:=by omega
   unfold tP;rw[e1,e2]
 have e1:((tP t).2.2+1)%4=(((t%4+1)%4:Nat):Int):=by simp[tP]
 have e3:((tP t).2.2+3)%4=(((t%4+3)%4:Nat):Int):=by simp[tP]
 have e2:((tP t).2.2+2)%4=(((t%4+2)%4:Nat):Int):=by simp[tP]
 have es:(tP t).2.2.toNat=t%4:=by simp only[tP];omega
 have eh:((tP t).1,(tP t).2.1)=hP (t/4):=rfl;unfold nbP besideOf;dsimp only;rw[e1,e3,e2,es,eh];simp only[ar,gg,or_false];rw[own _ (by omega),own _ (by omega)];have across:tP u=((aK (hP (t/4)) (t%4)).1,(aK (hP (t/4)) (t%4)).2,(((t%4+2)%4:Nat):Int))↔u=4*beyond (t/4) (t%4)+(t%4+2)%4:=by
  constructor
  ·intro e;have a1:=congrArg (fun z=>(z.1,z.2.1)) e;have a3:=congrArg (fun z=>z.2.2) e;have:hP (u/4)=aK (hP (t/4)) (t%4):=a1;have q:=B.mp this;simp[tP]at a3;omega
  ·intro e;have q:u/4=beyond (t/4) (t%4):=by omega
   have r:=B.mpr q;have:u%4=(t%4+2)%4:=by omega
   unfold tP;rw[this];have a:=congrArg Prod.fst r;have b:=congrArg Prod.snd r;unfold hP at a b;rw[show(iOf (u/4):Int)=_ from a,show(jOf (u/4):Int)=_ from b];rfl
 rw[across]
structure lE(h:List Nat)(kl:T3->Option Int)(ki:Array Nat):Prop where
 ins:∀t∈trianglesOf h,kl (tP t)=if ki.getD t 0=NONE then none else some (ki.getD t 0:Int)
 out:∀p,p∉ (trianglesOf h).map tP->kl p=none
 lo:∀t,t∉trianglesOf h->ki.getD t 0≠NONE
 size:ki.size=4*W*W
def okT(fac:T3->Option Int)(p0 p:T3):Prop:=fac p=fac p0
def isN(kl:T3->Option Int)(p:T3):Prop:=(kl p).isSome=true
theorem GW{h:List Nat}(hh:∀r∈h,okR r){fac:Array Nat}{ko kl:T3->Option Int}{ki:Array Nat}(hf:∀t∈trianglesOf h,ko (tP t)=some (fac.getD t 4:Int))(Ah:∀p,p∉ (trianglesOf h).map tP->ko p=none)
  (R:lE h kl ki) {t0:Nat} (h0:t0∈trianglesOf h):(∀t∈trianglesOf h,Rch (okT ko (tP t0)) nbP (isN kl) (tP t0) (tP t)↔Rch (okN fac t0) besideOf (isU ki) t0 t)/\∀p,Rch (okT ko (tP t0)) nbP (isN kl) (tP t0) p->p∈(trianglesOf h).map tP:=by
 have key:∀p,Rch (okT ko (tP t0)) nbP (isN kl) (tP t0) p->∃t∈trianglesOf h,p=tP t/\Rch (okN fac t0) besideOf (isU ki) t0 t:=by
  intro p r;induction r with
  |refl=>exact⟨t0,h0,rfl,.refl⟩
  | @step x u _ hu ou uu ih=>
   obtain⟨t,ht,rfl,rt⟩:=ih;have hm:u∈(trianglesOf h).map tP:=by apply Classical.byContradiction;intro q;have h1:=Ah u q;have h2:ko u=ko (tP t0):=ou;rw[h1,hf t0 h0]at h2;cases h2
   obtain⟨v,hv,rfl⟩:=au.mp hm;refine⟨v,hv,rfl,.step rt ((S8 hh ht hv).mp hu) ?_ ?_⟩
   ·have h2:ko (tP v)=ko (tP t0):=ou;rw[hf v hv,hf t0 h0]at h2;have:=Option.some.inj h2;show fac.getD v 4=fac.getD t0 4
    omega
   ·intro q;refine uu ?_;show(kl (tP v)).isSome=true
    rw[R.ins v hv,af q];rfl
 refine⟨fun t ht=>⟨fun r=>?_,fun r=>?_⟩,fun p r=>?_⟩
 ·obtain⟨v,hv,e,rv⟩:=key _ r;rw[M4 hh ht hv e];exact rv
 ·have mem:∀x,Rch (okN fac t0) besideOf (isU ki) t0 x->x∈trianglesOf h/\Rch (okT ko (tP t0)) nbP (isN kl) (tP t0) (tP x):=by
   intro x r;induction r with
   |refl=>exact⟨h0,.refl⟩
   | @step x u _ hu ou uu ih=>
    obtain⟨hx,rx⟩:=ih;have qx:u∈trianglesOf h:=by apply Classical.byContradiction;intro q;exact uu (R.lo u q)
    refine⟨qx,.step rx ((S8 hh hx qx).mpr hu) ?_ ?_⟩
    ·show ko (tP u)=ko (tP t0)
     rw[hf u qx,hf t0 h0];have:fac.getD u 4=fac.getD t0 4:=ou;rw[this]
    ·intro q;have q:(kl (tP u)).isSome=true:=q;rw[R.ins u qx]at q;by_cases e:ki.getD u 0=NONE
     ·rw[ah e]at q;cases q
     ·exact uu e
  exact(mem t r).2
 ·obtain⟨v,hv,e,_⟩:=key _ r;rw[e];exact au.mpr ⟨v,hv,rfl⟩
theorem lE.face{h:List Nat}(hh:∀r∈h,okR r){fac:Array Nat}{ko kl Bx:T3->Option Int}{ki:Array Nat}(hf:∀t∈trianglesOf h,ko (tP t)=some (fac.getD t 4:Int))(Ah:∀p,p∉ (trianglesOf h).map tP->ko p=none)
  (R:lE h kl ki) {t0 n:Nat} (h0:t0∈trianglesOf h) (hn:n<NONE) (hl:ki.getD t0 0=NONE) {N:List T3} (hN:∀p,p∈N↔Rch (okT ko (tP t0)) nbP (isN kl) (tP t0) p) (Cv:∀p,Bx p=if p∈N then some (n:Int)else kl p):
  lE h Bx (fill fac n (4*(trianglesOf h).length+4) [t0] ki):=by
 obtain⟨S1,S2⟩:=GW hh hf Ah R h0;have zp:∀u,¬isU ki u->u∈trianglesOf h:=fun u q=>Classical.byContradiction fun z=>q (R.lo u z)
 obtain⟨N',f1,f2,f3⟩:=FI (fac:=fac) (labU:=ki) (n:=n) (t0:=t0) (ts:=trianglesOf h) (by omega) zp (fun u hu=>by rw[R.size];exact AJ hh hu) (fun q=>q hl);refine⟨fun t ht=>?_,fun p hp=>?_,fun t ht=>?_,by rw[f2,R.size]⟩
 ·have e:tP t∈N↔t∈N':=by rw[hN,f3,S1 t ht]
  rw[Cv,f1];by_cases q:t∈N'
  ·rw[ah (e.mpr q),ah q,af (by omega)]
  ·rw[af (fun z=>q (e.mp z)),af q];exact R.ins t ht
 ·rw[Cv,af (fun z=>hp (S2 p ((hN p).mp z)))];exact R.out p hp
 ·rw[f1];split
  ·omega
  ·exact R.lo t ht
theorem lE.start{h:List Nat}(hh:∀r∈h,okR r):lE h (fun _=>none) (yX h):=by
 refine⟨fun t ht=>?_,fun _ _=>rfl,fun t ht=>?_,F3 h⟩
 ·rw[yW hh,ah ht,ah rfl]
 ·rw[yW hh,af ht];decide
section
variable {κ β:Type} [DecidableEq κ]
noncomputable def aN(l:List (κ×β))(k:κ):Option β:=(l.find? fun x=>decide (x.1=k)).map (·.2)
noncomputable def dO(l:List (κ×β))(k:κ)(v:β):List (κ×β):=
 if(l.any fun x=>decide (x.1=k))=true then l.map (fun x=>if x.1=k then(x.1,v)else x)else l++[(k,v)]
theorem j6{k:κ}:aN ([]:List (κ×β)) k=none:=rfl
theorem cM{x:κ×β}{r:List (κ×β)}{k:κ}:aN (x::r) k=if x.1=k then some x.2 else aN r k:=by
 unfold aN;by_cases e:x.1=k
 ·simp[e]
 ·simp[e]
theorem aW(k:κ):∀l:List (κ×β),(aN l k).isSome=true↔k∈l.map (·.1)
 |[]=>by simp[j6]
 |x::r=>by
  rw[cM,bo,ar];by_cases e:x.1=k
  ·rw[ah e];simp[e]
  ·rw[af e,aW k r];constructor
   ·exact .inr
   ·rintro(h|h)
    ·exact absurd h.symm e
    ·exact h
theorem m5{l:List (κ×β)}{k:κ}:aN l k=none↔k∉l.map (·.1):=by rw[<- aW];cases aN l k<;>simp
theorem rP{l:List (κ×β)}{k:κ}:(l.any fun x=>decide (x.1=k))=true↔k∈l.map (·.1):=by simp[fo]
theorem fY{l:List (κ×β)}{k:κ}(v:β)(h:k∉l.map (·.1)):dO l k v=l++[(k,v)]:=by unfold dO;rw[af (fun z=>h (rP.mp z))]
theorem uR{l:List (κ×β)}{k:κ}(v:β)(h:k∈l.map (·.1)):(dO l k v).map (·.1)=l.map (·.1):=by unfold dO;rw[ah (rP.mpr h),fu];apply fh;intro x _;simp only[Function.comp];split<;>rfl
theorem wI{l:List (κ×β)}{k:κ}(v:β):(dO l k v).map (·.1)=if k∈l.map (·.1)then l.map (·.1)else l.map (·.1)++[k]:=by
 by_cases h:k∈l.map (·.1)
 ·rw[ah h,uR v h]
 ·rw[af h,fY v h];simp
theorem u9{l:List (κ×β)}{k:κ}{v:β}(h:(l.map (·.1)).Nodup):((dO l k v).map (·.1)).Nodup:=by
 rw[wI];split
 ·exact h
 ·rename_i hk;rw[cv];exact⟨h,by simp,fun a ha b hb e=>hk (by simp at hb;rw[<- hb,<- e];exact ha)⟩
theorem A3(k j:κ)(y:β):∀l:List (κ×β),aN (l.map fun x=>if x.1=k then(x.1,y)else x) j=if j=k then(aN l j).map (fun _=>y)else aN l j
 |[]=>by simp[j6]
 |x::r=>by
  rw[bo,cM,cM,A3 k j y r];by_cases e:x.1=k
  ·rw[ah e];by_cases e2:x.1=j
   ·rw[ah e2,ah e2,ah (e2▸e:j=k)];rfl
   ·rw[af e2,af e2]
  ·rw[af e];by_cases e2:x.1=j
   ·rw[ah e2,af (show¬j=k by intro z;exact e (e2.trans z)),ah e2]
   ·rw[af e2,af e2]
theorem wJ(k j:κ)(y:β):∀l:List (κ×β),k∉l.map (·.1)->aN (l++[(k,y)]) j=if j=k then some y else aN l j
 |[],_=>by
  rw[nil_append,cM];by_cases e:j=k
  ·rw[ah e,ah e.symm]
  ·rw[af e,af (Ne.symm e)]
 |x::r,h=>by
  rw[jr,cM,cM,wJ k j y r (fun z=>h (by rw[bo];exact aq _ z))];by_cases e2:x.1=j
  ·rw[ah e2,ah e2,af];intro z;exact h (by rw[bo,ar];exact .inl (by rw[e2,z]))
  ·rw[af e2,af e2]
theorem gX(l:List (κ×β))(k j:κ)(y:β):aN (dO l k y) j=if j=k then some y else aN l j:=by
 by_cases h:k∈l.map (·.1)
 ·unfold dO;rw[ah (rP.mpr h),A3];by_cases e:j=k
  ·subst e;rw[ah rfl,ah rfl];have:=(aW j l).mpr h;cases q:aN l j with
   |none=>rw[q]at this;cases this
   |some z=>rfl
  ·rw[af e,af e]
 ·rw[fY y h,wJ k j y l h]
noncomputable def cS(l:List (κ×β))(ps:List (κ×β)):List (κ×β):=ps.foldl (fun a p=>dO a p.1 p.2) l
theorem rE:∀(ps l:List (κ×β)),(l.map (·.1)).Nodup->((cS l ps).map (·.1)).Nodup
 |[],_,h=>h
 |p::r,l,h=>rE r (dO l p.1 p.2) (u9 h)
theorem xQ(l a b:List (κ×β)):cS l (a++b)=cS (cS l a) b:=by simp[cS]
theorem lB(l:List (κ×β))(k:κ)(v:β):(dO l k v).length<=l.length+1:=by unfold dO;split<;>simp
theorem gH:∀(ps l:List (κ×β)),(cS l ps).length<=l.length+ps.length
 |[],l=>by simp[cS]
 |p::r,l=>by
  have h1:=gH r (dO l p.1 p.2);have h2:=lB l p.1 p.2;show(cS (dO l p.1 p.2) r).length<=_
  simp only[bq];omega
theorem wK:∀(ps l:List (κ×β)),(∀p∈ps,∀q∈ps,p.1=q.1->p.2=q.2)->(∀p∈ps,∀v,aN l p.1=some v->v=p.2)->∀k v,aN (cS l ps) k=some v↔aN l k=some v\/(k,v)∈ps
 |[],l,_,_=>by intro k v;simp[cS]
 |p::r,l,h,h2=>by
  intro k v;have hp:∀q∈r,∀v,aN (dO l p.1 p.2) q.1=some v->v=q.2:=by
   intro q hq v e;rw[gX]at e;by_cases z:q.1=p.1
   ·rw[ah z]at e;cases e;exact h p (by simp) q (by simp[hq]) z.symm
   ·rw[af z]at e;exact h2 q (by simp[hq]) v e
  show aN (cS (dO l p.1 p.2) r) k=some v↔ _
  rw[wK r _ (fun a ha b hb=>h a (by simp[ha]) b (by simp[hb])) hp k v,gX];by_cases z:k=p.1
  ·rw[ah z];constructor
   ·rintro(e|e)
    ·cases e;exact .inr (by rw[z];simp)
    ·exact .inr (by simp[e])
   ·rintro(e|e)
    ·have:=h2 p (by simp) v (z▸e);exact .inl (by rw[this])
    ·rcases ar.mp e with e|e
     ·rw[<- e];exact .inl rfl
     ·exact .inr e
  ·rw[af z];constructor
   ·rintro(e|e)
    ·exact .inl e
    ·exact .inr (by simp[e])
   ·rintro(e|e)
    ·exact .inl e
    ·rcases ar.mp e with e|e
     ·exact absurd (show k=p.1 by rw[<- e]) z
     ·exact .inr e
end
def hdg(d:Nat):Int:=((d:Int)+1)%4
noncomputable def eX(cs:List Pl)(c:Pl):List (Pl×Int):=([0,1,2,3].filter fun(s:Nat)=>!decide (aK c s∈cs)).map fun s=>(aC c s,hdg s)
def fV(cs:List Pl):List (Pl×Int):=cs.flatMap (eX cs)
def cT(cs:List Pl):List (Pl×Int):=cS [] (fV cs)
theorem uK{l:Cells}{p:Pl}{h:Int}:(p,h)∈fV (iW l)↔∃d,d<4/\aZ l p.1 p.2 d=true/\h=hdg d:=by
 unfold fV eX;rw[bx];constructor
 ·rintro⟨c,hc,hm⟩;obtain⟨s,hs,e⟩:=au.mp hm;rw[cf]at hs;obtain⟨hs,hn⟩:=hs;obtain⟨x,y⟩:=c;have we:inI l x y=true:=mO.mp hc;have cs:s=0\/s=1\/s=2\/s=3:=by simpa using hs
  have sh:inI l (aK (x,y) s).1 (aK (x,y) s).2=false:=by rw[<- jU];simpa using hn
  cases e;refine⟨s,by omega,?_,rfl⟩;rcases cs with rfl|rfl|rfl|rfl
  ·simp[aZ,aC,ne,se,aK]at sh ⊢;exact⟨we,sh⟩
  ·simp[aZ,aC,ne,nw,aK]at sh ⊢;exact⟨we,sh⟩
  ·simp[aZ,aC,sw,nw,aK]at sh ⊢;exact⟨we,sh⟩
  ·simp[aZ,aC,se,sw,aK]at sh ⊢;exact⟨we,sh⟩
 ·rintro⟨d,hd,w,rfl⟩;obtain⟨X,Y⟩:=p;have cd:d=0\/d=1\/d=2\/d=3:=by omega
  rcases cd with rfl|rfl|rfl|rfl
  ·simp[aZ,ne,se]at w;refine⟨(X,Y),mO.mpr w.1,au.mpr ⟨0,?_,by simp[aC]⟩⟩;rw[cf];refine⟨by simp,?_⟩;show(!decide (((X,Y - 1):Pl)∈iW l))=true
   rw[jU,w.2];rfl
  ·simp[aZ,nw,ne]at w;refine⟨(X - 1,Y),mO.mpr w.1,au.mpr ⟨1,?_,?_⟩⟩
   ·rw[cf];refine⟨by simp,?_⟩;show(!decide (((X - 1+1,Y):Pl)∈iW l))=true
    rw[jU,show X - 1+1=X by omega,w.2];rfl
   ·simp[aC]
  ·simp[aZ,sw,nw]at w;refine⟨(X - 1,Y - 1),mO.mpr w.1,au.mpr ⟨2,?_,?_⟩⟩
   ·rw[cf];refine⟨by simp,?_⟩;show(!decide (((X - 1,Y - 1+1):Pl)∈iW l))=true
    rw[jU,show Y - 1+1=Y by omega,w.2];rfl
   ·simp[aC]
  ·simp[aZ,se,sw]at w;refine⟨(X,Y - 1),mO.mpr w.1,au.mpr ⟨3,?_,?_⟩⟩
   ·rw[cf];refine⟨by simp,?_⟩;show(!decide (((X - 1,Y - 1):Pl)∈iW l))=true
    rw[jU,w.2];rfl
   ·simp[aC]
theorem KQ{d e:Nat}(hd:d<4)(he:e<4)(h:hdg d=hdg e):d=e:=by unfold hdg at h;omega
theorem G9{l:Cells}{X Y:Int}{d:Nat}(hd:d<4)(h:aZ l X Y d=true):0<=X/\0<=Y:=by
 have cd:d=0\/d=1\/d=2\/d=3:=by omega
 rcases cd with rfl|rfl|rfl|rfl
 ·simp[aZ,ne]at h;have:=bT h.1;omega
 ·simp[aZ,nw]at h;have:=bT h.1;omega
 ·simp[aZ,sw]at h;have:=bT h.1;omega
 ·simp[aZ,se]at h;have:=bT h.1;omega
theorem jM{l:Cells}(hp:pinched l=false){p:Pl}{h:Int}:(p,h)∈fV (iW l)↔∃q d,p=iP q/\outOf l q=some d/\h=hdg d:=by
 rw[uK];constructor
 ·rintro⟨d,hd,w,rfl⟩;obtain⟨X,Y⟩:=p;have:=G9 hd w;refine⟨(X.toNat,Y.toNat),d,?_,gT hp hd ?_,rfl⟩
  ·simp[iP];omega
  ·rw[cU];simp only;rw[show((X.toNat:Nat):Int)=X by omega,show((Y.toNat:Nat):Int)=Y by omega];exact w
 ·rintro⟨q,d,rfl,ho,rfl⟩;obtain⟨hd,w⟩:=b8 ho;rw[cU]at w;exact⟨d,hd,w,rfl⟩
theorem lV{l:Cells}(hp:pinched l=false)(p:Pl)(h:Int):aN (cT (iW l)) p=some h↔∃q d,p=iP q/\outOf l q=some d/\h=hdg d:=by
 unfold cT;rw[wK _ _ ?_ (by intro p _ v e;cases e) p h,jM hp]
 ·simp[j6]
 ·intro a ha b hb e;obtain⟨q,d,e1,o1,e2⟩:=(jM hp).mp ha;obtain⟨q',d',e1',o1',e2'⟩:=(jM hp).mp hb;have:q=q':=fJ (by rw[<- e1,<- e1',e]);subst this;rw[o1]at o1';cases o1';rw[e2,e2']
theorem zA(cs:List Pl):((cT cs).map (·.1)).Nodup:=rE _ _ (by simp)
theorem pW{l:Cells}(hp:pinched l=false)(p:Pl):p∈(cT (iW l)).map (·.1)↔∃q d,p=iP q/\outOf l q=some d:=by
 rw[<- aW];constructor
 ·intro h;cases e:aN (cT (iW l)) p with
  |none=>rw[e]at h;cases h
  |some v=>obtain⟨q,d,h1,h2,_⟩:=(lV hp p v).mp e;exact⟨q,d,h1,h2⟩
 ·rintro⟨q,d,h1,h2⟩;rw[(lV hp p (hdg d)).mpr ⟨q,d,h1,h2,rfl⟩];rfl
theorem rH(cs:List Pl):(fV cs).length<=4*cs.length:=by
 unfold fV;have:∀(l:List Pl),(l.flatMap (eX cs)).length<=4*l.length:=by
  intro l;induction l with
  |nil=>simp
  |cons c r ih=>
   rw[dj,aj,bq];have:(eX cs c).length<=4:=by unfold eX;rw[ag];exact df (gx _ _) (by simp)
   omega
 exact this cs
theorem jL(cs:List Pl):(cT cs).length<=4*cs.length:=by have h1:=gH (fV cs) [];have h2:=rH cs;unfold cT;simp at h1;omega
inductive mJ (hd:Pl->Option Int):Pl->List (Pl×Int)->Pl->Prop where
 |nil (p:Pl):mJ hd p [] p
 |cons {p q:Pl}{h:Int}{r:List (Pl×Int)}:hd p=some h->0<=h->h<4->mJ hd (aK p h.toNat) r q->mJ hd p ((p,h)::r) q
noncomputable def bN:Option Int->List (Pl×Int)->List Pl
 |_,[]=>[]
 |came,(p,h)::r=>if some h=came then bN (some h) r else p::bN (some h) r
def iF(x:Foot):Pl×Int:=(iP x.1,hdg x.2)
theorem GJ{l:Cells}{p:Point}{d:Nat}(h:outOf l p=some d):aK (iP p) (hdg d).toNat=iP (stepped p d):=by
 obtain⟨hd,_⟩:=b8 h;obtain⟨b2,b3⟩:=fG h;have cd:d=0\/d=1\/d=2\/d=3:=by omega
 rcases cd with rfl|rfl|rfl|rfl
 ·simp[aK,hdg,iP,stepped]
 ·simp[aK,hdg,iP,stepped]
 ·simp[aK,hdg,iP,stepped];have:=b2 rfl;omega
 ·simp[aK,hdg,iP,stepped];have:=b3 rfl;omega
theorem G6{l:Cells}(hp:pinched l=false){p q:Point}{f:List Foot}(h:Way l p f q):mJ (aN (cT (iW l))) (iP p) (f.map iF) (iP q):=by
 induction h with
 |nil p=>exact .nil _
 | @cons p q d r ho _ ih=>
  rw[bo];refine .cons ((lV hp _ _).mpr ⟨p,d,rfl,ho,rfl⟩) ?_ ?_ ?_
  ·unfold hdg;omega
  ·unfold hdg;omega
  ·rw[GJ ho];exact ih
theorem mH:∀(r:List Foot)(d:Nat),d<4->(∀x∈r,x.2<4)->bN (some (hdg d)) (r.map iF)=iW (turns d r)
 |[],d,_,_=>rfl
 |x::r,d,hd,hr=>by
  have hx:=hr x (by simp);rw[bo];show(if some (hdg x.2)=some (hdg d)then bN (some (hdg x.2)) (r.map iF)else iP x.1::bN (some (hdg x.2)) (r.map iF))=iW (if x.2=d then turns x.2 r else x.1::turns x.2 r)
  rw[mH r x.2 hx (fun y hy=>hr y (by simp[hy]))];by_cases e:x.2=d
  ·rw[ah (by rw[e]),ah e]
  ·rw[af (fun z=>e (KQ hx hd (Option.some.inj z))),af e];rfl
def cF(l:Cells):List Point:=(pointsOf l).filter fun p=>(outOf l p).isSome
theorem dU(l:Cells):∀(sk seen:List Point),walksFrom l seen sk=walksFrom l seen (sk.filter fun p=>(outOf l p).isSome)
 |[],seen=>rfl
 |p::r,seen=>by
  cases ho:outOf l p with
  |none=>
   rw[List.filter_cons_of_neg (by simp[ho])];have e:walksFrom l seen (p::r)=walksFrom l seen r:=by
    show(if seen.contains p=true then _ else match outOf l p with|none=>_|some d=>_)=_
    rw[ho];split<;>rfl
   rw[e];exact dU l r seen
  |some d=>
   rw[List.filter_cons_of_pos (by simp[ho])];show(if seen.contains p=true then _ else match outOf l p with|none=>_|some d=>_)=(if seen.contains p=true then _ else match outOf l p with|none=>_|some d=>_)
   rw[ho,dU l r seen];dsimp only;rw[dU l r (seen++List.map (fun x=>x.fst) (follow l p (4*List.length l+4) p d))]
theorem d6.starts(l:Cells):d6 l [] (cF l):=by
 have g:=d6.start l;refine⟨g.pH,fun q d h=>?_,?_⟩
 ·rcases g.all q d h with z|z
  ·exact .inl z
  ·exact .inr (cf.mpr ⟨z,by simp[h]⟩)
 ·exact g.row.sublist (List.filter_sublist ..)
theorem A0{a b:Point}(h:before a b=true):CO (iP a) (iP b):=by rw[cX]at h;unfold CO iP;simp only;omega
theorem yA{a b:Pl}(h:CO a b):gC a b:=by unfold CO at h;unfold gC;omega
theorem yG{xs ys:List Pl}(hp:xs.Perm ys)(h1:xs.Pairwise gC)(h2:ys.Pairwise gC):xs=ys:=
 hp.eq_of_pairwise (fun _ _ _ _ a b=>sL a b) h1 h2
theorem uG{l:Cells}(hp:pinched l=false){ys:List Pl}(h:ys.Perm ((cT (iW l)).map (·.1)))(hs:ys.Pairwise gC):ys=iW (cF l):=by
 have hr:(iW (cF l)).Pairwise gC:=by unfold iW;rw[jk];exact(d6.starts l).row.imp fun h=>yA (A0 h)
 refine yG (h.trans ?_) hs hr;refine(List.perm_ext_iff_of_nodup (zA _) ?_).mpr fun p=>?_
 ·unfold iW;exact dZ (wQ (d6.starts l).row) fun x _ y _ e=>fJ e
 ·rw[pW hp];constructor
  ·rintro⟨q,d,rfl,ho⟩;exact gV.mpr (cf.mpr ⟨gO ho,by simp[ho]⟩)
  ·intro hm;obtain⟨q,hq,rfl⟩:=au.mp hm;have:=(cf.mp hq).2;cases e:outOf l q with
   |none=>rw[e]at this;cases this
   |some d=>exact⟨q,d,rfl,e⟩
theorem GB{l:Cells}(hp:pinched l=false){seen r:List Point}{p:Point}{d:Nat}(g:d6 l seen (p::r))(hs:p∉seen)(ho:outOf l p=some d):
  ∃f:List Foot,mJ (aN (cT (iW l))) (iP p) (f.map iF) (iP p)/\f≠[]/\((f.map iF).map (·.1)).Nodup/\(∀y∈f.map (·.1),y∉seen)/\d6 l (seen++f.map (·.1)) r/\
   walksFrom l seen (p::r)=cornersOf f::walksFrom l (seen++f.map (·.1)) r/\iW (cornersOf f)=bN none (f.map iF):=by
 obtain⟨R,fr,⟨r',er,ec⟩,ew,g2⟩:=g.step hp hs ho rfl;refine⟨_,G6 hp R.way,R.ne,?_,fr,g2,?_,?_⟩
 ·have e:((follow l p (4*l.length+4) p d).map iF).map (·.1)=iW ((follow l p (4*l.length+4) p d).map (·.1)):=by simp[iW,iF,Function.comp_def]
  rw[e];exact dZ R.nd fun x _ y _ e=>fJ e
 ·show(if seen.contains p=true then _ else match outOf l p with|none=>_|some d=>_)=_
  rw[af (by simpa using hs),ho]
 ·rw[ec,er,bo];show iP p::iW (turns d r')=(if some (hdg d)=none then _ else iP p::bN (some (hdg d)) (r'.map iF))
  rw[af (by simp),mH r' d (b8 ho).1];intro x hx;have:=R.way.out x (by rw[er];simp[hx]);exact(b8 this).1
noncomputable def aF:Nat->List (List T3)->List (T3×Int)
 |_,[]=>[]
 |k,N::r=>N.map (fun p=>(p,(k:Int)))++aF (k+1) r
theorem jX:∀(a b:List (List T3))(k:Nat),aF k (a++b)=aF k a++aF (k+a.length) b
 |[],b,k=>by simp[aF]
 |N::a,b,k=>by
  rw[jr];show N.map (fun p=>(p,(k:Int)))++aF (k+1) (a++b)=(N.map (fun p=>(p,(k:Int)))++aF (k+1) a)++aF (k+(a.length+1)) b
  rw[jX a b (k+1),dv,show k+1+a.length=k+(a.length+1) by omega]
theorem bF:∀(Ns:List (List T3))(k:Nat),(aF k Ns).map (·.1)=Ns.flatten
 |[],k=>rfl
 |N::r,k=>by
  show(N.map (fun p=>(p,(k:Int)))++aF (k+1) r).map (·.1)=N++r.flatten
  rw[cg,bF r (k+1),fu];congr 1;simp[Function.comp_def]
theorem lC{κ β:Type}[DecidableEq κ](k:κ)(b:List (κ×β)):∀a:List (κ×β),aN (a++b) k=if k∈a.map (·.1)then aN a k else aN b k
 |[]=>by simp
 |x::a=>by
  rw[jr,cM,cM,lC k b a,bo];by_cases e:x.1=k
  ·rw[ah e,ah e,ah (by rw[ar];exact .inl e.symm)]
  ·rw[af e,af e];by_cases h:k∈a.map (·.1)
   ·rw[ah h,ah (aq _ h)]
   ·rw[af h,af (by rw[ar];rintro(z|z);exact e z.symm;exact h z)]
theorem qF{κ β:Type}[DecidableEq κ](v:β)(k:κ):∀N:List κ,aN (N.map fun p=>(p,v)) k=if k∈N then some v else none
 |[]=>by simp[j6]
 |x::N=>by
  rw[bo,cM,qF v k N];by_cases e:x=k
  ·rw[ah e,ah (by simp[e])]
  ·rw[af e];by_cases h:k∈N
   ·rw[ah h,ah (aq _ h)]
   ·rw[af h,af (by rw[ar];rintro(z|z);exact e z.symm;exact h z)]
theorem iY(Ns:List (List T3))(N:List T3):aF 0 (Ns++[N])=aF 0 Ns++N.map (fun p=>(p,(Ns.length:Int))):=by rw[jX];simp[aF]
theorem nO{Ns:List (List T3)}{N:List T3}(hd:∀p∈N,p∉Ns.flatten)(p:T3):aN (aF 0 (Ns++[N])) p=if p∈N then some (Ns.length:Int)else aN (aF 0 Ns) p:=by
 rw[iY,lC,qF,bF];by_cases h:p∈Ns.flatten
 ·rw[ah h,af (fun z=>hd p z h)]
 ·rw[af h];split
  ·rfl
  ·exact(m5.mpr (by rw[bF];exact h)).symm
theorem CZ:∀(Ns:List (List T3))(j:Nat)(p:T3)(k:Int),Ns.flatten.Nodup->(aN (aF j Ns) p=some k↔∃i N,Ns[i]? =some N/\p∈N/\k=((j+i:Nat):Int))
 |[],j,p,k,_=>by simp[aF,j6]
 |N::r,j,p,k,hn=>by
  rw[iw,cv]at hn;show aN (N.map (fun p=>(p,(j:Int)))++aF (j+1) r) p=some k↔ _
  rw[lC,qF];have e:(N.map fun p=>(p,(j:Int))).map (·.1)=N:=by simp[Function.comp_def]
  rw[e];by_cases h:p∈N
  ·rw[ah h,ah h];constructor
   ·intro q;cases q;exact⟨0,N,rfl,h,by simp⟩
   ·rintro⟨i,M,hi,hm,rfl⟩;cases i with
    |zero=>cases hi;simp
    |succ i=>exfalso;rw[ia]at hi;exact hn.2.2 p h p (mem_flatten.mpr ⟨M,az hi,hm⟩) rfl
  ·rw[af h,CZ r (j+1) p k hn.2.1];constructor
   ·rintro⟨i,M,hi,hm,rfl⟩;exact⟨i+1,M,by rw[ia];exact hi,hm,by congr 1;omega⟩
   ·rintro⟨i,M,hi,hm,rfl⟩;cases i with
    |zero=>cases hi;exact absurd hm h
    |succ i=>rw[ia]at hi;exact⟨i,M,hi,hm,by congr 1;omega⟩
structure lD(h:List Nat)(Ns:List (List T3))(ki:Array Nat):Prop where
 rel:lE h (aN (aF 0 Ns)) ki
 nd:Ns.flatten.Nodup
 ne:∀N∈Ns,N≠[]
theorem lD.sub{h:List Nat}{Ns:List (List T3)}{ki:Array Nat}(R:lD h Ns ki):∀p∈Ns.flatten,p∈(trianglesOf h).map tP:=by intro p hp;apply Classical.byContradiction;intro q;have:=R.rel.out p q;rw[m5,bF]at this;exact this hp
theorem kU{α:Type}:∀{Ns:List (List α)},(∀N∈Ns,N≠[])->Ns.length<=Ns.flatten.length
 |[],_=>by simp
 |N::r,h=>by
  have h1:=kU (Ns:=r) fun M hM=>h M (by simp[hM])
  have h2:0<N.length:=gr.mpr (h N (by simp));simp only[bq,iw,aj];omega
theorem lD.few{h:List Nat}{Ns:List (List T3)}{ki:Array Nat}(R:lD h Ns ki):Ns.length<=(trianglesOf h).length:=by have h1:=kU R.ne;have h2:=cO R.nd R.sub;rw[ag]at h2;omega
theorem lD.start{h:List Nat}(hh:∀r∈h,okR r):lD h [] (yX h):=⟨lE.start hh,by simp,by simp⟩
theorem lD.face{h:List Nat}(hh:∀r∈h,okR r){fac:Array Nat}{ko:T3->Option Int}{ki:Array Nat}{Ns:List (List T3)}(hf:∀t∈trianglesOf h,ko (tP t)=some (fac.getD t 4:Int))(Ah:∀p,p∉ (trianglesOf h).map tP->ko p=none)
  (km:(trianglesOf h).length<NONE) (R:lD h Ns ki) {t0:Nat} (h0:t0∈trianglesOf h) (hl:aN (aF 0 Ns) (tP t0)=none) {N:List T3} (hN:∀p,p∈N↔Rch (okT ko (tP t0)) nbP (isN (aN (aF 0 Ns))) (tP t0) p) (rp:N.Nodup):
  ki.getD t0 0=NONE/\lD h (Ns++[N]) (fill fac Ns.length (4*(trianglesOf h).length+4) [t0] ki):=by
 have hl':ki.getD t0 0=NONE:=by have:=R.rel.ins t0 h0;rw[hl]at this;apply Classical.byContradiction;intro q;rw[af q]at this;cases this
 have u0:¬isN (aN (aF 0 Ns)) (tP t0):=by intro q;have q:(aN (aF 0 Ns) (tP t0)).isSome=true:=q;rw[hl]at q;cases q
 have hd:∀p∈N,p∉Ns.flatten:=by
  intro p hp hm;have:=(((hN p).mp hp).ok' rfl u0).2;refine this ?_;show(aN (aF 0 Ns) p).isSome=true
  rw[aW,bF];exact hm
 refine⟨hl',?_,?_,?_⟩
 ·exact R.rel.face hh hf Ah h0 (gk R.few km) hl' hN (nO hd)
 ·rw[fi,cv];refine⟨R.nd,by simpa using rp,?_⟩;intro a ha b hb e;have sv:b∈N:=by simpa using hb
  exact hd b sv (e▸ha)
 ·intro M hM;rcases aw.mp hM with hM|hM
  ·exact R.ne M hM
  ·have:M=N:=by simpa using hM
   subst this;intro e;have:tP t0∈M:=(hN _).mpr .refl;rw[e]at this;cases this
structure Numbering(h:List Nat)(i:Nat)(Ns:List (List T3)):Prop where
 ex:∃(ki:Array Nat)(lr:List Nat),lD h Ns ki/\lr.length=Ns.length/\
  facesFrom (oO h) (4*(trianglesOf h).length+4) (trianglesOf h) 0 [] (yX h)=facesFrom (oO h) (4*(trianglesOf h).length+4) ((trianglesOf h).drop i) Ns.length lr ki
 done:(∀t∈(trianglesOf h).take i,(aN (aF 0 Ns) (tP t)).isSome=true)/\(∀j,j<Ns.length->∃n t,n<i/\(trianglesOf h)[n]? =some t/\aN (aF 0 Ns) (tP t)=some (j:Int))/\
  ∀(n t k:Nat),n<i->(trianglesOf h)[n]? =some t->aN (aF 0 Ns) (tP t)=some (k:Int)->∀j,j<k->∃m u,m<n/\(trianglesOf h)[m]? =some u/\aN (aF 0 Ns) (tP u)=some (j:Int)
theorem Numbering.start{h:List Nat}(hh:∀r∈h,okR r):Numbering h 0 []:=⟨⟨yX h,[],lD.start hh,rfl,rfl⟩,by simp,fun j hj=>by simp at hj,fun n t k hn=>by omega⟩
theorem drop_cons{α:Type}{l:List α}{i:Nat}{t:α}(h:l[i]? =some t):l.drop i=t::l.drop (i+1):=by obtain⟨hi,e⟩:=ak.mp h;rw[List.drop_eq_getElem_cons hi,e]
theorem take_snoc{α:Type}{l:List α}{i:Nat}{t:α}(h:l[i]? =some t):l.take (i+1)=l.take i++[t]:=by rw[List.take_add_one,h];rfl
theorem Numbering.skip{h:List Nat}{i:Nat}{Ns:List (List T3)}(R:Numbering h i Ns){t:Nat}(ht:(trianglesOf h)[i]? =some t)(hs:(aN (aF 0 Ns) (tP t)).isSome=true):Numbering h (i+1) Ns:=by
 obtain⟨⟨ki,lr,O,hl,e⟩,dn⟩:=R;have hm:t∈trianglesOf h:=az ht;have q:ki.getD t 0≠NONE:=by intro q;have:=O.rel.ins t hm;rw[ah q]at this;rw[this]at hs;cases hs
 refine⟨⟨ki,lr,O,hl,?_⟩,fun u hu=>?_,fun j hj=>?_,fun n u k hn hu hk j hj=>?_⟩
 ·rw[e,drop_cons ht];show(if ki.getD t 0≠NONE then _ else _)=_
  rw[ah q]
 ·rw[take_snoc ht]at hu;rcases aw.mp hu with hu|hu
  ·exact dn.1 u hu
  ·have:u=t:=by simpa using hu
   subst this;exact hs
 ·obtain⟨n,u,a1,a2⟩:=dn.2.1 j hj;exact⟨n,u,by omega,a2⟩
 ·by_cases c:n<i
  ·exact dn.2.2 n u k c hu hk j hj
  ·have:n=i:=by omega
   subst this;obtain⟨m,N,b1,_,b3⟩:=(CZ Ns 0 _ _ O.nd).mp hk;have:=(ak.mp b1).1;exact dn.2.1 j (by omega)
theorem Numbering.face{h:List Nat}(hh:∀r∈h,okR r){ko:T3->Option Int}(hf:∀t∈trianglesOf h,ko (tP t)=some ((oO h).getD t 4:Int))(Ah:∀p,p∉ (trianglesOf h).map tP->ko p=none)
  (km:(trianglesOf h).length<NONE) {i:Nat}{Ns:List (List T3)} (R:Numbering h i Ns) {t:Nat} (ht:(trianglesOf h)[i]? =some t) (hl:aN (aF 0 Ns) (tP t)=none)
  {N:List T3} (hN:∀p,p∈N↔Rch (okT ko (tP t)) nbP (isN (aN (aF 0 Ns))) (tP t) p) (rp:N.Nodup):Numbering h (i+1) (Ns++[N]):=by
 obtain⟨⟨ki,lr,O,hl2,e⟩,dn⟩:=R;have hm:t∈trianglesOf h:=az ht;obtain⟨q,O2⟩:=O.face hh hf Ah km hm hl hN rp;have grow:∀p,(aN (aF 0 Ns) p).isSome=true->(aN (aF 0 (Ns++[N])) p).isSome=true:=by intro p hp;rw[aW,bF]at hp ⊢;rw[fi];exact cc _ hp
 have hd:∀p∈N,p∉Ns.flatten:=fun p hp hm=>by have z:=O2.nd;rw[fi,cv]at z;exact z.2.2 p hm p (by simpa using hp) rfl
 have old:∀p (k:Nat),aN (aF 0 Ns) p=some (k:Int)->aN (aF 0 (Ns++[N])) p=some (k:Int):=fun p k hk=>by
  rw[nO hd,af]
  ·exact hk
  ·intro hp;refine hd p hp ?_;rw[<- bF Ns 0,<- aW,hk];rfl
 have htN:tP t∈N:=(hN _).mpr .refl;have new:aN (aF 0 (Ns++[N])) (tP t)=some (Ns.length:Int):=by rw[nO hd,ah htN]
 refine⟨⟨_,t::lr,O2,by simp[hl2],?_⟩,fun u hu=>?_,fun j hj=>?_,fun n u k hn hu hk j hj=>?_⟩
 rotate_left 2
 ·by_cases c:j<Ns.length
  ·obtain⟨n,u,a1,a2,a3⟩:=dn.2.1 j c;exact⟨n,u,by omega,a2,old _ _ a3⟩
  ·have:j=Ns.length:=by simp at hj;omega
   subst this;exact⟨i,t,by omega,ht,new⟩
 ·by_cases c:n<i
  ·have hs:=dn.1 u (az (l:=(trianglesOf h).take i) (i:=n) (by rw[gb c];exact hu));have vy:aN (aF 0 Ns) (tP u)=some (k:Int):=by
    rw[nO hd,af]at hk
    ·exact hk
    ·intro hp;refine hd _ hp ?_;rw[<- bF Ns 0,<- aW];exact hs
   obtain⟨m,v,a1,a2,a3⟩:=dn.2.2 n u k c hu vy j hj;exact⟨m,v,a1,a2,old _ _ a3⟩
  ·have:n=i:=by omega
   subst this;rw[ht]at hu;cases hu;rw[new]at hk;have:(Ns.length:Int)=(k:Int):=Option.some.inj hk;obtain⟨m,v,a1,a2,a3⟩:=dn.2.1 j (by omega);exact⟨m,v,a1,a2,old _ _ a3⟩
 ·rw[e,drop_cons ht];show(if ki.getD t 0≠NONE then _ else facesFrom _ _ _ (Ns.length+1) (t::lr) (fill _ _ _ [t] ki))=_
  rw[af (by simpa using q),aj];rfl
 ·rw[take_snoc ht]at hu;rcases aw.mp hu with hu|hu
  ·exact grow _ (dn.1 u hu)
  ·have:u=t:=by simpa using hu
   subst this;rw[aW,bF,fi];refine bh _ ?_;have:tP u∈N:=(hN _).mpr .refl;simpa using this
noncomputable def fR(hs:List Pl):List T3:=hs.flatMap fun p=>[(p.1,p.2,0),(p.1,p.2,1),(p.1,p.2,2),(p.1,p.2,3)]
theorem n9(h:List Nat):fR (h.map hP)=(trianglesOf h).map tP:=by
 unfold fR trianglesOf;induction h with
 |nil=>rfl
 |cons r h ih=>
  rw[bo,dj,dj,cg,ih];congr 1;have e0:tP (4*r)=((hP r).1,(hP r).2,0):=by unfold tP hP;rw[show 4*r/4=r by omega,show 4*r%4=0 by omega];rfl
  have e1:tP (4*r+1)=((hP r).1,(hP r).2,1):=by unfold tP hP;rw[show(4*r+1)/4=r by omega,show(4*r+1)%4=1 by omega];rfl
  have e2:tP (4*r+2)=((hP r).1,(hP r).2,2):=by unfold tP hP;rw[show(4*r+2)/4=r by omega,show(4*r+2)%4=2 by omega];rfl
  have e3:tP (4*r+3)=((hP r).1,(hP r).2,3):=by unfold tP hP;rw[show(4*r+3)/4=r by omega,show(4*r+3)%4=3 by omega];rfl
  simp[e0,e1,e2,e3]
theorem n8(hs:List Pl):(fR hs).length=4*hs.length:=by
 unfold fR;induction hs with
 |nil=>rfl
 |cons p r ih=>rw[dj,aj,ih];simp only[bq,fg];omega
theorem mF(l:Cells):(halvesOf l).length=4*l.length:=by
 unfold halvesOf;rw[List.length_mergeSort];induction l with
 |nil=>rfl
 |cons p r ih=>rw[dj,aj,ih];simp only[bq,fg];omega
section
variable {κ β:Type} [DecidableEq κ]
theorem gU(f:κ->β)(l:List κ):(l.map fun p=>(p,f p)).map (·.1)=l:=by rw[fu];simp[Function.comp_def]
theorem j7(f:κ->β)(k:κ):∀l:List κ,aN (l.map fun p=>(p,f p)) k=if k∈l then some (f k)else none
 |[]=>by simp[j6]
 |x::N=>by
  rw[bo,cM,j7 f k N];by_cases e:x=k
  ·rw[ah e,ah (by simp[e]),e]
  ·rw[af e];by_cases h:k∈N
   ·rw[ah h,ah (aq _ h)]
   ·rw[af h,af (by rw[ar];rintro(z|z);exact e z.symm;exact h z)]
theorem JF(f:κ->β){l:List κ}{k:κ}(v:β)(h:k∈l):dO (l.map fun p=>(p,f p)) k v=l.map fun p=>(p,if p=k then v else f p):=by unfold dO;rw[ah (rP.mpr (by rw[gU];exact h)),fu];apply fh;intro x _;simp only[Function.comp];split<;>rfl
theorem wH:∀(L:List κ)(f:κ->β){l:List κ}(v:β),(∀p∈L,p∈l)->cS (l.map fun p=>(p,f p)) (L.map fun p=>(p,v))=l.map fun p=>(p,if p∈L then v else f p)
 |[],f,l,v,_=>by simp[cS]
 |k::L,f,l,v,h=>by
  rw[bo];show cS (dO (l.map fun p=>(p,f p)) k v) (L.map fun p=>(p,v))=_
  rw[JF f v (h k (by simp)),wH L (fun p=>if p=k then v else f p) v (fun p hp=>h p (by simp[hp]))];apply fh;intro x _;by_cases h1:x∈L
  ·simp[h1]
  ·by_cases h2:x=k
   ·simp[h1,h2]
   ·simp[h1,h2]
theorem qE:∀(ps l:List (κ×β)),(ps.map (·.1)).Nodup->(∀k∈ps.map (·.1),k∉l.map (·.1))->cS l ps=l++ps
 |[],l,_,_=>by simp[cS]
 |p::r,l,h,h2=>by
  rw[bo,de]at h;show cS (dO l p.1 p.2) r=_
  rw[fY p.2 (h2 p.1 (by simp)),qE r _ h.2,dv]
  ·rfl
  ·intro k hk hm;rw[cg,aw]at hm;rcases hm with hm|hm
   ·exact h2 k (by rw[bo];exact aq _ hk) hm
   ·have:k=p.1:=by simpa using hm
    exact h.1 (this▸hk)
end
theorem FP{hs:List Pl}{p:Pl}(h:p∈hs):gG hs 1 p=0:=by
 show(if p∈aO hs 0 then((0:Nat):Int)else gG hs 0 p)=0
 rw[ah (show p∈aO hs 0 from h)];rfl
theorem mR(hs:List Pl):∀k,∀p∈aO hs k,p∈hs
 |0,_,h=>h
 |k+1,p,h=>mR hs k p (cf.mp h).1
noncomputable def iM(hs:List Pl)(k:Nat):List (Pl×Int):=if k=0 then[]else hs.map fun p=>(p,gG hs k p)
theorem zV{hs:List Pl}(hn:hs.Nodup)(k:Nat):cS (iM hs k) ((aO hs k).map fun p=>(p,(k:Int)))=iM hs (k+1):=by
 cases k with
 |zero=>
  show cS [] (hs.map fun p=>(p,((0:Nat):Int)))=hs.map fun p=>(p,gG hs 1 p)
  rw[qE]
  ·rw[nil_append];apply fh;intro p hp;rw[FP hp];rfl
  ·rw[gU (fun _=>((0:Nat):Int))];exact hn
  ·simp
 |succ k=>
  show cS (hs.map fun p=>(p,gG hs (k+1) p)) _=hs.map fun p=>(p,gG hs (k+2) p)
  rw[wH (aO hs (k+1)) (fun p=>gG hs (k+1) p) ((k+1:Nat):Int) (mR hs _)];apply fh;intro p _;show _=(p,if p∈aO hs (k+1)then((k+1:Nat):Int)else gG hs (k+1) p)
  by_cases q:p∈aO hs (k+1)
  ·rw[ah q,ah q]
  ·rw[af q,af q]
theorem w6{hs:List Pl}{k:Nat}(e:aO hs k=[])(p:Pl):∀m,k<=m->gG hs m p=gG hs k p:=by
 have nE:∀m,k<=m->aO hs m=[]:=by
  intro m hm;induction m with
  |zero=>
       have:k=0:=by omega
       rw[<- this];exact e
  |succ m ih=>
   by_cases h:k<=m
   ·show(aO hs m).filter _=[]
    rw[ih h];rfl
   ·have:k=m+1:=by omega
    rw[<- this];exact e
 intro m hm;induction m with
 |zero=>
      have:k=0:=by omega
      rw[this]
 |succ m ih=>
  by_cases h:k<=m
  ·show(if p∈aO hs m then(m:Int)else gG hs m p)=_
   rw[nE m h,af (by simp),ih h]
  ·have:k=m+1:=by omega
   rw[this]
def bX(h:List Nat):List (Pl×Int):=(h.map hP).map fun p=>(p,aS h p)
theorem C6{h:List Nat}(hh:∀r∈h,okR r){k:Nat}(hk:0<k)(e:aO (h.map hP) k=[]):iM (h.map hP) k=bX h:=by
 unfold iM bX;rw[af (by omega)];apply fh;intro p hp;unfold aS;rw[ah hp];have Bk:aO (h.map hP) 64=[]:=by rw[dC hh,eT hh (ay 64)];rfl
 by_cases c:k<=64
 ·rw[w6 e p 64 c]
 ·rw[w6 Bk p k (by omega)]
theorem JA(h:List Nat)(p:Pl):(aN (bX h) p).getD (-1)=aS h p:=by
 unfold bX;rw[j7];by_cases q:p∈h.map hP
 ·rw[ah q];rfl
 ·rw[af q];unfold aS;rw[af q];rfl
def hgt(h:List Nat)(p:Pl):Int:=(heightAt (gridOf h) p.1.toNat p.2.toNat:Int)
theorem pV(h:List Nat)(c:Point):hgt h (iP c)=(heightAt (gridOf h) c.1 c.2:Int):=by unfold hgt iP;simp
theorem DH{h:List Nat}(hh:∀r∈h,okR r){r c:Nat}(hr:r∈h){m:Int}(hm:m∈cR h (aC (hP r) c))(qm:∀x∈cR h (aC (hP r) c),m<=x):m=hgt h (aC (hP r) c):=by rw[fL]at hm qm ⊢;rw[pV];exact F8 hh (FV (hh r hr)).1 hm qm
noncomputable def e7(h:List Nat)(t:T3):Int:=zP t.2.2.toNat (hgt h (aC (t.1,t.2.1) t.2.2.toNat)) (hgt h (aC (t.1,t.2.1) (t.2.2.toNat+1))) (aS h (t.1,t.2.1))
theorem rO{h:List Nat}(hh:∀r∈h,okR r){t:Nat}(ht:t∈trianglesOf h):e7 h (tP t)=((oO h).getD t 4:Int):=by
 have hr:=cV.mp ht;rw[vY hh,ah ht,<- L4 ((rN hh).mpr hr)];unfold e7;have e1:((tP t).1,(tP t).2.1)=hP (t/4):=rfl;have e2:(tP t).2.2.toNat=t%4:=by unfold tP;dsimp only;omega
 rw[e1,e2,w8 hh hr,fL,fL,pV,pV];rfl
def c6(h:List Nat):List (T3×Int):=(fR (h.map hP)).map fun t=>(t,e7 h t)
theorem DK{h:List Nat}(hh:∀r∈h,okR r):∀t∈trianglesOf h,aN (c6 h) (tP t)=some ((oO h).getD t 4:Int):=by intro t ht;unfold c6;rw[j7,n9,ah (au.mpr ⟨t,ht,rfl⟩),rO hh ht]
theorem zN(h:List Nat):∀p,p∉ (trianglesOf h).map tP->aN (c6 h) p=none:=by intro p hp;unfold c6;rw[j7,n9,af hp]
theorem L1{h:List Nat}(hh:∀r∈h,okR r){t:Nat}(ht:t∈trianglesOf h):0<=e7 h (tP t)/\e7 h (tP t)<4:=by rw[rO hh ht,vY hh,ah ht];have:=FL (gridOf h) t;omega
noncomputable def partsFrom(m:Int)(cur:List Int):List Int->List (List Int)
 |[]=>[cur]
 |v::r=>if v=m then cur::partsFrom m [] r else partsFrom m (cur++[v]) r
theorem fZ(m:Int):∀(t cur:List Int),∃p ps,parts m t=p::ps/\partsFrom m cur t=(cur++p)::ps
 |[],cur=>⟨[],[],rfl,by simp[partsFrom]⟩
 |v::r,cur=>by
  by_cases e:v=m
  ·obtain⟨p,ps,h1,h2⟩:=fZ m r [];refine⟨[],parts m r,?_,?_⟩
   ·simp[parts,e]
   ·simp only[partsFrom,ah e];rw[h2,h1];simp
  ·obtain⟨p,ps,h1,h2⟩:=fZ m r (cur++[v]);refine⟨v::p,ps,?_,?_⟩
   ·simp[parts,e,h1]
   ·simp only[partsFrom,af e];rw[h2];simp
theorem iI(m:Int)(t:List Int):partsFrom m [] t=parts m t:=by obtain⟨p,ps,h1,h2⟩:=fZ m t [];rw[h2,h1];simp
theorem iJ{m v:Int}{cur r:List Int}(e:v=m):partsFrom m cur (v::r)=cur::partsFrom m [] r:=by simp[partsFrom,e]
theorem gR{m v:Int}{cur r:List Int}(e:¬v=m):partsFrom m cur (v::r)=partsFrom m (cur++[v]) r:=by simp[partsFrom,e]
theorem pN(m:Int)(t:List Int):(parts m t).length<=t.length+1:=by
 have:∀(t cur:List Int),(partsFrom m cur t).length<=t.length+1:=by
  intro t;induction t with
  |nil=>intro cur;simp[partsFrom]
  |cons v r ih=>
   intro cur;by_cases e:v=m
   ·rw[iJ e];have:=ih [];simp;omega
   ·rw[gR e];have:=ih (cur++[v]);simp;omega
 rw[<- iI];exact this t []
theorem iH{m:Int}{t p:List Int}(h:p∈parts m t):p.length<=t.length:=by
 have:∀(t cur:List Int),∀p∈partsFrom m cur t,p.length<=cur.length+t.length:=by
  intro t;induction t with
  |nil=>intro cur p hp;simp[partsFrom]at hp;subst hp;simp
  |cons v r ih=>
   intro cur p hp;by_cases e:v=m
   ·rw[iJ e]at hp;rcases ar.mp hp with rfl|hp
    ·simp
    ·have:=ih [] p hp;simp at this ⊢;omega
   ·rw[gR e]at hp;have:=ih _ p hp;simp at this ⊢;omega
 rw[<- iI]at h;simpa using this t [] p h
section
variable {α β:Type}{f:α->Option β}
theorem EW:∀{l:List α}{zs:List β}{x:α}{z:β},l.mapM f=some zs->f x=some z->(l++[x]).mapM f=some (zs++[z]):=by
 intro l zs x z h1 h2;exact lS (by
  have h:=mapM_some h1;induction h with
  |nil=>exact .cons h2 .nil
  |cons r _ ih=>exact .cons r (ih (lS (by assumption))))
theorem pP{l:List α}{i:Nat}{zs:List β}{x:α}{z:β}(h:(l.take i).mapM f=some zs)(hx:l[i]? =some x)(hz:f x=some z):(l.take (i+1)).mapM f=some (zs++[z]):=by rw[take_snoc hx];exact EW h hz
theorem m9.mem{R:α->β->Prop}:∀{l:List α}{m:List β},m9 R l m->∀x∈l,∃y,R x y
 |_,_,.nil,_,h=>by cases h
 |_,_,.cons r t,x,h=>by
  rcases ar.mp h with rfl|h
  ·exact⟨_,r⟩
  ·exact m9.mem t x h
theorem m9.len{R:α->β->Prop}:∀{l:List α}{m:List β},m9 R l m->l.length=m.length
 |_,_,.nil=>rfl
 |_,_,.cons _ t=>by simp[m9.len t]
theorem pQ{l:List α}{x:α}(hx:x∈l)(hz:f x=none):l.mapM f=none:=by
 cases h:l.mapM f with
 |none=>rfl
 |some zs=>obtain⟨y,e⟩:=(mapM_some h).mem x hx;rw[hz]at e;cases e
theorem tG{l:List α}{zs:List β}(h:l.mapM f=some zs):zs.length=l.length:=((mapM_some h).len).symm
end
theorem zK{α β:Type}{f:β->α->Option β}{l:List α}{b:β}{x:α}:(l++[x]).foldlM f b=(l.foldlM f b).bind fun c=>f c x:=by
 rw[List.foldlM_append];show(l.foldlM f b>>=fun c=>[x].foldlM f c)=_
 congr 1;funext c;simp
theorem r9{α β:Type}{f:β->α->Option β}{l:List α}{b c:β}{i:Nat}{x:α}(h:(l.take i).foldlM f b=some c)(hx:l[i]? =some x):(l.take (i+1)).foldlM f b=f c x:=by rw[take_snoc hx,zK,h];rfl
theorem zL{α β:Type}{f:β->α->Option β}{l:List α}{b c:β}{i:Nat}{x:α}(h:(l.take i).foldlM f b=some c)(hx:l[i]? =some x)(hn:f c x=none):l.foldlM f b=none:=by have e:l=l.take (i+1)++l.drop (i+1):=(jf ..).symm;rw[e,List.foldlM_append,r9 h hx,hn];rfl
def fP(a b q:Pl):Prop:=a.1=b.1/\a.1=q.1/\min a.2 b.2<=q.2/\q.2<max a.2 b.2
def nK(n k:Nat):Nat:=if k=0 then n - 1 else k - 1
noncomputable def zJ(w:List Pl)(k:Nat)(q:Pl):Prop:=∃a b,w[k]? =some a/\w[nK w.length k]? =some b/\fP a b q
noncomputable def jQ(ws:List (List Pl))(i:Nat)(q:Pl):Prop:=∃w∈ws.take i,∃k,zJ w k q
theorem DI(a b:Point)(x y:Nat):r8 a b x y=true↔fP (iP b) (iP a) ((x:Int),(y:Int)):=by
 unfold r8 fP iP;simp only[dm,beq_iff_eq,decide_eq_true_iff];have e1:(min (b.2:Int) (a.2:Int))=((min a.2 b.2:Nat):Int):=by omega
 have e2:(max (b.2:Int) (a.2:Int))=((max a.2 b.2:Nat):Int):=by omega
 rw[e1,e2];omega
theorem y8(w:Walk)(s:Point×Point):s∈sides w↔∃k,w[k]? =some s.2/\w[nK w.length k]? =some s.1:=by
 unfold sides;rw[dt];have hz:∀(j:Nat),(w.zip (w.drop 1++w.take 1))[j]? =some s↔w[j]? =some s.1/\(w.drop 1++w.take 1)[j]? =some s.2:=by intro j;rw[js]
 constructor
 ·rintro⟨j,h⟩;obtain⟨h1,h2⟩:=(hz j).mp h;have hj:j<w.length:=(ak.mp h1).1;by_cases c:j+1<w.length
  ·rw[gm (by rw[fk];omega),getElem?_drop]at h2;refine⟨j+1,by rw[Nat.add_comm];exact h2,?_⟩;unfold nK;rw[af (by omega)];exact h1
  ·rw[dk (by rw[fk];omega),fk]at h2;have e:j - (w.length - 1)=0:=by omega
   rw[e,gb (by omega)]at h2;refine⟨0,h2,?_⟩;unfold nK;rw[ah rfl,show w.length - 1=j by omega];exact h1
 ·rintro⟨k,h1,h2⟩;have hk:k<w.length:=(ak.mp h1).1;by_cases c:k=0
  ·subst c;refine⟨w.length - 1,(hz _).mpr ⟨h2,?_⟩⟩;rw[dk (by rw[fk];omega),fk,show w.length - 1 - (w.length - 1)=0 by omega,gb (by omega)];exact h1
  ·refine⟨k - 1,(hz _).mpr ⟨?_,?_⟩⟩
   ·unfold nK at h2;rw[af c]at h2;exact h2
   ·rw[gm (by rw[fk];omega),getElem?_drop,show 1+(k - 1)=k by omega];exact h1
theorem vV(w:Walk)(x y:Nat):(∃k,zJ (iW w) k ((x:Int),(y:Int)))↔∃s∈sides w,r8 s.1 s.2 x y=true:=by
 have hl:(iW w).length=w.length:=ag ..;have hg:∀(k:Nat)(a:Pl),(iW w)[k]? =some a↔∃p,w[k]? =some p/\a=iP p:=by intro k a;unfold iW;rw[ax];cases w[k]? <;>simp[eq_comm]
 constructor
 ·rintro⟨k,a,b,h1,h2,h3⟩;obtain⟨p,hp,rfl⟩:=(hg k a).mp h1;rw[hl]at h2;obtain⟨q,hq,rfl⟩:=(hg _ b).mp h2;exact⟨(q,p),(y8 w (q,p)).mpr ⟨k,hp,hq⟩,(DI q p x y).mpr h3⟩
 ·rintro⟨s,hs,hf⟩;obtain⟨k,h1,h2⟩:=(y8 w s).mp hs;exact⟨k,iP s.2,iP s.1,(hg k _).mpr ⟨_,h1,rfl⟩,by rw[hl];exact(hg _ _).mpr ⟨_,h2,rfl⟩,(DI s.1 s.2 x y).mp hf⟩
theorem BY(ws:List Walk)(x y:Nat):jQ (iWs ws) (iWs ws).length ((x:Int),(y:Int))↔dR ws x y=true:=by
 unfold jQ dR;rw[br (ay _),fo];constructor
 ·rintro⟨w,hw,hk⟩;obtain⟨v,hv,rfl⟩:=au.mp hw;obtain⟨s,hs,hf⟩:=(vV v x y).mp hk;exact⟨v,hv,fo.mpr ⟨s,hs,hf⟩⟩
 ·rintro⟨v,hv,h⟩;obtain⟨s,hs,hf⟩:=fo.mp h;exact⟨iW v,au.mpr ⟨v,hv,rfl⟩,(vV v x y).mpr ⟨s,hs,hf⟩⟩
noncomputable def mG(ws:List (List Pl))(i:Nat)(w:List Pl)(k:Nat)(q:Pl):Prop:=jQ ws i q\/∃j,j<k/\zJ w j q
theorem BZ(ws:List (List Pl))(i:Nat)(w:List Pl)(q:Pl):mG ws i w 0 q↔jQ ws i q:=by
 unfold mG;constructor
 ·rintro(h|⟨j,h,_⟩)
  ·exact h
  ·omega
 ·exact .inl
theorem tT(ws:List (List Pl))(i:Nat)(w:List Pl)(k:Nat)(q:Pl):mG ws i w (k+1) q↔mG ws i w k q\/zJ w k q:=by
 unfold mG;constructor
 ·rintro(h|⟨j,h1,h2⟩)
  ·exact .inl (.inl h)
  ·by_cases e:j=k
   ·exact .inr (e▸h2)
   ·exact .inl (.inr ⟨j,by omega,h2⟩)
 ·rintro((h|⟨j,h1,h2⟩)|h)
  ·exact .inl h
  ·exact .inr ⟨j,by omega,h2⟩
  ·exact .inr ⟨k,by omega,h⟩
theorem FE{ws:List (List Pl)}{i:Nat}{w:List Pl}(hw:ws[i]? =some w)(q:Pl):mG ws i w w.length q↔jQ ws (i+1) q:=by
 unfold mG jQ;rw[take_snoc hw];constructor
 ·rintro(⟨v,hv,h⟩|⟨j,_,h⟩)
  ·exact⟨v,cc _ hv,h⟩
  ·exact⟨w,by simp,j,h⟩
 ·rintro⟨v,hv,h⟩;rcases aw.mp hv with hv|hv
  ·exact .inl ⟨v,hv,h⟩
  ·have:v=w:=by simpa using hv
   subst this;obtain⟨k,h⟩:=h;obtain⟨a,b,h1,h2⟩:=id h;exact .inr ⟨k,(ak.mp h1).1,h⟩
noncomputable def box:List Pl:=(List.range 65).flatMap fun(x:Nat)=>(List.range 65).map fun(y:Nat)=>(((x:Int),(y:Int)):Pl)
theorem DV{q:Pl}(h1:0<=q.1)(h2:q.1<=64)(h3:0<=q.2)(h4:q.2<=64):q∈box:=by unfold box;refine bx.mpr ⟨q.1.toNat,iy.mpr (by omega),au.mpr ⟨q.2.toNat,iy.mpr (by omega),?_⟩⟩;obtain⟨a,b⟩:=q;simp at h1 h3 ⊢;omega
theorem L8:box.length=4225:=by decide+kernel
theorem tS{ws:List (List Pl)}(ho:∀w∈ws,∀p∈w,(0<=p.1/\p.1<=64)/\(0<=p.2/\p.2<=64)){w:List Pl}(hw:w∈ws){k:Nat}{q:Pl}(h:zJ w k q):q∈box:=by obtain⟨a,b,h1,h2,h3,h4,h5,h6⟩:=h;have o1:=ho w hw a (az h1);have o2:=ho w hw b (az h2);exact DV (by omega) (by omega) (by omega) (by omega)
noncomputable def mM(F:Nat->Nat->Bool)(y n:Nat):Cells:=((List.range n).map fun x=>((x,y):Cell)).filter fun c=>c9 F c.2 c.1
noncomputable def iU(F:Nat->Nat->Bool)(n:Nat):Cells:=(List.range n).flatMap fun y=>mM F y 64
theorem EL(F:Nat->Nat->Bool):iU F 64=aV F:=rfl
theorem lM(F:Nat->Nat->Bool)(y n:Nat):mM F y (n+1)=if c9 F y n=true then mM F y n++[(n,y)]else mM F y n:=by
 unfold mM;rw[jj,cg,gj];by_cases h:c9 F y n=true
 ·rw[ah h];simp[h]
 ·rw[af h];simp[h]
theorem sJ(F:Nat->Nat->Bool)(n:Nat):iU F (n+1)=iU F n++mM F n 64:=by unfold iU;rw[jj,gf];simp
theorem sM{F:Nat->Nat->Bool}{y n:Nat}{c:Cell}(h:c∈mM F y n):c.1<n/\c.2=y:=by unfold mM at h;obtain⟨h1,_⟩:=cf.mp h;obtain⟨x,hx,rfl⟩:=au.mp h1;exact⟨iy.mp hx,rfl⟩
theorem v7{F:Nat->Nat->Bool}{n:Nat}{c:Cell}(h:c∈iU F n):c.2<n/\c.1<64:=by unfold iU at h;obtain⟨y,hy,h⟩:=bx.mp h;have:=sM h;have:=iy.mp hy;omega
theorem z7(F:Nat->Nat->Bool)(y x:Nat):c9 F y x=xor (if x=0 then false else c9 F y (x - 1)) (F x y):=by
 cases x with
 |zero=>simp[c9]
 |succ x=>simp[c9]
theorem sN(F:Nat->Nat->Bool)(y n:Nat):(mM F y n).length<=n:=by unfold mM;exact df (gx _ _) (by simp)
theorem pI(F:Nat->Nat->Bool)(n:Nat):(iU F n).length<=64*n:=by
 induction n with
 |zero=>simp[iU]
 |succ n ih=>rw[sJ,aj];have:=sN F n 64;omega
section
variable {κ β:Type} [DecidableEq κ]
noncomputable def Tbl(l:List (κ×β))(S:κ->Prop):Prop:=(l.map (·.1)).Nodup/\∀q,q∈l.map (·.1)↔S q
theorem Tbl.nil:Tbl ([]:List (κ×β)) fun _=>False:=⟨by simp,by simp⟩
theorem Tbl.put{l:List (κ×β)}{S:κ->Prop}(h:Tbl l S)(k:κ)(v:β):Tbl (dO l k v) fun q=>S q\/q=k:=by
 refine⟨u9 h.1,fun q=>?_⟩;rw[wI];split
 ·rename_i hk;rw[h.2];constructor
  ·exact .inl
  ·rintro(z|z)
   ·exact z
   ·rw[z];exact(h.2 k).mp hk
 ·rw[aw,h.2];simp
theorem Tbl.iff{l:List (κ×β)}{S T:κ->Prop}(h:Tbl l S)(e:∀q,S q↔T q):Tbl l T:=⟨h.1,fun q=>(h.2 q).trans (e q)⟩
theorem Tbl.len{l:List (κ×β)}{S:κ->Prop}(h:Tbl l S){b:List κ}(hb:∀q,S q->q∈b):l.length<=b.length:=by
 have:=cO h.1 (b:=b) fun q hq=>hb q ((h.2 q).mp hq)
 rwa [ag]at this
end
theorem K5{W:List Walk}(h:tD W):∀w∈iWs W,∀p∈w,(0<=p.1/\p.1<=64)/\(0<=p.2/\p.2<=64):=by intro w hw p hp;obtain⟨v,hv,rfl⟩:=au.mp hw;obtain⟨q,hq,rfl⟩:=au.mp hp;have:=h v hv q hq;unfold okP at this;unfold iP;simp only;omega
theorem FD{ws:List (List Pl)}(ho:∀w∈ws,∀p∈w,(0<=p.1/\p.1<=64)/\(0<=p.2/\p.2<=64)){w:List Pl}(hw:w∈ws){i k:Nat}{q:Pl}(h:mG ws i w k q):q∈box:=by
 rcases h with⟨v,hv,k,h⟩|⟨j,_,h⟩
 ·exact tS ho (List.mem_of_mem_take hv) h
 ·exact tS ho hw h
theorem zI(ws:List (List Pl))(q:Pl):jQ ws 0 q↔False:=by simp[jQ]
noncomputable def cW(cs:List Pl)(c:Pl)(j:Nat):List (Pl×Int):=(([0,1,2,3].take j).filter fun(s:Nat)=>!decide (aK c s∈cs)).map fun s=>(aC c s,hdg s)
theorem u6(cs:List Pl)(c:Pl):cW cs c 4=eX cs c:=rfl
theorem rJ(cs:List Pl)(c:Pl){j:Nat}(hj:j<4):cW cs c (j+1)=cW cs c j++(if aK c j∈cs then[]else[(aC c j,hdg j)]):=by
 have e:([0,1,2,3]:List Nat).take (j+1)=[0,1,2,3].take j++[j]:=by
  have cs:j=0\/j=1\/j=2\/j=3:=by omega
  rcases cs with rfl|rfl|rfl|rfl<;>rfl
 unfold cW;rw[e,gj,cg];congr 1;by_cases h:aK c j∈cs
 ·rw[ah h];simp[h]
 ·rw[af h];simp[h]
theorem l8(cs:List Pl)(c:Pl)(j:Nat):(cW cs c j).length<=4:=by unfold cW;rw[ag];refine df (gx _ _) ?_;rw[bw];simp;omega
def dM(cs:List Pl)(i:Nat):List (Pl×Int):=(cs.take i).flatMap (eX cs)
theorem nZ{cs:List Pl}{i:Nat}{c:Pl}(h:cs[i]? =some c):dM cs (i+1)=dM cs i++eX cs c:=by unfold dM;rw[take_snoc h,gf];simp
theorem zC(cs:List Pl):cS [] (dM cs cs.length)=cT cs:=by unfold dM cT fV;rw[br (ay _)]
theorem zB(cs:List Pl)(i:Nat):(dM cs i).length<=4*i:=by
 induction i with
 |zero=>simp[dM]
 |succ i ih=>
  cases h:cs[i]? with
  |some c=>rw[nZ h,aj,<- u6];have:=l8 cs c 4;omega
  |none=>
   have hl:cs.length<=i:=jt.mp h;have:dM cs (i+1)=dM cs i:=by unfold dM;rw[br (by omega),br hl]
   rw[this];omega
theorem u7{κ β:Type}[DecidableEq κ](l a:List (κ×β))(k:κ)(v:β):cS l (a++[(k,v)])=dO (cS l a) k v:=by rw[xQ];rfl
structure fC(l:Cells)(seen:List Point)(i:Nat)(ws:List Walk):Prop where
 IZ:d6 l seen ((cF l).drop i)
 eq:ws++walksFrom l seen ((cF l).drop i)=walksOf l
 nd:seen.Nodup
 out:∀y∈seen,(outOf l y).isSome=true
theorem fC.start(l:Cells):fC l [] 0 [] where
 IZ:=d6.starts l
 eq:=by
  show walksFrom l [] (cF l)=walksFrom l [] (pointsOf l)
  rw[dU l (pointsOf l)];rfl
 nd:=by simp
 out:=by simp
theorem fC.skip{l:Cells}{seen:List Point}{i:Nat}{ws:List Walk}(h:fC l seen i ws){p:Point}(hi:(cF l)[i]? =some p)(hs:p∈seen):fC l seen (i+1) ws:=by
 have g:=h.IZ;have e:=h.eq;rw[drop_cons hi]at g e;refine⟨g.skip (.inl hs),?_,h.nd,h.out⟩;rw[<- e];show _=ws++(if seen.contains p=true then _ else _)
 rw[ah (by simpa using hs)]
theorem fC.done{l:Cells}{seen:List Point}{ws:List Walk}(h:fC l seen (cF l).length ws):ws=walksOf l:=by have e:=h.eq;rw[List.drop_eq_nil_of_le (ay _)]at e;rw[<- e];simp[walksFrom]
theorem fC.len{l:Cells}(hp:pinched l=false){seen:List Point}{i:Nat}{ws:List Walk}(h:fC l seen i ws):seen.length<=4*l.length:=by
 have h1:(iW seen).Nodup:=dZ h.nd fun x _ y _ e=>fJ e
 have h2:=cO (b:=(cT (iW l)).map (·.1)) h1 fun p hm=>by
  obtain⟨q,hq,rfl⟩:=au.mp hm;have:=h.out q hq;cases e:outOf l q with
  |none=>rw[e]at this;cases this
  |some d=>exact(pW hp _).mpr ⟨q,d,rfl,e⟩
 have h3:=jL (iW l);simp only[iW,ag]at h2 h3;omega
theorem fC.next{l:Cells}(hp:pinched l=false){seen:List Point}{i:Nat}{ws:List Walk}(h:fC l seen i ws){p:Point}(hi:(cF l)[i]? =some p)(hs:p∉seen):
  ∃f:List (Pl×Int),mJ (aN (cT (iW l))) (iP p) f (iP p)/\f≠[]/\(f.map (·.1)).Nodup/\(∀y∈f.map (·.1),y∉iW seen)/\∃(ph:List Point)(w:Walk),iW ph=iW seen++f.map (·.1)/\iW w=bN none f/\fC l ph (i+1) (ws++[w]):=by
 have g:=h.IZ;have e:=h.eq;rw[drop_cons hi]at g e;have hm:=az hi;have ho:=(cf.mp hm).2;obtain⟨d,ho⟩:∃d,outOf l p=some d:=by
  cases q:outOf l p with
  |none=>rw[q]at ho;cases ho
  |some d=>exact⟨d,rfl⟩
 obtain⟨f,p1,p2,p3,p4,p5,p6,p7⟩:=GB hp g hs ho;have ek:(f.map iF).map (·.1)=iW (f.map (·.1)):=by simp[iW,iF,Function.comp_def]
 have nd2:(f.map (·.1)).Nodup:=by rw[ek]at p3;unfold iW at p3;exact List.Pairwise.of_map iP (fun a b Aj z=>Aj (by rw[z])) p3
 refine⟨f.map iF,p1,by intro z;exact p2 (by simpa using z),p3,?_,seen++f.map (·.1),cornersOf f,?_,p7,p5,?_,?_,?_⟩
 ·intro y hy;rw[ek]at hy;obtain⟨q,hq,rfl⟩:=au.mp hy;intro z;exact p4 q hq (gV.mp z)
 ·rw[ek];simp[iW]
 ·rw[<- e,p6];simp
 ·rw[cv];exact⟨h.nd,nd2,fun a ha b hb z=>p4 b hb (z▸ha)⟩
 ·intro y hy;rcases aw.mp hy with hy|hy
  ·exact h.out y hy
  ·have hk:iP y∈(f.map iF).map (·.1):=by rw[ek];exact gV.mpr hy
   have pa:∀{a b:Pl}{r:List (Pl×Int)},mJ (aN (cT (iW l))) a r b->∀z∈r.map (·.1),(aN (cT (iW l)) z).isSome=true:=by
    intro a b r pr;induction pr with
    |nil p=>intro z hz;cases hz
    |cons h1 _ _ _ ih=>
     intro z hz;rcases ar.mp hz with rfl|hz
     ·rw[h1];rfl
     ·exact ih z hz
   have:=pa p1 _ hk;rw[aW]at this;obtain⟨q,d',h1,h2⟩:=(pW hp _).mp this;rw[fJ h1,h2];rfl
noncomputable def vB(c:Pl):List Pl:=[(2*c.1+0,2*c.2+0),(2*c.1+1,2*c.2+0),(2*c.1+0,2*c.2+1),(2*c.1+1,2*c.2+1)]
theorem yD{cs:List Pl}{i:Nat}{c:Pl}(h:cs[i]? =some c):eY (cs.take (i+1))=eY (cs.take i)++vB c:=by unfold eY;rw[take_snoc h,gf];simp[vB]
theorem AU(cs:List Pl):(eY cs).length=4*cs.length:=by
 unfold eY;induction cs with
 |nil=>rfl
 |cons c r ih=>rw[dj,aj,ih,bq];simp;omega
theorem EO(c:Pl){j:Nat}{q:Pl}(hq:([(0,0),(1,0),(0,1),(1,1)]:List Pl)[j]? =some q):(vB c).take (j+1)=(vB c).take j++[(2*c.1+q.1,2*c.2+q.2)]:=by
 have hj:j<4:=(ak.mp hq).1;have cs:j=0\/j=1\/j=2\/j=3:=by omega
 rcases cs with rfl|rfl|rfl|rfl<;>(cases hq;rfl)
theorem CD(p:Pl){j:Nat}{q:Pl}(hq:([(-1,-1),(0,-1),(1,-1),(-1,0),(1,0),(-1,1),(0,1),(1,1)]:List Pl)[j]? =some q):(cP p)[j]? =some (p.1+q.1,p.2+q.2):=by
 have hj:j<8:=(ak.mp hq).1;have cs:j=0\/j=1\/j=2\/j=3\/j=4\/j=5\/j=6\/j=7:=by omega
 rcases cs with rfl|rfl|rfl|rfl|rfl|rfl|rfl|rfl<;>(cases hq;rfl)
theorem LD(h:List Nat)(p:Pl){j:Nat}{q:Pl}(hq:([(-1,-1),(0,-1),(-1,0),(0,0)]:List Pl)[j]? =some q):(cR h p)[j]? =some (aS h (p.1+q.1,p.2+q.2)+1):=by
 have hj:j<4:=(ak.mp hq).1;have cs:j=0\/j=1\/j=2\/j=3:=by omega
 rcases cs with rfl|rfl|rfl|rfl<;>(cases hq;rfl)
structure A6(h:List Nat)(ht:List (Pl×Int)):Prop where
 val:∀q z,aN ht q=some z->z=hgt h q
 all:∀x∈h,∀c,c<4->aN ht (aC (hP x) c)=some (hgt h (aC (hP x) c))
structure gE(h:List Nat)(ht:List (Pl×Int))(i j:Nat):Prop where
 val:∀q z,aN ht q=some z->z=hgt h q
 old:∀m x,m<i->h[m]? =some x->∀c,c<4->(aN ht (aC (hP x) c)).isSome=true
 cur:∀x,h[i]? =some x->∀c,c<j->(aN ht (aC (hP x) c)).isSome=true
 len:ht.length<=4*i+j
theorem gE.start(h:List Nat):gE h [] 0 0:=⟨fun q z e=>(by cases e),fun m x hm=>by omega,fun x _ c hc=>by omega,cj _⟩
theorem gE.keep{h:List Nat}{ht:List (Pl×Int)}{i j:Nat}(a:gE h ht i j){r:Nat}(hr:h[i]? =some r)(hs:(aN ht (aC (hP r) j)).isSome=true):gE h ht i (j+1):=by
 refine⟨a.val,a.old,fun x hx c hc=>?_,by have:=a.len;omega⟩;by_cases e:c=j
 ·subst e;rw[hr]at hx;cases hx;exact hs
 ·exact a.cur x hx c (by omega)
theorem gE.put{h:List Nat}{ht:List (Pl×Int)}{i j:Nat}(a:gE h ht i j){r:Nat}(hr:h[i]? =some r):gE h (dO ht (aC (hP r) j) (hgt h (aC (hP r) j))) i (j+1):=by
 have mono:∀q,(aN ht q).isSome=true->(aN (dO ht (aC (hP r) j) (hgt h (aC (hP r) j))) q).isSome=true:=by
  intro q hq;rw[gX];split
  ·rfl
  ·exact hq
 refine⟨fun q z e=>?_,fun m x hm hx c hc=>mono _ (a.old m x hm hx c hc),fun x hx c hc=>?_,?_⟩
 ·rw[gX]at e;by_cases z':q=aC (hP r) j
  ·rw[ah z']at e;cases e;rw[z']
  ·rw[af z']at e;exact a.val q z e
 ·by_cases e:c=j
  ·subst e;rw[hr]at hx;cases hx;rw[gX,ah rfl];rfl
  ·exact mono _ (a.cur x hx c (by omega))
 ·have:=lB ht (aC (hP r) j) (hgt h (aC (hP r) j));have:=a.len;omega
theorem gE.next{h:List Nat}{ht:List (Pl×Int)}{i:Nat}(a:gE h ht i 4):gE h ht (i+1) 0:=by
 refine⟨a.val,fun m x hm hx c hc=>?_,by intro x _ c hc;omega,by have:=a.len;omega⟩;by_cases e:m=i
 ·subst e;exact a.cur x hx c hc
 ·exact a.old m x (by omega) hx c hc
theorem gE.done{h:List Nat}{ht:List (Pl×Int)}(a:gE h ht h.length 0):A6 h ht:=by
 refine⟨a.val,fun x hx c hc=>?_⟩;obtain⟨m,hm⟩:=dt.mp hx;have:=a.old m x (ak.mp hm).1 hm c hc;cases e:aN ht (aC (hP x) c)with
 |none=>rw[e]at this;cases this
 |some z=>rw[a.val _ z e]
def wM(p:Pl):List T3:=[(p.1,p.2,0),(p.1,p.2,1),(p.1,p.2,2),(p.1,p.2,3)]
theorem AH{hs:List Pl}{i:Nat}{p:Pl}(h:hs[i]? =some p):fR (hs.take (i+1))=fR (hs.take i)++wM p:=by unfold fR;rw[take_snoc h,gf];simp[wM]
theorem EI(p:Pl){j:Nat}(hj:j<4):(wM p).take (j+1)=(wM p).take j++[(p.1,p.2,(j:Int))]:=by
 have cs:j=0\/j=1\/j=2\/j=3:=by omega
 rcases cs with rfl|rfl|rfl|rfl<;>rfl
theorem EF{hs:List Pl}{t:T3}(h:t∈fR hs):(t.1,t.2.1)∈hs:=by unfold fR at h;obtain⟨p,hp,h⟩:=bx.mp h;simp at h;rcases h with rfl|rfl|rfl|rfl<;>exact hp
theorem EH{hs:List Pl}(hn:hs.Nodup){i j:Nat}{p:Pl}(h:hs[i]? =some p)(hj:j<4):(p.1,p.2,(j:Int))∉fR (hs.take i)++(wM p).take j:=by
 intro z;rcases aw.mp z with z|z
 ·have:=EF z;simp only at this;obtain⟨m,hm⟩:=dt.mp this;have kh:m<i:=by have:=(ak.mp hm).1;rw[bw]at this;omega
  rw[gb kh]at hm;have h1:=(ak.mp hm).1;have hpw:=ju.mp hn m i h1 (ak.mp h).1 kh;have e1:=(ak.mp hm).2;have e2:=(ak.mp h).2;exact hpw (e1.trans e2.symm)
 ·have cs:j=0\/j=1\/j=2\/j=3:=by omega
  rcases cs with rfl|rfl|rfl|rfl<;>simp[wM]at z
theorem EG(hs:List Pl)(i:Nat):(fR (hs.take i)).length<=4*hs.length:=by rw[n8,bw];omega
section
variable {α:Type}{ok:α->Prop}{nb:α->List α}{U:α->Prop}{t0:α}
theorem gI.iff{N N' W:List α}(h:gI ok nb U t0 N W)(e:∀x,x∈N'↔x∈N):gI ok nb U t0 N' W:=
 ⟨fun x hx=>h.new x ((e x).mp hx),h.wait,h.start.imp (e t0).mpr id,fun x hx u hu ou uu=>(h.pH x ((e x).mp hx) u hu ou uu).imp (e u).mpr id⟩
theorem gI.pop{N W:List α}{x:α}(h:gI ok nb U t0 N (W++[x]))(o0:ok t0)(u0:¬U t0)(hx:¬ok x\/U x\/x∈N):gI ok nb U t0 N W:=
 h.skip o0 u0 (x:=x) (fun y hy=>cc _ hy) (fun y hy=>by
  rcases aw.mp hy with q|q
  ·exact .inl q
  ·exact .inr (by simpa using q)) hx
theorem gI.push{N W:List α}{x:α}(h:gI ok nb U t0 N (W++[x]))(ox:ok x)(ux:¬U x):gI ok nb U t0 (N++[x]) (W++nb x):=by
 refine(h.take (x:=x) (W':=W++nb x) (by simp) ox ux (fun y hy=>?_) (fun y hy=>?_) fun u hu _ _=>bh _ hu).iff fun y=>by simp[or_comm]
 ·rcases aw.mp hy with q|q
  ·exact .inl (cc _ q)
  ·exact .inr q
 ·rcases aw.mp hy with q|q
  ·exact .inl (cc _ q)
  ·exact .inr (by simpa using q)
end
theorem FK{h:List Nat}{t:T3}{z:Int}(e:aN (c6 h) t=some z):0<=t.2.2/\t.2.2<4:=by
 have hm:t∈(trianglesOf h).map tP:=by apply Classical.byContradiction;intro q;rw[zN h t q]at e;cases e
 obtain⟨u,_,rfl⟩:=au.mp hm;unfold tP;dsimp only;omega
theorem gM(h:List Nat):(c6 h).map (·.1)=(trianglesOf h).map tP:=by unfold c6;rw[gU,n9]
theorem xX(h:List Nat):(trianglesOf h).length=4*h.length:=by have:=n8 (h.map hP);rw[n9,ag,ag]at this;exact this
theorem D0:∀(Ns:List (List T3))(j:Nat)(x:T3×Int),x∈aF j Ns->(j:Int)<=x.2
 |[],j,x,h=>by cases h
 |N::r,j,x,h=>by
  rcases aw.mp (show x∈N.map (fun p=>(p,(j:Int)))++aF (j+1) r from h)with h|h
  ·obtain⟨p,_,rfl⟩:=au.mp h;exact le_refl _
  ·have:=D0 r (j+1) x h;omega
theorem yN:∀(A B:List (List T3))(j:Nat),(∀N∈A,N≠[])->(∀N∈B,N≠[])->aF j A=aF j B->A=B
 |[],[],_,_,_,_=>rfl
 |[],N::r,j,_,hB,e=>by
  have e:([]:List (T3×Int))=N.map (fun p=>(p,(j:Int)))++aF (j+1) r:=e;have:=hB N (by simp);cases N with
  |nil=>exact absurd rfl this
  |cons _ _=>simp at e
 |N::r,[],j,hA,_,e=>by
  have e:N.map (fun p=>(p,(j:Int)))++aF (j+1) r=[]:=e;have:=hA N (by simp);cases N with
  |nil=>exact absurd rfl this
  |cons _ _=>simp at e
 |N::r,M::s,j,hA,hB,e=>by
  have e:N.map (fun p=>(p,(j:Int)))++aF (j+1) r=M.map (fun p=>(p,(j:Int)))++aF (j+1) s:=e;have none_of:∀q:List (List T3),(aF (j+1) q).filter (fun x=>decide (x.2=(j:Int)))=[]:=by intro q;rw[List.filter_eq_nil_iff];intro x hx;have:=D0 q (j+1) x hx;simp;omega
  have all_of:∀q:List T3,(q.map (fun p=>(p,(j:Int)))).filter (fun x=>decide (x.2=(j:Int)))=q.map (fun p=>(p,(j:Int))):=by intro q;rw[List.filter_eq_self];intro x hx;obtain⟨p,_,rfl⟩:=au.mp hx;simp
  have e2:=congrArg (List.filter (fun x=>decide (x.2=(j:Int)))) e;rw[gj,gj,none_of,none_of,all_of,all_of,dc,dc]at e2;have eN:N=M:=by
   have:=congrArg (List.map Prod.fst) e2;rw[fu,fu]at this;have id1:∀q:List T3,q.map (Prod.fst∘fun p=>(p,(j:Int)))=q:=fun q=>map_id q
   rw[id1,id1]at this;exact this
  subst eN;have e3:=List.append_cancel_left e;rw[yN r s (j+1) (fun x hx=>hA x (by simp[hx])) (fun x hx=>hB x (by simp[hx])) e3]
theorem vM:∀(Ns:List (List T3))(k i:Nat)(t:T3)(m:Int),(∀N∈Ns,N≠[])->(aF k Ns)[i]? =some (t,m)->(i=0/\m=(k:Int))\/(0<i/\∃t' m',(aF k Ns)[i - 1]? =some (t',m')/\(m=m'\/m=m'+1))
 |[],k,i,t,m,_,h=>by simp[aF]at h
 |N::r,k,i,t,m,kb,h=>by
  have h:(N.map (fun p=>(p,(k:Int)))++aF (k+1) r)[i]? =some (t,m):=h;show(i=0/\m=(k:Int))\/(0<i/\∃t' m',(N.map (fun p=>(p,(k:Int)))++aF (k+1) r)[i - 1]? =some (t',m')/\(m=m'\/m=m'+1))
  have hN:0<N.length:=gr.mpr (kb N (by simp));have lN:(N.map (fun p=>(p,(k:Int)))).length=N.length:=by simp
  have inN:∀j,j<N.length->∃t',(N.map (fun p=>(p,(k:Int)))++aF (k+1) r)[j]? =some (t',(k:Int)):=by intro j hj;refine⟨N[j],?_⟩;rw[gm (by omega),ax,bf hj];rfl
  by_cases c:i<N.length
  ·obtain⟨t',Cn⟩:=inN i c;rw[Cn]at h;cases h;by_cases i0:i=0
   ·exact .inl ⟨i0,rfl⟩
   ·obtain⟨t2,ht2⟩:=inN (i - 1) (by omega);exact .inr ⟨by omega,t2,_,ht2,.inl rfl⟩
  ·rw[dk (by omega),lN]at h;rcases vM r (k+1) (i - N.length) t m (fun x hx=>kb x (by simp[hx])) h with⟨e1,e2⟩|⟨e1,t',m',e2,e3⟩
   ·obtain⟨t2,ht2⟩:=inN (i - 1) (by omega);exact .inr ⟨by omega,t2,_,ht2,.inr (by omega)⟩
   ·refine .inr ⟨by omega,t',m',?_,e3⟩;rw[dk (by omega),lN,show i - 1 - N.length=i - N.length - 1 by omega];exact e2
structure qG(Ns:List (List T3))(i:Nat)(Fs:List (List T3)):Prop where
 eq:aF 0 Fs=(aF 0 Ns).take i
 ne:∀F∈Fs,F≠[]
theorem qG.start(Ns:List (List T3)):qG Ns 0 []:=⟨rfl,by simp⟩
theorem qG.done{Ns Fs:List (List T3)}(kb:∀N∈Ns,N≠[])(h:qG Ns (aF 0 Ns).length Fs):Fs=Ns:=by have e:=h.eq;rw[br (ay _)]at e;exact yN Fs Ns 0 h.ne kb e
theorem qG.step{Ns Fs:List (List T3)}(kb:∀N∈Ns,N≠[]){i:Nat}{t:T3}{m:Int}(h:qG Ns i Fs)(hi:(aF 0 Ns)[i]? =some (t,m)):
  (m=(Fs.length:Int)/\qG Ns (i+1) (Fs++[[]++[t]]))\/∃F L,Fs=F++[L]/\m=(F.length:Int)/\qG Ns (i+1) (F++[L++[t]]):=by
 have sj:=(ak.mp hi).1;have new:m=(Fs.length:Int)->qG Ns (i+1) (Fs++[[]++[t]]):=by
  intro em;refine⟨?_,fun F hF=>?_⟩
  ·rw[iY,h.eq,take_snoc hi,em];rfl
  ·rcases aw.mp hF with hF|hF
   ·exact h.ne F hF
   ·have:F=[t]:=by simpa using hF
    rw[this];simp
 rcases vM Ns 0 i t m kb hi with⟨i0,m0⟩|⟨ip,t',m',qh,hm⟩
 ·subst i0;have hF:Fs=[]:=by
   cases Fs with
   |nil=>rfl
   |cons F r=>
    have e:=h.eq;have:=h.ne F (by simp);cases F with
    |nil=>exact absurd rfl this
    |cons _ _=>simp[aF]at e
  subst hF;exact .inl ⟨by rw[m0];rfl,new (by rw[m0];rfl)⟩
 ·have Cy:Fs≠[]:=by intro z;have e:=h.eq;rw[z]at e;have:=congrArg List.length e;rw[bw]at this;simp[aF]at this;omega
  obtain⟨F,L,eF⟩:∃F L,Fs=F++[L]:=⟨Fs.dropLast,Fs.getLast Cy,(jg Cy).symm⟩
  subst eF;have hL:L≠[]:=h.ne L (by simp);have e:=h.eq;rw[iY]at e;have el:(aF 0 F++L.map fun p=>(p,(F.length:Int))).length=i:=by rw[e,bw];omega
  have hLp:0<L.length:=gr.mpr hL;have yu:(aF 0 F++L.map fun p=>(p,(F.length:Int)))[i - 1]? =some (L[L.length - 1],(F.length:Int)):=by rw[aj,ag]at el;rw[dk (by omega),ax,show i - 1 - (aF 0 F).length=L.length - 1 by omega,bf (by omega)];rfl
  rw[e,gb (by omega),qh]at yu;cases yu;rcases hm with hm|hm
  ·refine .inr ⟨F,L,rfl,hm,?_,fun G hG=>?_⟩
   ·rw[iY,cg,<- dv,e,take_snoc hi,hm];rfl
   ·rcases aw.mp hG with hG|hG
    ·exact h.ne G (by simp[hG])
    ·have:G=L++[t]:=by simpa using hG
     rw[this];simp
  ·have em:m=((F++[L]).length:Int):=by rw[hm,aj];simp
   exact .inl ⟨em,new em⟩
section
variable {i j s:Int}{t u:List Int}
theorem B7{t:List Int}{f:Top->RoofB.Answer}(h:houseOf (RoofBNeutral.text t)=none):RoofB.ofTop (RoofBNeutral.text t) f=[-1]:=by unfold RoofB.ofTop;rw[h];rfl
theorem B6{t:List Int}{f:Top->RoofB.Answer}{l:Cells}(h:houseOf (RoofBNeutral.text t)=some l):RoofB.ofTop (RoofBNeutral.text t) f=f (topOf l):=by unfold RoofB.ofTop;rw[h]
end
theorem FO{h:List Nat}{p:Pl}(m:p∈h.map hP):aN (bX h) p=some (aS h p):=by unfold bX;rw[j7,ah m]
theorem A6.at{h:List Nat}{ht:List (Pl×Int)}{p:Pl}(o:A6 h ht)(m:p∈h.map hP){c:Nat}(hc:c<5):aN ht (aC p c)=some (hgt h (aC p c)):=by
 obtain⟨r,hr,rfl⟩:=au.mp m;by_cases c4:c<4
 ·exact o.all r hr c c4
 ·have e:c=4:=by omega
  subst e;exact o.all r hr 0 (by decide)
theorem zO{h:List Nat}{t:T3}(h0:0<=t.2.2)(h4:t.2.2<4):(aN (c6 h) t).isSome=true↔(t.1,t.2.1)∈h.map hP:=by
 rw[aW];unfold c6;rw[gU];unfold fR;rw[bx];constructor
 ·rintro⟨p,hp,ht⟩;simp only[ar,gg,or_false]at ht;rcases ht with rfl|rfl|rfl|rfl<;>exact hp
 ·intro hp;refine⟨_,hp,?_⟩;have cs:t.2.2=0\/t.2.2=1\/t.2.2=2\/t.2.2=3:=by omega
  obtain⟨a,b,c⟩:=t;simp only at cs;rcases cs with rfl|rfl|rfl|rfl<;>simp
theorem AI{h:List Nat}{t:T3}(h0:0<=t.2.2)(h4:t.2.2<4):t∈fR (h.map hP)↔(t.1,t.2.1)∈h.map hP:=by rw[<- zO h0 h4,aW];unfold c6;rw[gU]
theorem FJ{h:List Nat}{t:T3}(h0:0<=t.2.2)(h4:t.2.2<4)(m:(t.1,t.2.1)∈h.map hP):aN (c6 h) t=some (e7 h t):=by unfold c6;rw[j7,ah ((AI h0 h4).mpr m)]
theorem xZ{h:List Nat}(hh:∀r∈h,okR r){r s:Nat}(hr:r∈h)(hs:s<4):aK (hP r) s∈h.map hP↔beyond r s∈h:=by
 constructor
 ·intro q;obtain⟨x,hx,e⟩:=au.mp q;exact((oY hh (hh r hr) (hh x hx) hs).mp e)▸hx
 ·intro q;exact au.mpr ⟨_,q,(oY hh (hh r hr) (hh _ q) hs).mpr rfl⟩
theorem CU{k d:Int}(h0:0<=k)(a:-(k+1)<=d)(b:d<=k+1):∃s:Int,(-1<=s/\s<=1)/\-k<=d - s/\d - s<=k:=by
 by_cases c1:d=k+1
 ·exact⟨1,by decide,by omega,by omega⟩
 ·by_cases c2:d=-(k+1)
  ·exact⟨-1,by decide,by omega,by omega⟩
  ·exact⟨0,by decide,by omega,by omega⟩
section
variable {hs:List Pl}
theorem F1:∀{k:Nat}{p:Pl},p∈aO hs (k+1)->p∈aO hs k:=fun h=>(cf.mp h).1
theorem yV{p:Pl}:∀{k m:Nat},k<=m->p∈aO hs m->p∈aO hs k:=by
 intro k m hkm h;induction m with
 |zero=>rw[show k=0 by omega];exact h
 |succ m ih=>
  by_cases c:k=m+1
  ·rw[c];exact h
  ·exact ih (by omega) (F1 h)
theorem vP:∀(k:Nat)(p:Pl),p∈aO hs k↔∀dx dy:Int,-(k:Int)<=dx->dx<=k->-(k:Int)<=dy->dy<=k->(p.1+dx,p.2+dy)∈hs
 |0,p=>by
  constructor
  ·intro h dx dy a b c d;have e1:dx=0:=by omega
   have e2:dy=0:=by omega
   subst e1 e2;have:(p.1+0,p.2+0)=p:=by simp
   rw[this];exact h
  ·intro h;have:=h 0 0 (by omega) (by omega) (by omega) (by omega);have e:(p.1+0,p.2+0)=p:=by simp
   rw[e]at this;exact this
 |k+1,p=>by
  have ih:=vP k;show p∈(aO hs k).filter _↔ _
  rw[cf];simp only[ir,je];constructor
  ·rintro⟨h0,h8⟩ dx dy a b c d;have near:∀sx sy:Int,(-1<=sx/\sx<=1)->(-1<=sy/\sy<=1)->(p.1+sx,p.2+sy)∈aO hs k:=by
    intro sx sy hx hy;have cx:sx=-1\/sx=0\/sx=1:=by omega
    have cy:sy=-1\/sy=0\/sy=1:=by omega
    rcases cx with rfl|rfl|rfl<;>rcases cy with rfl|rfl|rfl
    ·exact h8 _ (by simp[cP])
    ·exact h8 _ (by simp[cP])
    ·exact h8 _ (by simp[cP])
    ·exact h8 _ (by simp[cP])
    ·have:(p.1+0,p.2+0)=p:=by simp
     rw[this];exact h0
    ·exact h8 _ (by simp[cP])
    ·exact h8 _ (by simp[cP])
    ·exact h8 _ (by simp[cP])
    ·exact h8 _ (by simp[cP])
   obtain⟨sx,hx,x1,x2⟩:=CU (gc k) a b;obtain⟨sy,hy,y1,y2⟩:=CU (gc k) c d;have:=(ih _).mp (near sx sy hx hy) (dx - sx) (dy - sy) x1 x2 y1 y2;have e:(p.1+sx+(dx - sx),p.2+sy+(dy - sy))=(p.1+dx,p.2+dy):=by
    apply Prod.ext
    ·show p.1+sx+(dx - sx)=p.1+dx;omega
    ·show p.2+sy+(dy - sy)=p.2+dy;omega
   rw[e]at this;exact this
  ·intro h;have sub:∀sx sy:Int,(-1<=sx/\sx<=1)->(-1<=sy/\sy<=1)->(p.1+sx,p.2+sy)∈aO hs k:=by
    intro sx sy hx hy;refine(ih _).mpr fun dx dy a b c d=>?_
    have:=h (sx+dx) (sy+dy) (by omega) (by omega) (by omega) (by omega);have e:(p.1+sx+dx,p.2+sy+dy)=(p.1+(sx+dx),p.2+(sy+dy)):=by rw[Int.add_assoc,Int.add_assoc]
    show(p.1+sx+dx,p.2+sy+dy)∈hs
    rw[e];exact this
   refine⟨?_,fun q hq=>?_⟩
   ·have:=sub 0 0 (by omega) (by omega);have e:(p.1+0,p.2+0)=p:=by simp
    rw[e]at this;exact this
   ·simp only[cP,ar,gg,or_false]at hq;rcases hq with rfl|rfl|rfl|rfl|rfl|rfl|rfl|rfl<;>exact sub _ _ (by omega) (by omega)
theorem DP:∀(n k:Nat)(p:Pl),k<n->((k:Int)<=gG hs n p↔p∈aO hs k)
 |0,k,p,h=>by omega
 |n+1,k,p,h=>by
  show(k:Int)<=(if p∈aO hs n then(n:Int)else gG hs n p)↔ _
  by_cases c:p∈aO hs n
  ·rw[ah c];exact⟨fun _=>yV (by omega) c,fun _=>by omega⟩
  ·rw[af c];by_cases e:k=n
   ·subst e;refine⟨fun q=>?_,fun q=>absurd q c⟩;exfalso;have:∀m:Nat,gG hs m p<m:=by
     intro m;induction m with
     |zero=>show(-1:Int)<0;decide
     |succ m ih=>
      show(if p∈aO hs m then(m:Int)else gG hs m p)< _
      split<;>omega
    have:=this k;omega
   ·exact DP n k p (by omega)
theorem xN(p:Pl):∀m:Nat,-1<=gG hs m p/\gG hs m p<m
 |0=>⟨by show(-1:Int)<=-1;decide,by show(-1:Int)<0;decide⟩
 |m+1=>by
  have ih:=xN p m;show -1<=(if p∈aO hs m then(m:Int)else gG hs m p)/\(if p∈aO hs m then(m:Int)else gG hs m p)< _
  split<;>omega
end
section
variable {h:List Nat} (hh:∀r∈h,okR r)
include hh
theorem C5(k:Nat)(p:Pl):(k:Int)<=aS h p↔∀dx dy:Int,-(k:Int)<=dx->dx<=k->-(k:Int)<=dy->dy<=k->(p.1+dx,p.2+dy)∈h.map hP:=by
 rw[<- vP];unfold aS;by_cases c:p∈h.map hP
 ·rw[ah c];by_cases ck:k<64
  ·exact DP 64 k p ck
  ·constructor
   ·intro q;have:=(xN (hs:=h.map hP) p 64).2;omega
   ·intro q;rw[dC hh,eT hh (by omega)]at q;cases q
 ·rw[af c];constructor
  ·intro q;omega
  ·intro q;exact absurd (yV (k:=0) (cj _) q) c
theorem tY(p:Pl):-1<=aS h p/\aS h p<64:=by
 unfold aS;split
 ·exact xN p 64
 ·omega
theorem jS(p:Pl):0<=aS h p↔p∈h.map hP:=by
 have:=C5 hh 0 p;rw[show((0:Nat):Int)=0 from rfl]at this;rw[this];constructor
 ·intro q;have:=q 0 0 (by omega) (by omega) (by omega) (by omega);have e:(p.1+0,p.2+0)=p:=by simp
  rwa [e]at this
 ·intro q dx dy a b c d;have e1:dx=0:=by omega
  have e2:dy=0:=by omega
  subst e1 e2;have e:(p.1+0,p.2+0)=p:=by simp
  rw[e];exact q
theorem lY{p:Pl}{k:Int}(h1:aS h p<k)(h0:0<=k):∃q:Pl,q∉h.map hP/\-k<=q.1 - p.1/\q.1 - p.1<=k/\-k<=q.2 - p.2/\q.2 - p.2<=k:=by
 obtain⟨n,rfl⟩:∃n:Nat,k=n:=⟨k.toNat,by omega⟩
 have:=(not_congr (C5 hh n p)).mp (by omega);apply Classical.byContradiction;intro c;apply this;intro dx dy a b e f;apply Classical.byContradiction;intro g;exact c ⟨_,g,by simp;omega,by simp;omega,by simp;omega,by simp;omega⟩
theorem fK{p q:Pl}{k:Int}(hq:q∉h.map hP)(a:-k<=q.1 - p.1)(b:q.1 - p.1<=k)(c:-k<=q.2 - p.2)(d:q.2 - p.2<=k):aS h p<k:=by
 apply Classical.byContradiction;intro g;obtain⟨n,rfl⟩:∃n:Nat,k=n:=⟨k.toNat,by omega⟩
 have:=(C5 hh n p).mp (by omega) (q.1 - p.1) (q.2 - p.2) a b c d;have e:(p.1+(q.1 - p.1),p.2+(q.2 - p.2))=q:=by
  apply Prod.ext
  ·show p.1+(q.1 - p.1)=q.1;omega
  ·show p.2+(q.2 - p.2)=q.2;omega
 rw[e]at this;exact hq this
end
theorem pX{l:Cells}(hb:∀c∈l,c.1<64/\c.2<64)(q:Pl):q∈(halvesOf l).map hP↔(q.1/2,q.2/2)∈iW l:=by
 have e:q∈(halvesOf l).map hP↔q∈eY (iW l):=by
  rw[vA hb,au,au];constructor
  ·rintro⟨r,hr,z⟩;exact⟨r,mS.mp hr,z⟩
  ·rintro⟨r,hr,z⟩;exact⟨r,mS.mpr hr,z⟩
 rw[e];unfold eY;rw[bx];constructor
 ·rintro⟨c,hc,hq⟩;have:(q.1/2,q.2/2)=c:=by simp only[ar,gg,or_false]at hq;rcases hq with rfl|rfl|rfl|rfl<;>(apply Prod.ext<;>(dsimp only;omega))
  rw[this];exact hc
 ·intro hc;refine⟨_,hc,?_⟩;simp only[ar,gg,or_false,Prod.ext_iff];omega
section
variable {l:Cells} (hb:∀c∈l,c.1<64/\c.2<64)
include hb
theorem IC{q:Pl}(h:q∉ (halvesOf l).map hP)(x:Int)(e:x/2=q.1/2):(x,q.2)∉ (halvesOf l).map hP:=by rw[pX hb]at h ⊢;dsimp only;rw[e];exact h
theorem IB{q:Pl}(h:q∉ (halvesOf l).map hP)(y:Int)(e:y/2=q.2/2):(q.1,y)∉ (halvesOf l).map hP:=by rw[pX hb]at h ⊢;dsimp only;rw[e];exact h
abbrev nb(l:Cells)(p:Pl)(dx dy:Int):Int:=aS (halvesOf l) (p.1+dx,p.2+dy)
variable {p:Pl}
theorem MJ{d:Int}{dx dy:Int}(h:nb l p dx dy<d)(h0:0<=d):∃q:Pl,q∉ (halvesOf l).map hP/\-d<=q.1 - p.1 - dx/\q.1 - p.1 - dx<=d/\-d<=q.2 - p.2 - dy/\q.2 - p.2 - dy<=d:=by obtain⟨q,h1,h2,h3,h4,h5⟩:=lY (aP hb) (p:=(p.1+dx,p.2+dy)) h h0;dsimp only at h2 h3 h4 h5;exact⟨q,h1,by omega,by omega,by omega,by omega⟩
theorem S7(dx dy:Int)(hx:-1<=dx/\dx<=1)(hy:-1<=dy/\dy<=1):aS (halvesOf l) p - 1<=nb l p dx dy:=by apply Classical.byContradiction;intro c;have lo:=(tY (aP hb) (p.1+dx,p.2+dy)).1;obtain⟨q,h1,h2,h3,h4,h5⟩:=MJ hb (p:=p) (d:=aS (halvesOf l) p - 1) (dx:=dx) (dy:=dy) (by omega) (by have:nb l p dx dy=aS (halvesOf l) (p.1+dx,p.2+dy):=rfl;omega);have:=fK (aP hb) (p:=p) (k:=aS (halvesOf l) p) h1 (by omega) (by omega) (by omega) (by omega);omega
theorem N5{u:Pl}{d:Int}(h0:0<=d)(ku:d<=aS (halvesOf l) u)(out:aS (halvesOf l) (u.1+-1,u.2)<d):(u.1 - d - 1)%2=1:=by
 obtain⟨q,h1,h2,h3,h4,h5⟩:=lY (aP hb) out h0;dsimp only at h2 h3 h4 h5;have no:∀x,-d<=x - u.1->(x,q.2)∉ (halvesOf l).map hP->x - u.1<=d->False:=fun x a m b=>dz.mpr ku (fK (aP hb) (p:=u) (k:=d) m a b h4 h5)
 apply Classical.byContradiction;intro c;have ex:q.1 - u.1< -d:=iz.mp fun a=>no q.1 a h1 (by omega)
 exact no (q.1+1) (by omega) (IC hb h1 _ (by omega)) (by omega)
theorem N8{u:Pl}{d:Int}(h0:0<=d)(ku:d<=aS (halvesOf l) u)(out:aS (halvesOf l) (u.1+1,u.2)<d):(u.1+d+1)%2=0:=by
 obtain⟨q,h1,h2,h3,h4,h5⟩:=lY (aP hb) out h0;dsimp only at h2 h3 h4 h5;have no:∀x,-d<=x - u.1->(x,q.2)∉ (halvesOf l).map hP->x - u.1<=d->False:=fun x a m b=>dz.mpr ku (fK (aP hb) (p:=u) (k:=d) m a b h4 h5)
 apply Classical.byContradiction;intro c;have ex:d<q.1 - u.1:=iz.mp fun a=>no q.1 (by omega) h1 a
 exact no (q.1 - 1) (by omega) (IC hb h1 _ (by omega)) (by omega)
theorem N6{u:Pl}{d:Int}(h0:0<=d)(ku:d<=aS (halvesOf l) u)(out:aS (halvesOf l) (u.1,u.2+-1)<d):(u.2 - d - 1)%2=1:=by
 obtain⟨q,h1,h2,h3,h4,h5⟩:=lY (aP hb) out h0;dsimp only at h2 h3 h4 h5;have no:∀x,-d<=x - u.2->(q.1,x)∉ (halvesOf l).map hP->x - u.2<=d->False:=fun x a m b=>dz.mpr ku (fK (aP hb) (p:=u) (k:=d) m h2 h3 a b)
 apply Classical.byContradiction;intro c;have ex:q.2 - u.2< -d:=iz.mp fun a=>no q.2 a h1 (by omega)
 exact no (q.2+1) (by omega) (IB hb h1 _ (by omega)) (by omega)
theorem N7{u:Pl}{d:Int}(h0:0<=d)(ku:d<=aS (halvesOf l) u)(out:aS (halvesOf l) (u.1,u.2+1)<d):(u.2+d+1)%2=0:=by
 obtain⟨q,h1,h2,h3,h4,h5⟩:=lY (aP hb) out h0;dsimp only at h2 h3 h4 h5;have no:∀x,-d<=x - u.2->(q.1,x)∉ (halvesOf l).map hP->x - u.2<=d->False:=fun x a m b=>dz.mpr ku (fK (aP hb) (p:=u) (k:=d) m h2 h3 a b)
 apply Classical.byContradiction;intro c;have ex:d<q.2 - u.2:=iz.mp fun a=>no q.2 (by omega) h1 a
 exact no (q.2 - 1) (by omega) (IB hb h1 _ (by omega)) (by omega)
omit hb in
theorem LH(x:Int):x+0=x:=Int.add_zero x
omit hb in
theorem pB{x d:Int}(a:(x - d - 1)%2=1)(b:(x+d+1)%2=0):False:=by omega
theorem AO{t d:Int}(h0:0<=d)(ku:d<=nb l p 0 t)(out:nb l p (-1) t<d):(p.1 - d - 1)%2=1:=N5 hb (u:=(p.1,p.2+t)) h0 (by unfold nb at ku;rw[LH]at ku;exact ku) out
theorem AQ{t d:Int}(h0:0<=d)(ku:d<=nb l p 0 t)(out:nb l p 1 t<d):(p.1+d+1)%2=0:=N8 hb (u:=(p.1,p.2+t)) h0 (by unfold nb at ku;rw[LH]at ku;exact ku) out
theorem GP{t d:Int}(h0:0<=d)(ku:d<=nb l p t 0)(out:nb l p t (-1)<d):(p.2 - d - 1)%2=1:=N6 hb (u:=(p.1+t,p.2)) h0 (by unfold nb at ku;rw[LH p.2]at ku;exact ku) out
theorem GQ{t d:Int}(h0:0<=d)(ku:d<=nb l p t 0)(out:nb l p t 1<d):(p.2+d+1)%2=0:=N7 hb (u:=(p.1+t,p.2)) h0 (by unfold nb at ku;rw[LH p.2]at ku;exact ku) out
theorem CN{sy:Int}(hs:-1<=sy/\sy<=1){d:Int}(h0:0<=d)(hp:d<=nb l p 0 0)(zq:d<=nb l p 0 sy)(hw:nb l p (-1) 0<d\/nb l p (-1) sy<d)(he:nb l p 1 0<d\/nb l p 1 sy<d):False:=
 pB (hw.elim (AO hb h0 hp) (AO hb h0 zq)) (he.elim (AQ hb h0 hp) (AQ hb h0 zq))
theorem CM{sx:Int}(hs:-1<=sx/\sx<=1){d:Int}(h0:0<=d)(hp:d<=nb l p 0 0)(zq:d<=nb l p sx 0)(hw:nb l p 0 (-1)<d\/nb l p sx (-1)<d)(he:nb l p 0 1<d\/nb l p sx 1<d):False:=
 pB (hw.elim (GP hb h0 hp) (GP hb h0 zq)) (he.elim (GQ hb h0 hp) (GQ hb h0 zq))
theorem LV{sy:Int}(hs:sy=1\/sy=-1){d:Int}(h0:0<=d)(hW:d<=nb l p (-1) 0)(hE:d<=nb l p 1 0)(hU:d<=nb l p 0 sy)(hD:d<=nb l p 0 (-sy))(h1:nb l p (-1) (-sy)<d)(h2:nb l p 1 sy<d):False:=
 pB (AO hb h0 hD h1) (AQ hb h0 hU h2)
theorem EJ(hp:p∈(halvesOf l).map hP):∃dx dy:Int,(-1<=dx/\dx<=1)/\(-1<=dy/\dy<=1)/\nb l p dx dy<aS (halvesOf l) p:=by have d0:=(jS (aP hb) p).mpr hp;obtain⟨q,h1,h2,h3,h4,h5⟩:=lY (aP hb) (p:=p) (k:=aS (halvesOf l) p+1) (by omega) (by omega);obtain⟨dx,hx,x1,x2⟩:=CU d0 h2 h3;obtain⟨dy,hy,y1,y2⟩:=CU d0 h4 h5;refine⟨dx,dy,hx,hy,?_⟩;exact fK (aP hb) (p:=(p.1+dx,p.2+dy)) h1 (by dsimp only;omega) (by dsimp only;omega) (by dsimp only;omega) (by dsimp only;omega)
end
section
variable {l:Cells} (hb:∀c∈l,c.1<64/\c.2<64)
include hb
omit hb in
theorem BB(x y:Int):min x y=x\/min x y=y:=(Int.le_total x y).imp Int.min_eq_left Int.min_eq_right
theorem nY{r c:Nat}(hr:r∈halvesOf l):∀{a b d e:Int},cR (halvesOf l) (aC (hP r) c)=[a,b,d,e]->hgt (halvesOf l) (aC (hP r) c)=min (min a b) (min d e):=by
 intro a b d e h;refine(DH (aP hb) hr ?_ ?_).symm
 ·rw[h];simp only[ar,gg,or_false];rcases BB (min a b) (min d e)with q|q
  ·rw[q];exact(BB a b).elim .inl fun q=>.inr (.inl q)
  ·rw[q];exact(BB d e).elim (fun q=>.inr (.inr (.inl q))) fun q=>.inr (.inr (.inr q))
 ·rw[h];intro x hx;simp only[ar,gg,or_false]at hx;rcases hx with rfl|rfl|rfl|rfl
  ·exact jd (ib _ _) (ib _ _)
  ·exact jd (ib _ _) (gw _ _)
  ·exact jd (gw _ _) (ib _ _)
  ·exact jd (gw _ _) (gw _ _)
theorem C7{r:Nat}(hr:r∈halvesOf l):∃d,aS (halvesOf l) (hP r)=d/\0<=d/\d<64/\nb l (hP r) 0 0=d/\(∀dx dy:Int,(-1<=dx/\dx<=1)->(-1<=dy/\dy<=1)->d - 1<=nb l (hP r) dx dy)/\
  hgt (halvesOf l) (aC (hP r) 0)=min (min (nb l (hP r) (-1) (-1)+1) (nb l (hP r) 0 (-1)+1)) (min (nb l (hP r) (-1) 0+1) (d+1))/\
  hgt (halvesOf l) (aC (hP r) 1)=min (min (nb l (hP r) 0 (-1)+1) (nb l (hP r) 1 (-1)+1)) (min (d+1) (nb l (hP r) 1 0+1))/\
  hgt (halvesOf l) (aC (hP r) 2)=min (min (d+1) (nb l (hP r) 1 0+1)) (min (nb l (hP r) 0 1+1) (nb l (hP r) 1 1+1))/\
  hgt (halvesOf l) (aC (hP r) 3)=min (min (nb l (hP r) (-1) 0+1) (d+1)) (min (nb l (hP r) (-1) 1+1) (nb l (hP r) 0 1+1)):=by
 have e0:nb l (hP r) 0 0=aS (halvesOf l) (hP r):=by
  show aS _ ((hP r).1+0,(hP r).2+0)=_
  simp
 have m:=(tY (aP hb) (hP r)).2;have i0:=(jS (aP hb) (hP r)).mpr (au.mpr ⟨r,hr,rfl⟩);refine⟨_,rfl,i0,m,e0,fun dx dy hx hy=>S7 hb dx dy hx hy,?_,?_,?_,?_⟩
 ·refine nY hb hr ?_;unfold cR nb;have c0:aC (hP r) 0=((hP r).1,(hP r).2):=by unfold aC;simp
  rw[c0];simp
 ·refine nY hb hr ?_;unfold cR nb;have c0:aC (hP r) 1=((hP r).1+1,(hP r).2):=by unfold aC;simp
  rw[c0];simp[jq]
 ·refine nY hb hr ?_;unfold cR nb;have c0:aC (hP r) 2=((hP r).1+1,(hP r).2+1):=by unfold aC;simp
  rw[c0];simp[jq]
 ·refine nY hb hr ?_;unfold cR nb;have c0:aC (hP r) 3=((hP r).1,(hP r).2+1):=by unfold aC;simp
  rw[c0];simp[jq]
noncomputable def c8(l:Cells)(p:Pl)(c:Nat):Prop:=hgt (halvesOf l) (aC p c)=aS (halvesOf l) p
omit hb in
theorem S9(a b c d:Int):min (min a b) (min c d)=min (min a c) (min d b):=by rw[min_assoc,min_assoc,min_comm b,min_assoc]
omit hb in
theorem X6(a b c d:Int):min (min a b) (min c d)=min (min a c) (min d b):=S9 a b c d
omit hb in
theorem oI{a b c d:Int}(ha:d - 1<=a)(hc:d - 1<=b)(hd:d - 1<=c){x:Int}(e:x=min (min (a+1) (b+1)) (min (c+1) (d+1))):(x=d↔(a<d\/b<d\/c<d))/\(x=d\/x=d+1):=by
 have l1:x<=a+1:=e▸jd (ib _ _) (ib _ _);have l2:x<=b+1:=e▸jd (ib _ _) (gw _ _);have l3:x<=c+1:=e▸jd (gw _ _) (ib _ _);have l4:x<=d+1:=e▸jd (gw _ _) (gw _ _);have g:d<=x:=e▸le_min.mpr ⟨le_min.mpr ⟨jh ha,jh hc⟩,le_min.mpr ⟨jh hd,Int.le_of_lt (Int.lt_add_one_iff.mpr (le_refl d))⟩⟩;have two:x=d\/x=d+1:=by omega
 have big:¬(a<d\/b<d\/c<d)->x=d+1:=fun n=>by
  have na:d<=a:=dz.mp fun z=>n (.inl z)
  have nb:d<=b:=dz.mp fun z=>n (.inr (.inl z))
  have nc:d<=c:=dz.mp fun z=>n (.inr (.inr z))
  exact Int.le_antisymm l4 (e▸le_min.mpr ⟨le_min.mpr ⟨Int.add_le_add_right na 1,Int.add_le_add_right nb 1⟩,le_min.mpr ⟨Int.add_le_add_right nc 1,le_refl _⟩⟩)
 refine⟨⟨fun q=>?_,fun q=>?_⟩,two⟩
 ·apply Classical.byContradiction;intro n;have:=big n;omega
 ·rcases q with q|q|q<;>omega
omit hb in
theorem hZ{d x:Int}(h:d - 1<=x)(g:x<d):x=d - 1:=by omega
theorem lT{r:Nat}(hr:r∈halvesOf l):∃d,aS (halvesOf l) (hP r)=d/\0<=d/\d<64/\nb l (hP r) 0 0=d/\(∀dx dy:Int,(-1<=dx/\dx<=1)->(-1<=dy/\dy<=1)->d - 1<=nb l (hP r) dx dy)/\
  (c8 l (hP r) 0↔(nb l (hP r) (-1) (-1)<d\/nb l (hP r) 0 (-1)<d\/nb l (hP r) (-1) 0<d))/\(c8 l (hP r) 1↔(nb l (hP r) 0 (-1)<d\/nb l (hP r) 1 (-1)<d\/nb l (hP r) 1 0<d))/\
  (c8 l (hP r) 2↔(nb l (hP r) 1 0<d\/nb l (hP r) 0 1<d\/nb l (hP r) 1 1<d))/\(c8 l (hP r) 3↔(nb l (hP r) (-1) 0<d\/nb l (hP r) (-1) 1<d\/nb l (hP r) 0 1<d))/\
  (∀c,c<4->hgt (halvesOf l) (aC (hP r) c)=d\/hgt (halvesOf l) (aC (hP r) c)=d+1):=by
 obtain⟨d,ed,d0,Ap,e0,ge,g0,g1,g2,g3⟩:=C7 hb hr;have f0:=oI (ge (-1) (-1) (by decide) (by decide)) (ge 0 (-1) (by decide) (by decide)) (ge (-1) 0 (by decide) (by decide)) g0;have f1:=oI (ge 0 (-1) (by decide) (by decide)) (ge 1 (-1) (by decide) (by decide)) (ge 1 0 (by decide) (by decide)) (g1.trans (by rw[min_comm (d+1)]));have f2:=oI (ge 1 0 (by decide) (by decide)) (ge 0 1 (by decide) (by decide)) (ge 1 1 (by decide) (by decide)) (x:=hgt (halvesOf l) (aC (hP r) 2)) (by rw[g2,min_comm (d+1),S9]);have f3:=oI (ge (-1) 0 (by decide) (by decide)) (ge (-1) 1 (by decide) (by decide)) (ge 0 1 (by decide) (by decide)) (x:=hgt (halvesOf l) (aC (hP r) 3)) (by rw[g3,X6]);unfold c8;rw[ed];refine⟨d,rfl,d0,Ap,e0,ge,f0.1,f1.1,f2.1,f3.1,fun c hc=>?_⟩;have cs:c=0\/c=1\/c=2\/c=3:=by clear g0 g1 g2 g3 f0 f1 f2 f3 ge;omega
 rcases cs with rfl|rfl|rfl|rfl
 ·exact f0.2
 ·exact f1.2
 ·exact f2.2
 ·exact f3.2
theorem IF{r s:Nat}(hr:r∈halvesOf l)(hs:s<4)(h1:c8 l (hP r) s)(h2:c8 l (hP r) ((s+1)%4)):aS (halvesOf l) (aK (hP r) s)=aS (halvesOf l) (hP r) - 1:=by
 obtain⟨d,ed,d0,Ap,e0,ge,l0,l1,l2,l3,_⟩:=lT hb hr;rw[ed];have cs:s=0\/s=1\/s=2\/s=3:=by clear l0 l1 l2 l3 ge;omega
 have e0':d<=nb l (hP r) 0 0:=Int.le_of_eq e0.symm;rcases cs with rfl|rfl|rfl|rfl
 ·rw[l0]at h1;rw[l1]at h2;have e:aK (hP r) 0=((hP r).1+0,(hP r).2+-1):=by unfold aK;simp;rfl
  rw[e];rcases lt_or_le (nb l (hP r) 0 (-1)) d with c|c
  ·exact hZ (ge 0 (-1) (by decide) (by decide)) c
  ·refine(CN hb (sy:=-1) (by decide) d0 e0' c ?_ ?_).elim
   ·rcases h1 with h|h|h
    ·exact .inr h
    ·exact absurd c (iz.mpr h)
    ·exact .inl h
   ·rcases h2 with h|h|h
    ·exact absurd c (iz.mpr h)
    ·exact .inr h
    ·exact .inl h
 ·rw[l1]at h1;rw[l2]at h2;have e:aK (hP r) 1=((hP r).1+1,(hP r).2+0):=by unfold aK;simp
  rw[e];rcases lt_or_le (nb l (hP r) 1 0) d with c|c
  ·exact hZ (ge 1 0 (by decide) (by decide)) c
  ·refine(CM hb (sx:=1) (by decide) d0 e0' c ?_ ?_).elim
   ·rcases h1 with h|h|h
    ·exact .inl h
    ·exact .inr h
    ·exact absurd c (iz.mpr h)
   ·rcases h2 with h|h|h
    ·exact absurd c (iz.mpr h)
    ·exact .inl h
    ·exact .inr h
 ·rw[l2]at h1;rw[l3]at h2;have e:aK (hP r) 2=((hP r).1+0,(hP r).2+1):=by unfold aK;simp
  rw[e];rcases lt_or_le (nb l (hP r) 0 1) d with c|c
  ·exact hZ (ge 0 1 (by decide) (by decide)) c
  ·refine(CN hb (sy:=1) (by decide) d0 e0' c ?_ ?_).elim
   ·rcases h2 with h|h|h
    ·exact .inl h
    ·exact .inr h
    ·exact absurd c (iz.mpr h)
   ·rcases h1 with h|h|h
    ·exact .inl h
    ·exact absurd c (iz.mpr h)
    ·exact .inr h
 ·rw[l3]at h1;rw[show(3+1)%4=0 from rfl,l0]at h2;have e:aK (hP r) 3=((hP r).1+-1,(hP r).2+0):=by unfold aK;simp;rfl
  rw[e];rcases lt_or_le (nb l (hP r) (-1) 0) d with c|c
  ·exact hZ (ge (-1) 0 (by decide) (by decide)) c
  ·refine(CM hb (sx:=-1) (by decide) d0 e0' c ?_ ?_).elim
   ·rcases h2 with h|h|h
    ·exact .inr h
    ·exact .inl h
    ·exact absurd c (iz.mpr h)
   ·rcases h1 with h|h|h
    ·exact absurd c (iz.mpr h)
    ·exact .inr h
    ·exact .inl h
end
noncomputable def fU(h:List Nat)(p:Pl):Option Nat:=
 match[decide (hgt h (aC p 0)=aS h p),decide (hgt h (aC p 1)=aS h p),decide (hgt h (aC p 2)=aS h p),decide (hgt h (aC p 3)=aS h p)]with
 |[true,false,false,false]=>some 0
 |[false,true,false,false]=>some 1
 |[false,false,true,false]=>some 2
 |[false,false,false,true]=>some 3
 |_=>none
theorem KC:∀b0 b1 b2 b3:Bool,(([!b0,!b1,!b2,!b3].countP fun(c:Bool)=>c)==3)=(([b0,b1,b2,b3].countP fun(c:Bool)=>c)==1):=by decide
theorem IH:∀b0 b1 b2 b3:Bool,(([b0,b1,b2,b3].countP fun(c:Bool)=>c)==1)=true->(match[b0,b1,b2,b3]with
 |[true,false,false,false]=>some 0
 |[false,true,false,false]=>some 1
 |[false,false,true,false]=>some 2
 |[false,false,false,true]=>some 3
 |_=>none)=some ([!b0,!b1,!b2,!b3].findIdx fun(c:Bool)=>!c):=by decide
theorem IG:∀b0 b1 b2 b3:Bool,(([b0,b1,b2,b3].countP fun(c:Bool)=>c)==1)=false->(match[b0,b1,b2,b3]with
 |[true,false,false,false]=>some 0
 |[false,true,false,false]=>some 1
 |[false,false,true,false]=>some 2
 |[false,false,false,true]=>some 3
 |_=>none)=none:=by decide
section
variable {l:Cells} (hb:∀c∈l,c.1<64/\c.2<64)
include hb
theorem KO{r:Nat}(hr:r∈halvesOf l):(topOf l).high r=[!decide (hgt (halvesOf l) (aC (hP r) 0)=aS (halvesOf l) (hP r)),!decide (hgt (halvesOf l) (aC (hP r) 1)=aS (halvesOf l) (hP r)),!decide (hgt (halvesOf l) (aC (hP r) 2)=aS (halvesOf l) (hP r)),!decide (hgt (halvesOf l) (aC (hP r) 3)=aS (halvesOf l) (hP r))]:=by
 obtain⟨d,ed,d0,Ap,e0,ge,l0,l1,l2,l3,two⟩:=lT hb hr;have ev:=w8 (aP hb) hr;have key:∀c,c<4->(heightOf (gridOf (halvesOf l)) r c==(gridOf (halvesOf l)).val r)=!decide (hgt (halvesOf l) (aC (hP r) c)=aS (halvesOf l) (hP r)):=by
  intro c hc;have tw:=two c hc;have eh:hgt (halvesOf l) (aC (hP r) c)=(heightOf (gridOf (halvesOf l)) r c:Int):=by rw[fL,pV];rfl
  rw[ed]at ev ⊢;rw[eh]at tw ⊢;clear l0 l1 l2 l3 ge two;rw[di];simp only[beq_iff_eq,ig,decide_eq_false_iff_not];omega
 show[heightOf (gridOf (halvesOf l)) r 0==(gridOf (halvesOf l)).val r,heightOf (gridOf (halvesOf l)) r 1==(gridOf (halvesOf l)).val r,heightOf (gridOf (halvesOf l)) r 2==(gridOf (halvesOf l)).val r,heightOf (gridOf (halvesOf l)) r 3==(gridOf (halvesOf l)).val r]=_
 rw[key 0 (by decide),key 1 (by decide),key 2 (by decide),key 3 (by decide)]
theorem uU{r:Nat}(hr:r∈halvesOf l):(if(topOf l).valley r=true then some (((topOf l).high r).findIdx fun(c:Bool)=>!c)else none)=fU (halvesOf l) (hP r):=by
 unfold Top.valley fU;rw[KO hb hr,KC];generalize decide (hgt (halvesOf l) (aC (hP r) 0)=aS (halvesOf l) (hP r))=b0;generalize decide (hgt (halvesOf l) (aC (hP r) 1)=aS (halvesOf l) (hP r))=b1;generalize decide (hgt (halvesOf l) (aC (hP r) 2)=aS (halvesOf l) (hP r))=b2;generalize decide (hgt (halvesOf l) (aC (hP r) 3)=aS (halvesOf l) (hP r))=b3;cases e:(([b0,b1,b2,b3].countP fun(c:Bool)=>c)==1)with
 |true=>rw[ah rfl];exact(IH b0 b1 b2 b3 e).symm
 |false=>rw[af bp];exact(IG b0 b1 b2 b3 e).symm
end
noncomputable def bAt(b0 b1 b2 b3:Bool)(c:Nat):Bool:=if c%4=0 then b0 else if c%4=1 then b1 else if c%4=2 then b2 else b3
noncomputable def zQ(b0 b1 b2 b3:Bool)(s:Nat):Nat:=if(bAt b0 b1 b2 b3 s&& bAt b0 b1 b2 b3 (s+1))=true then s else if bAt b0 b1 b2 b3 (s+1)=true then(s+1)%4 else if bAt b0 b1 b2 b3 s=true then(s+3)%4 else(s+2)%4
instance (l:Cells) (p:Pl) (c:Nat):Decidable (c8 l p c):=by unfold c8;infer_instance
section
variable {l:Cells} (hb:∀c∈l,c.1<64/\c.2<64)
include hb
theorem GN{r:Nat}(hr:r∈halvesOf l):c8 l (hP r) 0\/c8 l (hP r) 1\/c8 l (hP r) 2\/c8 l (hP r) 3:=by
 obtain⟨d,ed,d0,Ap,e0,ge,l0,l1,l2,l3,_⟩:=lT hb hr;obtain⟨dx,dy,hx,hy,h⟩:=EJ hb (p:=hP r) (au.mpr ⟨r,hr,rfl⟩);rw[ed]at h;have cx:dx=-1\/dx=0\/dx=1:=by clear l0 l1 l2 l3 ge h;omega
 have cy:dy=-1\/dy=0\/dy=1:=by clear l0 l1 l2 l3 ge h;omega
 rcases cx with rfl|rfl|rfl<;>rcases cy with rfl|rfl|rfl
 ·exact .inl (l0.mpr (.inl h))
 ·exact .inl (l0.mpr (.inr (.inr h)))
 ·exact .inr (.inr (.inr (l3.mpr (.inr (.inl h)))))
 ·exact .inl (l0.mpr (.inr (.inl h)))
 ·exact absurd h (dz.mpr (Int.le_of_eq e0.symm))
 ·exact .inr (.inr (.inl (l2.mpr (.inr (.inl h)))))
 ·exact .inr (.inl (l1.mpr (.inr (.inl h))))
 ·exact .inr (.inl (l1.mpr (.inr (.inr h))))
 ·exact .inr (.inr (.inl (l2.mpr (.inr (.inr h)))))
theorem I0{r:Nat}(hr:r∈halvesOf l):¬(c8 l (hP r) 0/\c8 l (hP r) 2/\¬c8 l (hP r) 1/\¬c8 l (hP r) 3)/\¬(c8 l (hP r) 1/\c8 l (hP r) 3/\¬c8 l (hP r) 0/\¬c8 l (hP r) 2):=by
 obtain⟨d,ed,d0,Ap,e0,ge,l0,l1,l2,l3,_⟩:=lT hb hr;rw[l0,l1,l2,l3];constructor
 ·rintro⟨h0,h2,n1,n3⟩;have a1:d<=nb l (hP r) 0 (-1):=dz.mp fun z=>n1 (.inl z)
  have a2:d<=nb l (hP r) 1 0:=dz.mp fun z=>n1 (.inr (.inr z))
  have a3:d<=nb l (hP r) (-1) 0:=dz.mp fun z=>n3 (.inl z)
  have a4:d<=nb l (hP r) 0 1:=dz.mp fun z=>n3 (.inr (.inr z))
  have b0:nb l (hP r) (-1) (-1)<d:=by
   rcases h0 with h|h|h
   ·exact h
   ·exact absurd h (dz.mpr a1)
   ·exact absurd h (dz.mpr a3)
  have b2:nb l (hP r) 1 1<d:=by
   rcases h2 with h|h|h
   ·exact absurd h (dz.mpr a2)
   ·exact absurd h (dz.mpr a4)
   ·exact h
  exact LV hb (sy:=1) (.inl rfl) d0 a3 a2 a4 a1 b0 b2
 ·rintro⟨h1,h3,n0,n2⟩;have a1:d<=nb l (hP r) 0 (-1):=dz.mp fun z=>n0 (.inr (.inl z))
  have a2:d<=nb l (hP r) 1 0:=dz.mp fun z=>n2 (.inl z)
  have a3:d<=nb l (hP r) (-1) 0:=dz.mp fun z=>n0 (.inr (.inr z))
  have a4:d<=nb l (hP r) 0 1:=dz.mp fun z=>n2 (.inr (.inl z))
  have b1:nb l (hP r) 1 (-1)<d:=by
   rcases h1 with h|h|h
   ·exact absurd h (dz.mpr a1)
   ·exact h
   ·exact absurd h (dz.mpr a2)
  have b3:nb l (hP r) (-1) 1<d:=by
   rcases h3 with h|h|h
   ·exact absurd h (dz.mpr a3)
   ·exact h
   ·exact absurd h (dz.mpr a4)
  exact LV hb (sy:=-1) (.inr rfl) d0 a3 a2 a1 a4 b3 b1
noncomputable def okF(b0 b1 b2 b3:Bool):Bool:=(b0||b1||b2||b3)&& (!(b0&& b2&& !b1&& !b3)&& (!(b1&& b3&& !b0&& !b2)&& (match[b0,b1,b2,b3]with
 |[true,false,false,false]=>some 0
 |[false,true,false,false]=>some 1
 |[false,false,true,false]=>some 2
 |[false,false,false,true]=>some 3
 |_=>(none:Option Nat))==none))
omit hb in
theorem KZ:∀(s:Fin 4)(b0 b1 b2 b3:Bool),okF b0 b1 b2 b3=true->bAt b0 b1 b2 b3 (zQ b0 b1 b2 b3 s.1)=true/\bAt b0 b1 b2 b3 ((zQ b0 b1 b2 b3 s.1+1)%4)=true/\zQ b0 b1 b2 b3 s.1<4:=by decide+kernel
omit hb in
theorem L0(b0 b1 b2 b3:Bool){s:Nat}(hs:s<4)(h1:(b0||b1||b2||b3)=true)(h2:(b0&& b2&& !b1&& !b3)=false)(h3:(b1&& b3&& !b0&& !b2)=false) (h4:(match[b0,b1,b2,b3]with
 |[true,false,false,false]=>some 0
 |[false,true,false,false]=>some 1
 |[false,false,true,false]=>some 2
 |[false,false,false,true]=>some 3
 |_=>(none:Option Nat))=none):bAt b0 b1 b2 b3 (zQ b0 b1 b2 b3 s)=true/\bAt b0 b1 b2 b3 ((zQ b0 b1 b2 b3 s+1)%4)=true/\zQ b0 b1 b2 b3 s<4:=KZ ⟨s,hs⟩ b0 b1 b2 b3 (by unfold okF;rw[h1,h2,h3,h4];rfl)
theorem vX{r s:Nat}(hr:r∈halvesOf l)(hs:s<4)(hn:fU (halvesOf l) (hP r)=none):∃f:Nat,f<4/\e7 (halvesOf l) ((hP r).1,(hP r).2,(s:Int))=(f:Int)/\aS (halvesOf l) (aK (hP r) f)=aS (halvesOf l) (hP r) - 1:=by
 have sl:=GN hb hr;obtain⟨x1,x2⟩:=I0 hb hr;have fe:e7 (halvesOf l) ((hP r).1,(hP r).2,(s:Int))=zP s (hgt (halvesOf l) (aC (hP r) s)) (hgt (halvesOf l) (aC (hP r) (s+1))) (aS (halvesOf l) (hP r)):=rfl;have at_:∀c,bAt (decide (c8 l (hP r) 0)) (decide (c8 l (hP r) 1)) (decide (c8 l (hP r) 2)) (decide (c8 l (hP r) 3)) c=decide (hgt (halvesOf l) (aC (hP r) c)=aS (halvesOf l) (hP r)):=by
  intro c;have m:aC (hP r) c=aC (hP r) (c%4):=by unfold aC;rw[mod_mod]
  rw[m];have cs:c%4=0\/c%4=1\/c%4=2\/c%4=3:=by clear sl x1 x2 fe m;omega
  unfold bAt;rcases cs with e|e|e|e<;>rw[e]<;>rfl
 have fb:zP s (hgt (halvesOf l) (aC (hP r) s)) (hgt (halvesOf l) (aC (hP r) (s+1))) (aS (halvesOf l) (hP r))=(zQ (decide (c8 l (hP r) 0)) (decide (c8 l (hP r) 1)) (decide (c8 l (hP r) 2)) (decide (c8 l (hP r) 3)) s:Int):=by unfold zP zQ;rw[at_ s,at_ (s+1)];by_cases a:hgt (halvesOf l) (aC (hP r) s)=aS (halvesOf l) (hP r)<;>by_cases b:hgt (halvesOf l) (aC (hP r) (s+1))=aS (halvesOf l) (hP r)<;>simp[a,b]
 have key:=L0 (decide (c8 l (hP r) 0)) (decide (c8 l (hP r) 1)) (decide (c8 l (hP r) 2)) (decide (c8 l (hP r) 3)) hs (by rcases sl with h|h|h|h<;>simp[h])
  (by rw[ij];intro h;simp only[dm,decide_eq_true_eq,ig,decide_eq_false_iff_not]at h;exact x1 ⟨h.1.1.1,h.1.1.2,h.1.2,h.2⟩)
  (by rw[ij];intro h;simp only[dm,decide_eq_true_eq,ig,decide_eq_false_iff_not]at h;exact x2 ⟨h.1.1.1,h.1.1.2,h.1.2,h.2⟩) hn
 obtain⟨k1,k2,k3⟩:=key;rw[at_]at k1 k2;exact⟨_,k3,fe.trans fb,IF hb hr k3 (bb k1) (bb k2)⟩
end
noncomputable def bQ(p:Pl)(c:Nat):Pl:=(2*(aC p c).1 - 1 - p.1,2*(aC p c).2 - 1 - p.2)
noncomputable def rY(h:List Nat)(t:T3):List Int ⊕ T3:=
 match fU h (t.1,t.2.1)with
 |some c=>if hgt h (aC (t.1,t.2.1) c)=0 then .inl [1,(aC (t.1,t.2.1) c).1,(aC (t.1,t.2.1) c).2]else .inr ((bQ (t.1,t.2.1) c).1,(bQ (t.1,t.2.1) c).2,t.2.2)
 |none=>if aK (t.1,t.2.1) (e7 h t).toNat∈h.map hP then .inr ((aK (t.1,t.2.1) (e7 h t).toNat).1,(aK (t.1,t.2.1) (e7 h t).toNat).2,(e7 h t+2)%4)else .inl [0,t.1,t.2.1,e7 h t]
noncomputable def jR:End->List Int
 | .eave t=>[0,(iOf (t/4):Int),(jOf (t/4):Int),((t%4:Nat):Int)]
 | .corner p=>[1,(p.1:Int),(p.2:Int)]
theorem yR:∀b0 b1 b2 b3:Bool,∀c:Nat,(match[b0,b1,b2,b3]with
 |[true,false,false,false]=>some 0
 |[false,true,false,false]=>some 1
 |[false,false,true,false]=>some 2
 |[false,false,false,true]=>some 3
 |_=>(none:Option Nat))=some c->(c=0/\b0=true/\b1=false/\b3=false)\/(c=1/\b1=true/\b0=false/\b2=false)\/(c=2/\b2=true/\b1=false/\b3=false)\/(c=3/\b3=true/\b0=false/\b2=false):=by
 intro b0 b1 b2 b3 c h;cases b0<;>cases b1<;>cases b2<;>cases b3<;>first|(cases h;done)|(cases h;decide)
section
variable {l:Cells} (hb:∀c∈l,c.1<64/\c.2<64)
include hb
theorem lX{r c:Nat}(hr:r∈halvesOf l)(hc:fU (halvesOf l) (hP r)=some c):c<4/\c8 l (hP r) c/\aS (halvesOf l) (bQ (hP r) c)=aS (halvesOf l) (hP r) - 1:=by
 obtain⟨d,ed,d0,Ap,e0,ge,l0,l1,l2,l3,_⟩:=lT hb hr;rcases yR _ _ _ _ c hc with⟨rfl,k,n1,n2⟩|⟨rfl,k,n1,n2⟩|⟨rfl,k,n1,n2⟩|⟨rfl,k,n1,n2⟩
 ·have k:c8 l (hP r) 0:=bb k;have n1:¬c8 l (hP r) 1:=of_decide_eq_false n1;have n2:¬c8 l (hP r) 3:=of_decide_eq_false n2;refine⟨by decide,k,?_⟩;have e:bQ (hP r) 0=((hP r).1+-1,(hP r).2+-1):=by unfold bQ aC;simp;clear l0 l1 l2 l3 ge;omega
  rw[e,ed];rcases l0.mp k with h|h|h
  ·exact hZ (ge (-1) (-1) (by decide) (by decide)) h
  ·exact absurd (l1.mpr (.inl h)) n1
  ·exact absurd (l3.mpr (.inl h)) n2
 ·have k:c8 l (hP r) 1:=bb k;have n1:¬c8 l (hP r) 0:=of_decide_eq_false n1;have n2:¬c8 l (hP r) 2:=of_decide_eq_false n2;refine⟨by decide,k,?_⟩;have e:bQ (hP r) 1=((hP r).1+1,(hP r).2+-1):=by unfold bQ aC;simp;clear l0 l1 l2 l3 ge;omega
  rw[e,ed];rcases l1.mp k with h|h|h
  ·exact absurd (l0.mpr (.inr (.inl h))) n1
  ·exact hZ (ge 1 (-1) (by decide) (by decide)) h
  ·exact absurd (l2.mpr (.inl h)) n2
 ·have k:c8 l (hP r) 2:=bb k;have n1:¬c8 l (hP r) 1:=of_decide_eq_false n1;have n2:¬c8 l (hP r) 3:=of_decide_eq_false n2;refine⟨by decide,k,?_⟩;have e:bQ (hP r) 2=((hP r).1+1,(hP r).2+1):=by unfold bQ aC;simp;clear l0 l1 l2 l3 ge;omega
  rw[e,ed];rcases l2.mp k with h|h|h
  ·exact absurd (l1.mpr (.inr (.inr h))) n1
  ·exact absurd (l3.mpr (.inr (.inr h))) n2
  ·exact hZ (ge 1 1 (by decide) (by decide)) h
 ·have k:c8 l (hP r) 3:=bb k;have n1:¬c8 l (hP r) 0:=of_decide_eq_false n1;have n2:¬c8 l (hP r) 2:=of_decide_eq_false n2;refine⟨by decide,k,?_⟩;have e:bQ (hP r) 3=((hP r).1+-1,(hP r).2+1):=by unfold bQ aC;simp;clear l0 l1 l2 l3 ge;omega
  rw[e,ed];rcases l3.mp k with h|h|h
  ·exact absurd (l0.mpr (.inr (.inr h))) n1
  ·exact hZ (ge (-1) 1 (by decide) (by decide)) h
  ·exact absurd (l2.mpr (.inr (.inl h))) n2
omit hb in
theorem JI{r q c:Nat}(hr:okR r)(hq:okR q)(hc:c<4)(e:hP q=bQ (hP r) c):q=across r c:=by
 obtain⟨i,j,hi,hj,rfl⟩:=hr;obtain⟨i',j',qh,vz,rfl⟩:=hq;rw[dD hi,dD qh]at e;have cs:c=0\/c=1\/c=2\/c=3:=by omega
 rcases cs with rfl|rfl|rfl|rfl<;>simp[bQ,aC,across,raw,W,Prod.ext_iff]at e ⊢ <;>omega
theorem mK{t:Nat}(ht:t∈(topOf l).tris):match(topOf l).goesOn t with
  | .inl e=>rY (halvesOf l) (tP t)=.inl (jR e)
  | .inr u=>u∈(topOf l).tris/\rY (halvesOf l) (tP t)=.inr (tP u)/\aS (halvesOf l) (hP (u/4))=aS (halvesOf l) (hP (t/4)) - 1:=by
 have hr:t/4∈halvesOf l:=cV.mp ht;have hh:=aP hb;have e1:((tP t).1,(tP t).2.1)=hP (t/4):=rfl;have s4:t%4<4:=mod_lt _ (by decide);have vx:=uU hb hr;unfold Top.goesOn rY;rw[e1];dsimp only;cases hi:fU (halvesOf l) (hP (t/4))with
 |some c=>
  rw[hi]at vx;obtain⟨c4,lc,dd⟩:=lX hb hr hi;by_cases v:(topOf l).valley (t/4)=true
  ·rw[ah v]at vx;have vx:=Option.some.inj vx;rw[ah v,vx];have ec:=fL (t/4) c;have eh:hgt (halvesOf l) (aC (hP (t/4)) c)=(heightAt (topOf l).grid (cornerOf (t/4) c).1 (cornerOf (t/4) c).2:Int):=by rw[ec,pV];rfl
   by_cases z:heightAt (topOf l).grid (cornerOf (t/4) c).1 (cornerOf (t/4) c).2=0
   ·rw[ah z];dsimp only;rw[ah (by rw[eh,z];rfl),ec];rfl
   ·rw[af z];dsimp only;rw[af (by rw[eh];omega)];have lc:hgt (halvesOf l) (aC (hP (t/4)) c)=aS (halvesOf l) (hP (t/4)):=lc;have hm:=(jS hh (bQ (hP (t/4)) c)).mp (by rw[dd,<- lc,eh];omega);obtain⟨q,hq,eq⟩:=au.mp hm;have qe:=JI (hh _ hr) (hh _ hq) c4 eq;have q4:(4*across (t/4) c+t%4)/4=across (t/4) c:=by omega
    have q5:(4*across (t/4) c+t%4)%4=t%4:=by omega
    refine⟨cV.mpr (by rw[q4,<- qe];exact hq),?_,by rw[q4,<- qe,eq,dd]⟩;unfold tP;rw[q4,q5,<- qe];have:bQ (hP (t/4)) c=((iOf q:Int),(jOf q:Int)):=eq.symm;rw[this]
  ·rw[af v]at vx;cases vx
 |none=>
  rw[hi]at vx;have v:¬(topOf l).valley (t/4)=true:=fun v=>by rw[ah v]at vx;cases vx
  rw[af v];obtain⟨f,f4,fv,dd⟩:=vX hb hr s4 hi;have ft:e7 (halvesOf l) (tP t)=(f:Int):=fv;have ff:(topOf l).faces t=f:=by have:=rO hh ht;rw[ft]at this;have e:(topOf l).faces t=(oO (halvesOf l)).getD t 4:=rfl;rw[e];omega
  rw[ff,ft];have tn:((f:Int)).toNat=f:=by omega
  rw[tn];have sm:=xZ hh hr f4;have gi:=rN hh (r:=beyond (t/4) f);have gv:(topOf l).grid.val (beyond (t/4) f)=(gridOf (halvesOf l)).val (beyond (t/4) f):=rfl;rw[gv];by_cases z:(gridOf (halvesOf l)).val (beyond (t/4) f)=0
  ·rw[ah z];have ni:aK (hP (t/4)) f∉ (halvesOf l).map hP:=fun q=>by have:=gi.mpr (sm.mp q);omega
   dsimp only;rw[af ni];unfold jR;have q4:(4*(t/4)+f)/4=t/4:=by omega
   have q5:(4*(t/4)+f)%4=f:=by omega
   dsimp only;rw[q4,q5];rfl
  ·rw[af z];have hq:beyond (t/4) f∈halvesOf l:=gi.mp (by omega);dsimp only;rw[ah (sm.mpr hq)];have eq:=(oY hh (hh _ hr) (hh _ hq) f4).mpr rfl;have q4:(4*beyond (t/4) f+(f+2)%4)/4=beyond (t/4) f:=by omega
   have q5:(4*beyond (t/4) f+(f+2)%4)%4=(f+2)%4:=by omega
   refine⟨cV.mpr (by rw[q4];exact hq),?_,by rw[q4,eq,dd]⟩;unfold tP;rw[q4,q5];have:aK (hP (t/4)) f=((iOf (beyond (t/4) f):Int),(jOf (beyond (t/4) f):Int)):=eq.symm;rw[this];congr 3
theorem DN:∀(n:Nat){t:Nat},t∈(topOf l).tris->aS (halvesOf l) (hP (t/4))<n->∃e,(topOf l).endFrom n t=some e
 |0,t,ht,h=>by have:=(jS (aP hb) (hP (t/4))).mpr (au.mpr ⟨_,cV.mp ht,rfl⟩);omega
 |n+1,t,ht,h=>by
  have w:=mK hb ht;unfold Top.endFrom;cases e:(topOf l).goesOn t with
  |inl x=>exact⟨x,rfl⟩
  |inr u=>rw[e]at w;obtain⟨h1,_,h3⟩:=w;exact DN n h1 (by rw[h3];omega)
theorem J8{t:Nat}(ht:t∈(topOf l).tris):∃e,(topOf l).endOf t=some e:=by have d:=(tY (aP hb) (hP (t/4))).2;exact DN hb _ ht (by have:((HALVES+1:Nat):Int)=129:=rfl;rw[this];omega)
end
noncomputable def StP(a b:Point):Prop:=∃e k,e<4/\0<k/\(e=2->k<=a.1)/\(e=3->k<=a.2)/\b=bI a e k
theorem D4(p:Point)(d:Nat):bI p d 0=p:=by unfold bI;split<;>(try split)<;>(try split)<;>simp
section
variable {l:Cells}
theorem d7(hp:pinched l=false):∀{sk seen:List Point},d6 l seen sk ->
  (∀w∈walksFrom l seen sk,∃p d r,Round l p ((p,d)::r)/\w=p::turns d r/\walkFeet w=(p,d)::r)/\(∀q d,outOf l q=some d->q∈seen\/(q,d)∈(walksFrom l seen sk).flatMap walkFeet)
 |[],seen,g=>⟨fun w hw=>by simp[walksFrom]at hw,fun q d h=>.inl ((g.all q d h).resolve_right (by simp))⟩
 |p::r,seen,g=>by
  by_cases hs:seen.contains p=true
  ·have e:walksFrom l seen (p::r)=walksFrom l seen r:=by
    show(if seen.contains p=true then _ else _)=_
    rw[ah hs]
   rw[e];exact d7 hp (g.skip (.inl (by simpa using hs)))
  ·cases ho:outOf l p with
   |none=>
    have e:walksFrom l seen (p::r)=walksFrom l seen r:=by
     show(if seen.contains p=true then _ else match outOf l p with|none=>_|some d=>_)=_
     rw[af hs,ho]
    rw[e];exact d7 hp (g.skip (.inr ho))
   |some d=>
    have e:walksFrom l seen (p::r)=cornersOf (follow l p (4*l.length+4) p d)::walksFrom l (seen++(follow l p (4*l.length+4) p d).map fun(x:Foot)=>x.1) r:=by
     show(if seen.contains p=true then _ else match outOf l p with|none=>_|some d=>_)=_
     rw[af hs,ho]
    obtain⟨R,fr,⟨r',er,ec⟩,ew,g2⟩:=g.step hp (by simpa using hs) ho rfl;obtain⟨h1,h2⟩:=d7 hp g2;rw[e];refine⟨fun w hw=>?_,fun q d' hq=>?_⟩
    ·rcases ar.mp hw with rfl|hw
     ·refine⟨p,d,r',er▸R,ec,?_⟩;rw[<- er];exact ew
     ·exact h1 w hw
    ·rw[dj,ew];rcases h2 q d' hq with h|h
     ·rcases aw.mp h with h|h
      ·exact .inl h
      ·obtain⟨x,hx,rfl⟩:=au.mp h;have:=R.way.out x hx;rw[hq]at this;cases this;exact .inr (cc _ hx)
     ·exact .inr (bh _ h)
theorem through:∀{r:List Foot}{p0 p' q0:Point}{d:Nat},Way l p' r q0->outOf l p0=some d->stepped p0 d=p'->∀q e,(q,e)∈r->q∉turns d r->∃z,outOf l z=some e/\stepped z e=q
 |[],p0,p',q0,d,hw,ho,hs,q,e,hm,hn=>by cases hm
 |(x,d2)::r,p0,p',q0,d,hw,ho,hs,q,e,hm,hn=>by
  cases hw with
  |cons h1 hw=>
   have sh:(d2≠d->q≠x)/\q∉turns d2 r:=by
    unfold turns at hn;by_cases c:d2=d
    ·rw[ah c]at hn;exact⟨fun z=>absurd c z,c▸hn⟩
    ·rw[af c]at hn;exact⟨fun _ z=>hn (z▸bj),fun z=>hn (aq _ z)⟩
   rcases ar.mp hm with z|hm
   ·cases z;by_cases c:d2=d
    ·subst c;exact⟨p0,ho,hs⟩
    ·exact absurd rfl (sh.1 c)
   ·exact through hw h1 rfl q e hm sh.2
theorem pD:∀{r:List Foot}{p p' q:Point}{d k:Nat},Way l p' r q->d<4->0<k->(d=2->k<=p.1)->(d=3->k<=p.2)->p'=bI p d k->∀x∈(p::turns d r).zip (turns d r++[q]),StP x.1 x.2
 |[],p,p',q,d,k,hw,hd,hk,h2,h3,e,x,hx=>by cases hw;have hx:x∈[(p,p')]:=hx;rw[iq.mp hx];exact⟨d,k,hd,hk,h2,h3,e⟩
 |(y,d2)::r,p,PP,q,d,k,hw,hd,hk,h2,h3,e,x,hx=>by
  cases hw with
  |cons h1 hw=>
   obtain⟨b2,b3⟩:=fG h1;obtain⟨xl,_⟩:=b8 h1;by_cases vd:d2=d
   ·subst vd;have et:turns d2 ((y,d2)::r)=turns d2 r:=by
     show(if d2=d2 then _ else _)=_
     rw[ah rfl]
    rw[et]at hx;refine pD (r:=r) (p:=p) (p':=stepped y d2) (k:=k+1) hw hd (Nat.succ_pos _) ?_ ?_ (by rw[e,dH hd]) x hx
    ·intro e2;have:=b2 e2;rw[e]at this;subst e2;simp[bI]at this;omega
    ·intro e3;have:=b3 e3;rw[e]at this;subst e3;simp[bI]at this;omega
   ·have et:turns d ((y,d2)::r)=y::turns d2 r:=by
     show(if d2=d then _ else _)=_
     rw[af vd]
    rw[et,jr,List.zip_cons_cons]at hx;rcases ar.mp hx with rfl|hx
    ·exact⟨d,k,hd,hk,h2,h3,e⟩
    ·refine pD (r:=r) (p:=y) (p':=stepped y d2) (q:=q) (d:=d2) (k:=1) hw xl (by decide) (fun z=>b2 z) (fun z=>b3 z) ?_ x hx;have:=dH (p:=y) (d:=d2) (k:=0) xl;rw[D4]at this;exact this
theorem uX(w:Walk):(sides w).map (·.1)=w:=by unfold sides;rw[List.map_fst_zip];rw[aj,fk,bw];omega
theorem E7(ws:List Walk):(wallsOf ws).map (·.1)=ws.flatten:=by
 unfold wallsOf;induction ws with
 |nil=>rfl
 |cons w ws ih=>rw[dj,cg,uX,ih,iw]
theorem mL(ws:List Walk):(wallsOf ws).flatMap (fun x=>feet x.1 x.2)=ws.flatMap walkFeet:=by
 unfold wallsOf;induction ws with
 |nil=>rfl
 |cons w ws ih=>rw[dj,gf,ih,dj];rfl
theorem gN(hp:pinched l=false):∀x∈wallsOf (walksOf l),StP x.1 x.2:=by
 intro x hx;obtain⟨w,hw,hx⟩:=bx.mp hx;obtain⟨p,d,r,R,e,ef⟩:=(d7 hp (d6.start l)).1 w hw;have hw':=R.way;cases hw' with
 |cons h1 h2=>
  obtain⟨b2,b3⟩:=fG h1;obtain⟨hd,_⟩:=b8 h1;refine pD (p:=p) (k:=1) h2 hd (by decide) (fun z=>b2 z) (fun z=>b3 z) ?_ x ?_
  ·have:=dH (p:=p) (d:=d) (k:=0) hd;rw[D4]at this;exact this
  ·rw[e]at hx;exact hx
theorem tW{a b:Point}(h:StP a b):∃e k,e<4/\0<k/\b=bI a e k/\feet a b=bM a e k/\(a,e)∈feet a b:=by obtain⟨e,k,he,hk,h2,h3,rfl⟩:=h;have f:=fO he h2 h3;refine⟨e,k,he,hk,rfl,f,?_⟩;rw[f];unfold bM;exact au.mpr ⟨0,by simpa using hk,by rw[D4]⟩
theorem DJ{α:Type}{p:α->Bool}{l:List α}{k:Nat}{x:α}(hk:l[k]? =some x)(hx:p x=true)(hu:∀(j:Nat) y,l[j]? =some y->p y=true->j=k):l.findIdx? p=some k:=by
 rw[List.findIdx?_eq_some_iff_getElem];obtain⟨kh,e⟩:=ak.mp hk;refine⟨kh,by rw[e];exact hx,fun j hj=>?_⟩;cases c:p l[j]with
 |false=>simp
 |true=>have:=hu j _ (bf (by omega)) c;omega
theorem qA{α β:Type}{f:α->List β}:∀{l:List α},(l.flatMap f).Nodup->∀(i j:Nat) x y b,l[i]? =some x->l[j]? =some y->b∈f x->b∈f y->i=j
 |[],_,i,j,x,y,b,hi,_,_,_=>by cases hi
 |a::l,nd,i,j,x,y,b,hi,hj,hx,hy=>by
  rw[dj,cv]at nd;cases i with
  |zero=>
   cases hi;cases j with
   |zero=>rfl
   |succ j=>exact absurd rfl (nd.2.2 b hx b (bx.mpr ⟨y,az hj,hy⟩))
  |succ i=>
   cases j with
   |zero=>cases hj;exact absurd rfl (nd.2.2 b hy b (bx.mpr ⟨x,az hi,hx⟩))
   |succ j=>rw[qA nd.2.1 i j x y b hi hj hx hy]
theorem CI(hp:pinched l=false){q:Point}{d:Nat}(hq:outOf l q=some d):∃(k:Nat)(w:Point×Point),(wallsOf (walksOf l))[k]? =some w/\(q,d)∈feet w.1 w.2/\wallNumber (walksOf l) (q,d)=some k/\(∀(j:Nat) w',(wallsOf (walksOf l))[j]? =some w'->q∈(feet w'.1 w'.2).map (·.1)->j=k)/\
  (q∈(walksOf l).flatten->cornerNumber (walksOf l) (2*q.1,2*q.2)=some k):=by
 obtain⟨F,f1,f2,f3,f4,f5⟩:=cN hp (d6.start l);have f1:(walksOf l).flatMap walkFeet=F:=f1;have hm:(q,d)∈(walksOf l).flatMap walkFeet:=((d7 hp (d6.start l)).2 q d hq).resolve_left (by simp);rw[<- mL]at hm f1;obtain⟨w,hw,hf⟩:=bx.mp hm;obtain⟨k,hk⟩:=dt.mp hw;have ndp:((wallsOf (walksOf l)).flatMap fun x=>(feet x.1 x.2).map (·.1)).Nodup:=by rw[<- f1,map_flatMap]at f3;exact f3
 have un:∀(j:Nat) w',(wallsOf (walksOf l))[j]? =some w'->q∈(feet w'.1 w'.2).map (·.1)->j=k:=fun j w' hj qg=>
  qA ndp j k w' w q hj hk qg (au.mpr ⟨(q,d),hf,rfl⟩)
 refine⟨k,w,hk,hf,?_,un,fun hc=>?_⟩
 ·unfold wallNumber;refine DJ hk (by simpa using hf) fun j y hj hy=>un j y hj (au.mpr ⟨(q,d),by simpa using hy,rfl⟩)
 ·unfold cornerNumber;rw[<- E7]at hc ⊢;obtain⟨j,hj⟩:=dt.mp hc;have key:∀(i:Nat) q',((wallsOf (walksOf l)).map (·.1))[i]? =some q'->q'=q->i=k:=by
   intro i q' hi eq;rw[ax]at hi;cases e:(wallsOf (walksOf l))[i]? with
   |none=>rw[e]at hi;cases hi
   |some w'=>rw[e]at hi;have hi:w'.1=q':=Option.some.inj hi;obtain⟨e',k',_,_,_,_,hmem⟩:=tW (gN hp w' (az e));exact un i w' e (au.mpr ⟨_,hmem,hi.trans eq⟩)
  have ejk:=key j q hj rfl;subst ejk;refine DJ hj (by simp[Nat.mul_comm]) fun j' y vz hy=>key j' y vz ?_
  simp only[dm,beq_iff_eq]at hy;apply Prod.ext<;>omega
end
noncomputable def kQ:List Int->Pl
 |[_,i,j,s]=>aC (i/2,j/2) s.toNat
 |[_,X,Y]=>(X/2,Y/2)
 |_=>(0,0)
theorem JD{l:Cells}(x y:Int):(x,y)∈iW l↔inI l x y=true:=by
 constructor
 ·intro h;unfold iW at h;obtain⟨c,hc,e⟩:=au.mp h;have e1:(c.1:Int)=x:=congrArg Prod.fst e;have e2:(c.2:Int)=y:=congrArg Prod.snd e;rw[<- e1,<- e2,cE];simpa using hc
 ·intro h;obtain⟨h1,h2,h3⟩:=bT h;exact au.mpr ⟨_,h3,by unfold iP;dsimp only;rw[fj h1,fj h2]⟩
section
variable {l:Cells} (hb:∀c∈l,c.1<64/\c.2<64)
include hb
theorem oA(q:Pl):q∈(halvesOf l).map hP↔inI l (q.1/2) (q.2/2)=true:=by rw[pX hb,JD]
theorem vT(q:Pl):q∉ (halvesOf l).map hP↔inI l (q.1/2) (q.2/2)=false:=by rw[oA hb];simp
theorem S6{p:Pl}{dx dy:Int}(h:0<=nb l p dx dy):inI l ((p.1+dx)/2) ((p.2+dy)/2)=true:=(oA hb (p.1+dx,p.2+dy)).mp ((jS (aP hb) _).mp h)
theorem wZ{p:Pl}{dx dy:Int}(h:nb l p dx dy<0):inI l ((p.1+dx)/2) ((p.2+dy)/2)=false:=(vT hb (p.1+dx,p.2+dy)).mp fun z=>absurd ((jS (aP hb) _).mpr z) (iz.mpr h)
theorem FN(hp:pinched l=false){r f:Nat}(hr:r∈halvesOf l)(hf:f<4)(ho:aK (hP r) f∉ (halvesOf l).map hP):outOf l (eaveFoot (4*r+f)).1=some (eaveFoot (4*r+f)).2/\kQ (jR (.eave (4*r+f)))=iP (eaveFoot (4*r+f)).1:=by
 have q4:(4*r+f)/4=r:=by omega
 have q5:(4*r+f)%4=f:=by omega
 have ku:=(oA hb (hP r)).mp (au.mpr ⟨r,hr,rfl⟩);have rm:=(vT hb _).mp ho;have e1:(hP r).1=(iOf r:Int):=rfl;have e2:(hP r).2=(jOf r:Int):=rfl;rw[e1,e2]at ku;unfold eaveFoot jR kQ;dsimp only;rw[q4,q5];have cs:f=0\/f=1\/f=2\/f=3:=by omega
 rcases cs with rfl|rfl|rfl|rfl
 ·have ho:inI l ((iOf r:Int)/2) (((jOf r:Int) - 1)/2)=false:=rm;have ev:((jOf r:Int) - 1)/2=(jOf r:Int)/2 - 1:=by
   rcases bz (jOf r)with z|z
   ·omega
   ·rw[show((jOf r:Int) - 1)/2=(jOf r:Int)/2 by omega,ku]at ho;cases ho
  rw[ev]at ho;refine⟨show outOf l (iOf r/2,jOf r/2)=some 0 from gT hp (by decide) ?_,?_⟩
  ·rw[cU];show(inI l ((iOf r/2:Nat):Int) ((jOf r/2:Nat):Int)&& !inI l ((iOf r/2:Nat):Int) (((jOf r/2:Nat):Int) - 1))=true
   rw[show((iOf r/2:Nat):Int)=(iOf r:Int)/2 by omega,show((jOf r/2:Nat):Int)=(jOf r:Int)/2 by omega,ku,ho];rfl
  ·unfold aC iP;simp
 ·have ho:inI l (((iOf r:Int)+1)/2) ((jOf r:Int)/2)=false:=rm;have ev:((iOf r:Int)+1)/2=(iOf r:Int)/2+1:=by
   rcases bz (iOf r)with z|z
   ·rw[show((iOf r:Int)+1)/2=(iOf r:Int)/2 by omega,ku]at ho;cases ho
   ·omega
  rw[ev]at ho;refine⟨show outOf l (iOf r/2+1,jOf r/2)=some 1 from gT hp (by decide) ?_,?_⟩
  ·rw[cU];show(inI l (((iOf r/2+1:Nat):Int) - 1) ((jOf r/2:Nat):Int)&& !inI l ((iOf r/2+1:Nat):Int) ((jOf r/2:Nat):Int))=true
   rw[show((iOf r/2+1:Nat):Int) - 1=(iOf r:Int)/2 by omega,show((iOf r/2+1:Nat):Int)=(iOf r:Int)/2+1 by omega,show((jOf r/2:Nat):Int)=(jOf r:Int)/2 by omega,ku,ho];rfl
  ·unfold aC iP;simp
 ·have ho:inI l ((iOf r:Int)/2) (((jOf r:Int)+1)/2)=false:=rm;have ev:((jOf r:Int)+1)/2=(jOf r:Int)/2+1:=by
   rcases bz (jOf r)with z|z
   ·rw[show((jOf r:Int)+1)/2=(jOf r:Int)/2 by omega,ku]at ho;cases ho
   ·omega
  rw[ev]at ho;refine⟨show outOf l (iOf r/2+1,jOf r/2+1)=some 2 from gT hp (by decide) ?_,?_⟩
  ·rw[cU];show(inI l (((iOf r/2+1:Nat):Int) - 1) (((jOf r/2+1:Nat):Int) - 1)&& !inI l (((iOf r/2+1:Nat):Int) - 1) ((jOf r/2+1:Nat):Int))=true
   rw[show((iOf r/2+1:Nat):Int) - 1=(iOf r:Int)/2 by omega,show((jOf r/2+1:Nat):Int) - 1=(jOf r:Int)/2 by omega,show((jOf r/2+1:Nat):Int)=(jOf r:Int)/2+1 by omega,ku,ho];rfl
  ·unfold aC iP;simp
 ·have ho:inI l (((iOf r:Int) - 1)/2) ((jOf r:Int)/2)=false:=rm;have ev:((iOf r:Int) - 1)/2=(iOf r:Int)/2 - 1:=by
   rcases bz (iOf r)with z|z
   ·omega
   ·rw[show((iOf r:Int) - 1)/2=(iOf r:Int)/2 by omega,ku]at ho;cases ho
  rw[ev]at ho;refine⟨show outOf l (iOf r/2,jOf r/2+1)=some 3 from gT hp (by decide) ?_,?_⟩
  ·rw[cU];show(inI l ((iOf r/2:Nat):Int) (((jOf r/2+1:Nat):Int) - 1)&& !inI l (((iOf r/2:Nat):Int) - 1) (((jOf r/2+1:Nat):Int) - 1))=true
   rw[show((iOf r/2:Nat):Int)=(iOf r:Int)/2 by omega,show((jOf r/2+1:Nat):Int) - 1=(jOf r:Int)/2 by omega,ku,ho];rfl
  ·unfold aC iP;simp
omit hb in
theorem rL(hp:pinched l=false){q:Point}{e:Nat}(he:e<4)(h:aZ l q.1 q.2 e=true)(hn:rX l q.1 q.2 e=false):outOf l q=some e/\q∈(walksOf l).flatten:=by
 have ho:outOf l q=some e:=gT hp he (by rw[cU];exact h);refine⟨ho,?_⟩;obtain⟨w1,w2⟩:=d7 hp (d6.start l);have hm:=(w2 q e ho).resolve_left (by simp);obtain⟨w,hw,hf⟩:=bx.mp hm;obtain⟨p,d,r,R,ew,ef⟩:=w1 w hw;refine mem_flatten.mpr ⟨w,hw,?_⟩;rw[ef]at hf;rw[ew];rcases ar.mp hf with z|hf
 ·cases z;exact bj
 ·apply Classical.byContradiction;intro c;have hw':=R.way;cases hw' with
  |cons h1 h2=>
   obtain⟨z,z1,z2⟩:=through h2 h1 rfl q e hf fun y=>c (aq _ y)
   obtain⟨_,z3⟩:=b8 z1;have si:=lK he z3;rw[z2]at si;rw[cU,<- rW he,<- si]at z3;rw[hn]at z3;cases z3
theorem AD(hp:pinched l=false){r c:Nat}(hr:r∈halvesOf l)(hc:fU (halvesOf l) (hP r)=some c)(hz:aS (halvesOf l) (hP r)=0):∃q:Point,cornerOf r c=(2*q.1,2*q.2)/\(∃e,outOf l q=some e)/\q∈(walksOf l).flatten:=by
 obtain⟨d,ed,d0,Ap,e0,ge,l0,l1,l2,l3,_⟩:=lT hb hr;have ez:d=0:=ed.symm.trans hz;subst ez;have e1:(hP r).1=(iOf r:Int):=rfl;have e2:(hP r).2=(jOf r:Int):=rfl;have ku:=(oA hb (hP r)).mp (au.mpr ⟨r,hr,rfl⟩);obtain⟨c4,lc,dd⟩:=lX hb hr hc;have ud:∀{dx dy:Int},¬nb l (hP r) dx dy<0->inI l (((hP r).1+dx)/2) (((hP r).2+dy)/2)=true:=fun h=>S6 hb (dz.mp h)
 rcases yR _ _ _ _ c hc with⟨rfl,k,n1,n2⟩|⟨rfl,k,n1,n2⟩|⟨rfl,k,n1,n2⟩|⟨rfl,k,n1,n2⟩
 ·have n1:¬c8 l (hP r) 1:=of_decide_eq_false n1;have n2:¬c8 l (hP r) 3:=of_decide_eq_false n2;have a1:=ud (dx:=0) (dy:=-1) fun z=>n1 (l1.mpr (.inl z))
  have a2:=ud (dx:=-1) (dy:=0) fun z=>n2 (l3.mpr (.inl z))
  have e:bQ (hP r) 0=((hP r).1+-1,(hP r).2+-1):=by unfold bQ aC;simp;clear l0 l1 l2 l3 ge;omega
  rw[e,hz]at dd;have a3:=wZ hb (p:=hP r) (dx:=-1) (dy:=-1) (by show aS _ _<0;rw[dd];decide);rw[e1,e2]at ku a1 a2 a3;clear l0 l1 l2 l3 ge n1 n2 ud;have pi:iOf r%2=0:=by
   rcases bz (iOf r)with z|z
   ·exact z
   ·rw[show((iOf r:Int)+-1)/2=((iOf r:Int)+0)/2 by omega,a1]at a3;cases a3
  have pj:jOf r%2=0:=by
   rcases bz (jOf r)with z|z
   ·exact z
   ·rw[show((jOf r:Int)+-1)/2=((jOf r:Int)+0)/2 by omega,a2]at a3;cases a3
  have E1:((iOf r:Int)+-1)/2=((iOf r/2:Nat):Int) - 1:=by omega
  have E2:((jOf r:Int)+-1)/2=((jOf r/2:Nat):Int) - 1:=by omega
  have E3:((iOf r:Int)+0)/2=((iOf r/2:Nat):Int):=by omega
  have E4:((jOf r:Int)+0)/2=((jOf r/2:Nat):Int):=by omega
  rw[E1]at a2 a3;rw[E2]at a1 a3;rw[E3]at a1;rw[E4]at a2;have:=rL hp (q:=(iOf r/2,jOf r/2)) (e:=3) (by decide) (by show(inI l _ (_ - 1)&& !inI l (_ - 1) (_ - 1))=true;dsimp only;rw[a1,a3];rfl) (by show(inI l _ _&& !inI l (_ - 1) _)=false;dsimp only;rw[a2];simp);exact⟨_,by unfold cornerOf;simp;omega,⟨_,this.1⟩,this.2⟩
 ·have n1:¬c8 l (hP r) 0:=of_decide_eq_false n1;have n2:¬c8 l (hP r) 2:=of_decide_eq_false n2;have a1:=ud (dx:=0) (dy:=-1) fun z=>n1 (l0.mpr (.inr (.inl z)))
  have a2:=ud (dx:=1) (dy:=0) fun z=>n2 (l2.mpr (.inl z))
  have e:bQ (hP r) 1=((hP r).1+1,(hP r).2+-1):=by unfold bQ aC;simp;clear l0 l1 l2 l3 ge;omega
  rw[e,hz]at dd;have a3:=wZ hb (p:=hP r) (dx:=1) (dy:=-1) (by show aS _ _<0;rw[dd];decide);rw[e1,e2]at ku a1 a2 a3;clear l0 l1 l2 l3 ge n1 n2 ud;have pi:iOf r%2=1:=by
   rcases bz (iOf r)with z|z
   ·rw[show((iOf r:Int)+1)/2=((iOf r:Int)+0)/2 by omega,a1]at a3;cases a3
   ·exact z
  have pj:jOf r%2=0:=by
   rcases bz (jOf r)with z|z
   ·exact z
   ·rw[show((jOf r:Int)+-1)/2=((jOf r:Int)+0)/2 by omega,a2]at a3;cases a3
  have E1:((iOf r:Int)+1)/2=(((iOf r+1)/2:Nat):Int):=by omega
  have E2:((jOf r:Int)+-1)/2=((jOf r/2:Nat):Int) - 1:=by omega
  have E3:((iOf r:Int)+0)/2=(((iOf r+1)/2:Nat):Int) - 1:=by omega
  have E4:((jOf r:Int)+0)/2=((jOf r/2:Nat):Int):=by omega
  rw[E1]at a2 a3;rw[E2]at a1 a3;rw[E3]at a1;rw[E4]at a2;have:=rL hp (q:=((iOf r+1)/2,jOf r/2)) (e:=0) (by decide) (by show(inI l _ _&& !inI l _ (_ - 1))=true;dsimp only;rw[a2,a3];rfl) (by show(inI l (_ - 1) _&& !inI l (_ - 1) (_ - 1))=false;dsimp only;rw[a1];simp);exact⟨_,by unfold cornerOf;simp;omega,⟨_,this.1⟩,this.2⟩
 ·have n1:¬c8 l (hP r) 1:=of_decide_eq_false n1;have n2:¬c8 l (hP r) 3:=of_decide_eq_false n2;have a1:=ud (dx:=1) (dy:=0) fun z=>n1 (l1.mpr (.inr (.inr z)))
  have a2:=ud (dx:=0) (dy:=1) fun z=>n2 (l3.mpr (.inr (.inr z)))
  have e:bQ (hP r) 2=((hP r).1+1,(hP r).2+1):=by unfold bQ aC;simp;clear l0 l1 l2 l3 ge;omega
  rw[e,hz]at dd;have a3:=wZ hb (p:=hP r) (dx:=1) (dy:=1) (by show aS _ _<0;rw[dd];decide);rw[e1,e2]at ku a1 a2 a3;clear l0 l1 l2 l3 ge n1 n2 ud;have pi:iOf r%2=1:=by
   rcases bz (iOf r)with z|z
   ·rw[show((iOf r:Int)+1)/2=((iOf r:Int)+0)/2 by omega,a2]at a3;cases a3
   ·exact z
  have pj:jOf r%2=1:=by
   rcases bz (jOf r)with z|z
   ·rw[show((jOf r:Int)+1)/2=((jOf r:Int)+0)/2 by omega,a1]at a3;cases a3
   ·exact z
  have E1:((iOf r:Int)+1)/2=(((iOf r+1)/2:Nat):Int):=by omega
  have E2:((jOf r:Int)+1)/2=(((jOf r+1)/2:Nat):Int):=by omega
  have E3:((iOf r:Int)+0)/2=(((iOf r+1)/2:Nat):Int) - 1:=by omega
  have E4:((jOf r:Int)+0)/2=(((jOf r+1)/2:Nat):Int) - 1:=by omega
  rw[E1]at a1 a3;rw[E2]at a2 a3;rw[E3]at a2;rw[E4]at a1;have:=rL hp (q:=((iOf r+1)/2,(jOf r+1)/2)) (e:=1) (by decide) (by show(inI l (_ - 1) _&& !inI l _ _)=true;dsimp only;rw[a2,a3];rfl) (by show(inI l (_ - 1) (_ - 1)&& !inI l _ (_ - 1))=false;dsimp only;rw[a1];simp);exact⟨_,by unfold cornerOf;simp;omega,⟨_,this.1⟩,this.2⟩
 ·have n1:¬c8 l (hP r) 0:=of_decide_eq_false n1;have n2:¬c8 l (hP r) 2:=of_decide_eq_false n2;have a1:=ud (dx:=-1) (dy:=0) fun z=>n1 (l0.mpr (.inr (.inr z)))
  have a2:=ud (dx:=0) (dy:=1) fun z=>n2 (l2.mpr (.inr (.inl z)))
  have e:bQ (hP r) 3=((hP r).1+-1,(hP r).2+1):=by unfold bQ aC;simp;clear l0 l1 l2 l3 ge;omega
  rw[e,hz]at dd;have a3:=wZ hb (p:=hP r) (dx:=-1) (dy:=1) (by show aS _ _<0;rw[dd];decide);rw[e1,e2]at ku a1 a2 a3;clear l0 l1 l2 l3 ge n1 n2 ud;have pi:iOf r%2=0:=by
   rcases bz (iOf r)with z|z
   ·exact z
   ·rw[show((iOf r:Int)+-1)/2=((iOf r:Int)+0)/2 by omega,a2]at a3;cases a3
  have pj:jOf r%2=1:=by
   rcases bz (jOf r)with z|z
   ·rw[show((jOf r:Int)+1)/2=((jOf r:Int)+0)/2 by omega,a1]at a3;cases a3
   ·exact z
  have E1:((iOf r:Int)+-1)/2=((iOf r/2:Nat):Int) - 1:=by omega
  have E2:((jOf r:Int)+1)/2=(((jOf r+1)/2:Nat):Int):=by omega
  have E3:((iOf r:Int)+0)/2=((iOf r/2:Nat):Int):=by omega
  have E4:((jOf r:Int)+0)/2=(((jOf r+1)/2:Nat):Int) - 1:=by omega
  rw[E1]at a1 a3;rw[E2]at a2 a3;rw[E3]at a2;rw[E4]at a1;have:=rL hp (q:=(iOf r/2,(jOf r+1)/2)) (e:=2) (by decide) (by show(inI l (_ - 1) (_ - 1)&& !inI l (_ - 1) _)=true;dsimp only;rw[a1,a3];rfl) (by show(inI l _ (_ - 1)&& !inI l _ _)=false;dsimp only;rw[a2];simp);exact⟨_,by unfold cornerOf;simp;omega,⟨_,this.1⟩,this.2⟩
end
noncomputable def bE(l:Cells):List (List Pl):=(wallsOf (walksOf l)).map fun w=>(feet w.1 w.2).map fun x=>iP x.1
section
variable {l:Cells} (hb:∀c∈l,c.1<64/\c.2<64)
include hb
theorem last_step:∀(n:Nat){t:Nat}{e:End},t∈(topOf l).tris->(topOf l).endFrom n t=some e->∃u∈(topOf l).tris,(topOf l).goesOn u=.inl e
 |0,t,e,ht,h=>by cases h
 |n+1,t,e,ht,h=>by
  unfold Top.endFrom at h;have w:=mK hb ht;cases q:(topOf l).goesOn t with
  |inl x=>rw[q]at h;cases h;exact⟨t,ht,q⟩
  |inr u=>rw[q]at h w;exact last_step n w.1 h
theorem zS(hp:pinched l=false){u:Nat}{e:End}(hu:u∈(topOf l).tris)(he:(topOf l).goesOn u=.inl e):∃k:Nat,(∃P,(bE l)[k]? =some P/\kQ (jR e)∈P)/\(∀(j:Nat) P,(bE l)[j]? =some P->kQ (jR e)∈P->j=k)/\
  RoofB.endTold (topOf l) e=jR e++[(k:Int)]/\endNumber (walksOf l) e=(match e with| .eave _=>k| .corner _=>MARK+k):=by
 have hr:u/4∈halvesOf l:=cV.mp hu;have key:∀{q:Point}{d k:Nat}{w:Point×Point},kQ (jR e)=iP q->(wallsOf (walksOf l))[k]? =some w->(q,d)∈feet w.1 w.2->(∀(j:Nat) w',(wallsOf (walksOf l))[j]? =some w'->q∈(feet w'.1 w'.2).map (·.1)->j=k)->(∃P,(bE l)[k]? =some P/\kQ (jR e)∈P)/\(∀(j:Nat) P,(bE l)[j]? =some P->kQ (jR e)∈P->j=k):=by
  intro q d k w ef hk hf un;rw[ef];unfold bE;refine⟨⟨_,by rw[ax,hk];rfl,au.mpr ⟨(q,d),hf,rfl⟩⟩,fun j P hj hq=>?_⟩;rw[ax]at hj;cases c:(wallsOf (walksOf l))[j]? with
  |none=>rw[c]at hj;cases hj
  |some w'=>rw[c]at hj;have hj:((feet w'.1 w'.2).map fun x=>iP x.1)=P:=Option.some.inj hj;rw[<- hj]at hq;obtain⟨x,hx,e3⟩:=au.mp hq;have e4:(x.1.1:Int)=(q.1:Int):=congrArg Prod.fst e3;have e5:(x.1.2:Int)=(q.2:Int):=congrArg Prod.snd e3;refine un j w' c (au.mpr ⟨x,hx,?_⟩);apply Prod.ext<;>omega
 have vx:=uU hb hr;unfold Top.goesOn at he;dsimp only at he;by_cases v:(topOf l).valley (u/4)=true
 ·rw[ah v]at he vx;have hi:fU (halvesOf l) (hP (u/4))=some (((topOf l).high (u/4)).findIdx fun(c:Bool)=>!c):=vx.symm;generalize ((topOf l).high (u/4)).findIdx (fun(c:Bool)=>!c)=c at he hi;by_cases z:heightAt (topOf l).grid (cornerOf (u/4) c).1 (cornerOf (u/4) c).2=0
  ·rw[ah z]at he;cases he;obtain⟨c4,lc,_⟩:=lX hb hr hi;have lc:hgt (halvesOf l) (aC (hP (u/4)) c)=aS (halvesOf l) (hP (u/4)):=lc;have eh:hgt (halvesOf l) (aC (hP (u/4)) c)=(heightAt (topOf l).grid (cornerOf (u/4) c).1 (cornerOf (u/4) c).2:Int):=by rw[fL,pV];rfl
   obtain⟨q,eq,⟨d,hd⟩,Af⟩:=AD hb hp hr hi (by rw[<- lc,eh,z];rfl);obtain⟨k,w,hk,hf,_,un,cn⟩:=CI hp hd;have ef:kQ (jR (.corner (cornerOf (u/4) c)))=iP q:=by
    rw[eq];show(((2*q.1:Nat):Int)/2,((2*q.2:Nat):Int)/2)=iP q
    unfold iP;apply Prod.ext<;>(dsimp only;omega)
   obtain⟨k1,k2⟩:=key ef hk hf un;have c2:=cn Af;rw[<- eq]at c2;refine⟨k,k1,k2,?_,?_⟩
   ·show RoofB.told [1,(cornerOf (u/4) c).1,(cornerOf (u/4) c).2,(cornerNumber (walksOf l) (cornerOf (u/4) c)).getD 0]=_
    rw[c2];rfl
   ·show MARK+((cornerNumber (walksOf l) (cornerOf (u/4) c)).getD NONE)=_
    rw[c2];rfl
  ·rw[af z]at he;cases he
 ·rw[af v]at he vx;obtain⟨f,f4,fv,dd⟩:=vX hb hr (mod_lt u (by decide)) vx.symm;have ff:(topOf l).faces u=f:=by have:=rO (aP hb) hu;have e1:e7 (halvesOf l) (tP u)=(f:Int):=fv;rw[e1]at this;have e:(topOf l).faces u=(oO (halvesOf l)).getD u 4:=rfl;rw[e];omega
  rw[ff]at he;by_cases z:(topOf l).grid.val (beyond (u/4) f)=0
  ·rw[ah z]at he;cases he;have ni:aK (hP (u/4)) f∉ (halvesOf l).map hP:=fun q=>by have:=(rN (aP hb)).mpr ((xZ (aP hb) hr f4).mp q);have e:(topOf l).grid.val (beyond (u/4) f)=(gridOf (halvesOf l)).val (beyond (u/4) f):=rfl;omega
   obtain⟨o,ef⟩:=FN hb hp hr f4 ni;obtain⟨k,w,hk,hf,wn,un,_⟩:=CI hp o;obtain⟨k1,k2⟩:=key ef hk hf un;refine⟨k,k1,k2,?_,?_⟩
   ·show RoofB.told [0,iOf ((4*(u/4)+f)/4),jOf ((4*(u/4)+f)/4),(4*(u/4)+f)%4,(wallNumber (walksOf l) (eaveFoot (4*(u/4)+f))).getD 0]=_
    rw[wn];rfl
   ·show(wallNumber (walksOf l) (eaveFoot (4*(u/4)+f))).getD NONE=_
    rw[wn];rfl
  ·rw[af z]at he;cases he
end
end RM
open Roof
namespace RM
abbrev wpt(w:Point×Point):List Pl:=(feet w.1 w.2).map fun x=>iP x.1
theorem pG(w:Walk):(sides w).length=w.length:=by
 have:=congrArg List.length (uX w)
 rwa [ag]at this
theorem j9{w:Walk}{j:Nat}{p:Point}(h:w[j]? =some p):∃q,w[(j+1)%w.length]? =some q/\(sides w)[j]? =some (p,q):=by
 have hj:=(ak.mp h).1;unfold sides;by_cases c:j+1<w.length
 ·refine⟨w[j+1],by rw[Nat.mod_eq_of_lt c,bf c],?_⟩;rw[js];refine⟨h,?_⟩;rw[gm (by rw[fk];omega),getElem?_drop,Nat.add_comm,bf c]
 ·have e:j+1=w.length:=by omega
  have z:0<w.length:=by omega
  refine⟨w[0],by rw[e,Nat.mod_self,bf z],?_⟩;rw[js];refine⟨h,?_⟩;rw[dk (by rw[fk];omega),fk,show j - (w.length - 1)=0 by omega];rw[List.getElem?_take,ah (by decide),bf z]
theorem oM{α:Type}:∀{P:List (List α)}{L:List α},L∈P->L.length<=P.flatten.length
 |[],_,h=>by cases h
 |a::P,L,h=>by
  rw[iw,aj];rcases ar.mp h with rfl|h
  ·omega
  ·have:=oM h;omega
section
variable {l:Cells} (hp:pinched l=false)
include hp
theorem zM:∀w∈wallsOf (walksOf l),∀x∈feet w.1 w.2,aN (cT (iW l)) (iP x.1)=some (hdg x.2):=by intro w hw x hx;obtain⟨F,f1,f2,_⟩:=cN hp (d6.start l);have f1:(walksOf l).flatMap walkFeet=F:=f1;rw[<- mL]at f1;exact(lV hp _ _).mpr ⟨x.1,x.2,rfl,f2 x (by rw[<- f1];exact bx.mpr ⟨w,hw,hx⟩),rfl⟩
theorem rV:(bE l).flatten.Nodup:=by
 obtain⟨F,f1,f2,f3,_⟩:=cN hp (d6.start l);have f1:(walksOf l).flatMap walkFeet=F:=f1;rw[<- mL]at f1;have e:(bE l).flatten=(F.map (·.1)).map iP:=by unfold bE;rw[<- f1,<- List.flatMap_def,map_flatMap,map_flatMap];congr 1;funext w;rw[fu];rfl
 rw[e];exact dZ f3 fun x _ y _ e=>fJ e
theorem k9:(bE l).flatten.length<=4*l.length:=by
 have h2:=cO (b:=(cT (iW l)).map (·.1)) (rV hp) fun p hm=>by obtain⟨L,hL,hq⟩:=mem_flatten.mp hm;obtain⟨w,hw,rfl⟩:=au.mp hL;obtain⟨x,hx,rfl⟩:=au.mp hq;exact(aW _ _).mp (by rw[zM hp w hw x hx];rfl)
 have h3:=jL (iW l);simp only[iW,ag]at h2 h3;omega
theorem G7:∀w∈wallsOf (walksOf l),(feet w.1 w.2).length<=4*l.length:=by intro w hw;refine df ?_ (k9 hp);obtain⟨i,hi⟩:=dt.mp hw;have:wpt w∈bE l:=au.mpr ⟨w,hw,rfl⟩;have h:=oM this;rw[ag]at h;exact h
theorem hJ:(bE l).length<=4*l.length:=by
 refine df ?_ (k9 hp);have ne:∀L∈bE l,1<=L.length:=by intro L hL;obtain⟨w,hw,rfl⟩:=au.mp hL;obtain⟨_,_,_,_,_,_,hm⟩:=tW (gN hp w hw);rw[ag];exact List.length_pos_of_mem hm
 generalize bE l=P at ne;induction P with
 |nil=>exact ay _
 |cons a P ih=>
  rw[iw,aj,bq];have:=ne a (bj ..);have:=ih fun L hL=>ne L (aq _ hL)
  omega
end
end RM
open Roof
namespace RM
noncomputable def nsW(l:Cells):List Nat:=(topOf l).tris.map fun t=>(((topOf l).endOf t).map (endNumber (walksOf l))).getD NONE
noncomputable def m7(l:Cells)(i c:Nat):List Int:=[(((nsW l).take i).count c:Int),(((nsW l).take i).count (MARK+c):Int),((((bE l).getD c []).length:Nat):Int)]
def gB(l:Cells)(i:Nat):List (List Int):=(List.range (bE l).length).map (m7 l i)
theorem dY(l:Cells)(i:Nat):(gB l i).length=(bE l).length:=by simp[gB]
theorem nF{l:Cells}{i c:Nat}(h:c<(bE l).length):(gB l i)[c]? =some (m7 l i c):=by unfold gB;rw[ax,List.getElem?_range h];rfl
theorem AS{l:Cells}(hb:∀c∈l,c.1<64/\c.2<64)(hp:pinched l=false)(hl:l.length<=256){i t j:Nat}{e:End}{P:List Pl}(ht:(topOf l).tris[i]? =some t)(he:(topOf l).endOf t=some e)(hj:(bE l)[j]? =some P)(hm:kQ (jR e)∈P):
  (∃s a b c,jR e=s::(jR e).tail/\m7 l i j=[a,b,c]/\((s=0/\m7 l (i+1) j=[a+1,b,c])\/(s=1/\m7 l (i+1) j=[a,b+1,c]))/\0<=a/\0<=b/\a<=i/\b<=i)/\∀c,c<(bE l).length->c≠j->m7 l (i+1) c=m7 l i c:=by
 have htm:=az ht;obtain⟨u,hu,hg⟩:=last_step hb _ htm he;obtain⟨k,_,un,_,en⟩:=zS hb hp hu hg;have:=un j P hj hm;subst this;have kh:=(ak.mp hj).1;have few:=hJ hp;have eM:MARK=100000:=rfl;have hn:(nsW l)[i]? =some (endNumber (walksOf l) e):=by
  unfold nsW;rw[ax,ht];show some (((topOf l).endOf t).map (endNumber (walksOf l))|>.getD NONE)=_
  rw[he];rfl
 have tk:(nsW l).take (i+1)=(nsW l).take i++[endNumber (walksOf l) e]:=take_snoc hn;have tl:((nsW l).take i).length<=i:=by rw[bw];omega
 have ct:∀c,((nsW l).take (i+1)).count c=((nsW l).take i).count c+if endNumber (walksOf l) e=c then 1 else 0:=fun c=>by rw[tk,List.count_append,List.count_singleton];simp only[beq_iff_eq]
 refine⟨?_,fun c hc ne=>?_⟩
 ·have c0:((nsW l).take i).count j<=i:=df List.count_le_length tl;have c1:((nsW l).take i).count (MARK+j)<=i:=df List.count_le_length tl;cases e with
  |eave t'=>rw[show endNumber (walksOf l) (.eave t')=j from en]at ct;refine⟨0,_,_,_,rfl,rfl,.inl ⟨rfl,?_⟩,gc _,gc _,ofNat_le.mpr c0,ofNat_le.mpr c1⟩;unfold m7;rw[ct,ct,ah rfl,af (by omega)];rfl
  |corner p=>rw[show endNumber (walksOf l) (.corner p)=MARK+j from en]at ct;refine⟨1,_,_,_,rfl,rfl,.inr ⟨rfl,?_⟩,gc _,gc _,ofNat_le.mpr c0,ofNat_le.mpr c1⟩;unfold m7;rw[ct,ct,ah rfl,af (by omega)];rfl
 ·unfold m7;cases e with
  |eave t'=>rw[show endNumber (walksOf l) (.eave t')=j from en]at ct;rw[ct,ct,af (by omega),af (by omega)];rfl
  |corner p=>rw[show endNumber (walksOf l) (.corner p)=MARK+j from en]at ct;rw[ct,ct,af (by omega),af (by omega)];rfl
theorem JU(l:Cells):gB l 0=(bE l).map fun P=>[0,0,(P.length:Int)]:=by
 apply ext_getElem?;intro i;by_cases h:i<(bE l).length
 ·rw[nF h,ax,bf h];unfold m7;rw[take_zero,jn,bf h];rfl
 ·rw[ik (by rw[dY];omega),ik (by rw[ag];omega)]
theorem oN{α β:Type}{f g:α->List β}:∀{l:List α},(∀x∈l,f x=g x)->l.flatMap f=l.flatMap g
 |[],_=>rfl
 |a::l,h=>by rw[dj,dj,h a (bj ..),oN fun x hx=>h x (aq _ hx)]
theorem DM(t:List Int):RoofBNeutral.f [[5],t]=RoofB.ofTop (RoofBNeutral.text t) fun T=>RoofB.told (T.falling.wall.length::(List.range T.falling.wall.length).flatMap fun(c:Nat)=>[T.falling.wall.getD c 0,T.falling.corner.getD c 0,T.falling.feet.getD c 0]):=rfl
theorem uC{t:List Int}(h:houseOf (RoofBNeutral.text t)=none):RoofBNeutral.f [[5],t]=[-1]:=by rw[DM,B7 h]
theorem A9{t:List Int}{l:Cells}(h:houseOf (RoofBNeutral.text t)=some l):RoofBNeutral.f [[5],t]=((gB l (topOf l).tris.length).length:Int)::(gB l (topOf l).tris.length).flatten:=by
 rw[DM,B6 h];have ew:(topOf l).falling.wall=(List.range (bE l).length).map (fun c=>(nsW l).count c):=by rw[show(bE l).length=(wallsOf (walksOf l)).length from ag _];rfl
 have ec:(topOf l).falling.corner=(List.range (bE l).length).map (fun c=>(nsW l).count (MARK+c)):=by rw[show(bE l).length=(wallsOf (walksOf l)).length from ag _];rfl
 have ef:(topOf l).falling.feet=(bE l).map List.length:=by
  show(wallsOf (walksOf l)).map _=_
  unfold bE;rw[fu];congr 1;funext w;exact(ag _).symm
 show RoofB.told ((topOf l).falling.wall.length::(List.range (topOf l).falling.wall.length).flatMap fun c=>[(topOf l).falling.wall.getD c 0,(topOf l).falling.corner.getD c 0,(topOf l).falling.feet.getD c 0])=_
 rw[ew,ec,ef,dY,ag,length_range];unfold RoofB.told;rw[bo];congr 1;unfold gB;rw[map_flatMap,<- List.flatMap_def];apply oN;intro c hc;have hc:=iy.mp hc;have tk:(nsW l).take (topOf l).tris.length=nsW l:=br (by unfold nsW;rw[ag];exact ay _);unfold m7;rw[tk];simp only[jn,ax,List.getElem?_range hc,Option.map_some,Option.getD_some,bo,ja,bf hc]
end RM
namespace L3
open PySem PySem.Spec PyProof.Rows L2
structure aQ(P:Program)(w:World)(K:W.Frag)(mg:Str->Option Value)(base:Heap)(CX:CXT)(k:Nat)(x:Str)(ps:List Str)(sp:Sp):Prop where
 ex:∃f fd,bO P w K mg base CX k f fd ps sp/\mg x=some (.ref f)/\W.keepIn K (.ref f)=true/\Binds K fd ps []
section
variable {X:Cx}{CX:CXT}{k:Nat}{ps:List Str}{sp:Sp}{E:XK}{x:Str}{p pos:Pos}{e:Expr}{es:List Expr}{t:TA}
theorem aT(D:aQ X.prog X.w X.K X.mg X.base CX k x ps sp)(hr:cY k X.A)(hx:Passes CX X E)(hg:Gl X x)(ha:PA X (e::es) t)(ve:(x==("__debug__" : Str))=false:=by decide)
  (xa:starEach (e::es) X.env=(false,eval e X.env)::starEach es X.env:=by rfl) (uc:(backTo pos (starEach es X.env)).any (·.1)=false:=by rfl):PE X (.Call (.Name x p) (e::es) [] pos) (xY sp [] E t):=by
 obtain⟨f,fd,F,hm,hk,hb⟩:=D.ex;exact K3 F hr hg hm hk hb .nil hx ha ve xa uc
end
theorem a9.rd{H H':Hp}{a:Addr}{u:HO}(e:a9 H H')(h:Rd H a u):Rd H' a u:=by
 rcases h with h|⟨o,h⟩
 ·exact .inl (e _ _ h)
 ·exact .inr ⟨o,e _ _ h⟩
theorem a9.upd{H:Hp}{p:Addr}{o:HO}(h:H p=none):a9 H (upd H p o):=fun b u e=>by rw[aB (aH e h)];exact e
noncomputable def T2(H:Hp)(v:V)(p:Int×Int):Prop:=∃a,v=.ref a/\H a=some (.tup [.int p.1,.int p.2])
noncomputable def C2(K:W.Frag)(H:Hp)(v:V)(p:Int×Int):Prop:=∃a,v=.ref a/\SqT K H a [.int p.1,.int p.2]
noncomputable def T3(H:Hp)(v:V)(p:Int×Int×Int):Prop:=∃a,v=.ref a/\H a=some (.tup [.int p.1,.int p.2.1,.int p.2.2])
theorem T2.mono{H H':Hp}{v:V}{p:Int×Int}(e:a9 H H')(h:T2 H v p):T2 H' v p:=let⟨a,h1,h2⟩:=h;⟨a,h1,e _ _ h2⟩
theorem T3.mono{H H':Hp}{v:V}{p:Int×Int×Int}(e:a9 H H')(h:T3 H v p):T3 H' v p:=let⟨a,h1,h2⟩:=h;⟨a,h1,e _ _ h2⟩
theorem T2.c{K:W.Frag}{H:Hp}{v:V}{p:Int×Int}(h:T2 H v p):C2 K H v p:=let⟨a,h1,h2⟩:=h;⟨a,h1,SqT.of h2⟩
def jK:Option HO->Bool
 |none=>false
 |some (.frz _ _)=>false
 |some _=>true
noncomputable def IK(h:Heap)(H:Hp)(fs:List Addr):List Addr:=(List.range h.objs.size).filter fun a=>jK (H a)||fs.contains a
def gD(h:Heap)(H:Hp)(fs:List Addr):Heap:=W.hideAll h (IK h H fs)
theorem gL{h:Heap}{H:Hp}{fs:List Addr}{b:Addr}{o:Obj}(e:h.get? b=some o)(n:jK (H b)=false)(hb:b∉fs):(gD h H fs).get? b=some o:=
 W.hideAll_get _ e fun hm=>by have q:=(cf.mp hm).2;rw[n,Bool.false_or]at q;exact hb (by simpa using q)
theorem yM{h:Heap}{H:Hp}{fs:List Addr}{b:Addr}{o:Obj}(e:(gD h H fs).get? b=some o):h.get? b=some o/\jK (H b)=false/\b∉fs:=by
 have e':h.get? b=some o:=W.of_hideAll (IK h H fs) e;refine⟨e',?_⟩;by_cases q:b∈IK h H fs
 ·have z:(gD h H fs).get? b=none:=W.hideAll_none _ q;rw[z]at e;cases e
 ·have hn:¬((jK (H b)||fs.contains b)=true):=fun z=>q (cf.mpr ⟨iy.mpr (bu e'),z⟩)
  rw[or_eq_true]at hn;refine⟨?_,fun z=>hn (.inr (by simpa using z))⟩;cases z:jK (H b)with
  |false=>rfl
  |true=>exact absurd (.inl z) hn
structure Fly(outer:List Env)(ex:List Addr)(H:Hp)(s:Shared)(ae C:Addr)(s':Shared):Prop where
 fl:∃a0,Heap.FlyingW (gD s.heap H (frs outer++ex)) outer ae (.ref C) a0 s'.heap
 slot:∀b∈frs outer,∀o,s.heap.get? b=some o->∃sl,s'.heap.get? b=some {o with slots:=sl}
 os:s'.os=s.os
 bare:AllBare s'.gens
noncomputable def CXf:CXT:=fun outer H s E e s'=>∃ae C,e=.ref ae/\Fly outer [] H s ae C s'/\E (.ref C) none H
section
variable {X:Cx}{jx:List (Addr×Obj)}{σ:L2.St}{H:Hp}{s:Shared}
theorem stays(I:Inv X jx σ H s)(kz:HOk X.prog X.w X.H_0 X.s_0.heap){ex:List Addr}(wc:∀b∈X.ex,b∈ex){b:Addr}{o:Obj}(e:(gD X.s_0.heap X.H_0 (X.fs++ex)).get? b=some o):
  s.heap.get? b=some o/\jK (H b)=false/\b∉frs X.stack/\b∉ex:=by
 obtain⟨e1,n,sv⟩:=yM e;have hb:b∉X.fs:=fun z=>sv (cc _ z)
 have hx:b∉ex:=fun z=>sv (bh _ z)
 have xa:b∉frs X.stack:=fun z=>by
  rcases ar.mp (I.sF b z)with q|q
  ·exact absurd (bu e1) (not_lt.mpr (q▸I.ok.above))
  ·exact hb q
 have Az:b∉X.ex:=fun z=>hx (wc b z)
 cases q:X.H_0 b with
 |none=>refine⟨I.base.keep b o e1 q hb Az,?_,xa,hx⟩;rw[I.base.free b o e1 q Az];rfl
 |some u=>
  rw[q]at n;cases u with
  |frz ob u=>have z:=I.base.oH b ob u q;obtain⟨e2,_⟩:=kz b _ q;obtain⟨e3,_⟩:=I.hok b _ z;rw[e1]at e2;cases e2;exact⟨e3,by rw[z];rfl,xa,hx⟩
  |_=>cases n
theorem jZ{h base yy:Heap}:∀{l:List Env},h.FunFrames base l->(∀b∈frs l,yy.get? b=none)->h.FunFrames yy l
 |[],_,_=>trivial
 |env::r,⟨hk,⟨L,o,hf,hn,ho,hd⟩,hr⟩,k=>by
  have e:frs (env::r)=L::frs r:=by unfold frs;rw[ej,hf]
  rw[e]at k;exact⟨hk,⟨L,o,hf,k L (by simp),ho,hd⟩,jZ hr fun b hb=>k b (by simp[hb])⟩
theorem BW(I:Inv X jx σ H s)(kz:HOk X.prog X.w X.H_0 X.s_0.heap){ex:List Addr}(wc:∀b∈X.ex,b∈ex):s.heap.FunFrames (gD X.s_0.heap X.H_0 (X.fs++ex)) X.stack:=
 jZ I.stack fun b hb=>by
  cases q:(gD X.s_0.heap X.H_0 (X.fs++ex)).get? b with
  |none=>rfl
  |some o=>exact absurd hb (stays I kz wc q).2.2.1
theorem kE(I:Inv X jx σ H s){b:Addr}(hb:b∈X.fs)(hx:b∉X.ex){o:Obj}(e:X.s_0.heap.get? b=some o):∃sl,s.heap.get? b=some {o with slots:=sl}:=I.base.slot b o e (I.ok.frf b hb) hb hx
end
section
variable {P:Program}{w:World}{K:W.Frag}{mg:Str->Option Value}{base:Heap}{N:List Str}{qual:Str}{scope:Scope}{f:Addr}{cd:Value}{A:Around}{outer:List Env}{s:Shared}{H:Hp}{E:XK}
 {jx:List (Addr×Obj)}{σ:L2.St}{H1:Hp}{s1:Shared}
noncomputable abbrev cxF(P:Program)(w:World)(K:W.Frag)(mg:Str->Option Value)(base:Heap)(N:List Str)(qual:Str)(scope:Scope)(f:Addr)(cd:Value)(A:Around)(outer:List Env)(s:Shared)(H:Hp)(E:XK):Cx:=uN CXf P w K mg base N qual scope f cd A outer s H E
theorem nS(l:List Addr):l++[]=l:=dc l
theorem GX(kz:HOk P w H s.heap)(I:Inv (cxF P w K mg base N qual scope f cd A outer s H E) jx σ H1 s1){h':Heap}{e C:Addr}{as:List Value}(hx:Heap.MadeExcOf s1.heap h' e (.ref C) as)(hE:E (.ref C) none H):
  (cxF P w K mg base N qual scope f cd A outer s H E).xe (.ref e) {s1 with heap:=h'}:=by
 have st:∀b o,(gD s.heap H (frs outer++[])).get? b=some o->s1.heap.get? b=some o:=fun b o q=>(stays I kz (ex:=[]) (fun _ z=>z) q).1
 refine wpAny_leaves_madeW (base:=gD s.heap H (frs outer++[])) (h:=s1.heap) (L:=s.heap.objs.size) (outer:=outer) I.ok.frames rfl st (BW I kz (fun _ z=>z)) hx fun h2 t fl tup hn up=>?_
 refine⟨e,C,rfl,⟨⟨_,fl⟩,fun b hb o q=>?_,I.os,I.bare⟩,hE⟩;obtain⟨sl,q1⟩:=kE I hb (by intro z;exact nomatch z) q;have fr:=(I.stack.mem (b:=b) (show b∈frs (_::outer) by
  unfold frs;rw[ej];exact aq _ hb)).2
 obtain⟨o2,q2,nf⟩:=fr;rw[q1]at q2;cases q2;obtain⟨uh,q3⟩:=up b _ (hx.keeps b _ q1) nf;exact⟨uh,q3⟩
theorem HK(kz:HOk P w H s.heap):Passes CXf (cxF P w K mg base N qual scope f cd A outer s H E) (fun c _ _=>E c none H):=by
 intro jx σ H1 s1 e s' I h;obtain⟨ae,C,rfl,⟨⟨a0,fl⟩,sl,os,bare⟩,hE⟩:=h;have An:Heap.FlyingW (gD s.heap H (frs outer++[])) (cxF P w K mg base N qual scope f cd A outer s H E).stack ae (.ref C) a0 s'.heap:=
  W.flyingW_base (fun b o q=>by
   obtain⟨z1,z2,z3,_⟩:=stays I kz (ex:=[]) (fun _ z=>z) q;exact gL z1 z2 (by rw[nS];exact z3)) fl
 refine wpAny_leaves_onW (L:=s.heap.objs.size) (outer:=outer) I.ok.frames rfl An fun h2 fl3 up=>?_
 refine⟨ae,C,rfl,⟨⟨_,fl3⟩,fun b hb o q=>?_,os.trans I.os,bare⟩,hE⟩;have xp:b∈frs (cxF P w K mg base N qual scope f cd A outer s H E).stack:=by
  show b∈frs (_::outer)
  unfold frs;rw[ej];exact aq _ hb
 obtain⟨sl1,q1⟩:=kE I hb (by intro z;exact nomatch z) q;obtain⟨uh,q2⟩:=sl b xp _ q1;obtain⟨o3,q3,nf⟩:=(fl.2.2.1.mem (b:=b) xp).2;rw[q2]at q3;cases q3;obtain⟨Au,q4⟩:=up b _ q2 nf;exact⟨Au,q4⟩
theorem eU(kz:HOk P w H s.heap){x:Str}{C:Addr}{B mq zl:String}{bm:List Value}{np kg pos:Pos}(FB:ExcBaseFacts B mq zl bm)(O:OwnCls x C bm mq mg base)
  (hg:Gl (cxF P w K mg base N qual scope f cd A outer s H E) x) (hd:(x==("__debug__" : Str))=false:=by decide):
  PS (cxF P w K mg base N qual scope f cd A outer s H E) (.Raise (some (.Call (.Name x np) [] [] kg)) none pos) (fun _ _ _=>E (.ref C) none H):=by
 intro jx s1 σ H1 D I h;obtain⟨tl,N,nm,q,bs,hdct,sn,sub,ab,col,dd,k0,k1,k2,k3,k5,mN,hC,hN,hni,T⟩:=O.obj;refine wpAny_Raise_call_subT (C:=C) (nm:=nm) (q:=q) (N:=N) (bs:=bs) (bm:=tl) (hdct:=hdct) (sn:=sn) (sub:=sub) (ab:=ab) (col:=col) (dd:=dd) (k0:=k0) (k1:=k1) (k2:=k2) (k3:=k3) (k5:=k5)
  FB (mN:=mN) (T.hasType FB.hasBase) (I.ok.hd rfl) rfl hni (jH I hg O.bound ⟨rfl,?_⟩ hd)
 exact evalArgs_empty ⟨rfl,cj _,I.bk _ _ hC,hN.keeps I.bk,T.keeps I.bk,fun h' e hx=>GX kz I hx h⟩
end
section
variable {P:Program}{w:World}{K:W.Frag}{mg:Str->Option Value}{base:Heap}
theorem J1{CX:CXT}{k:Nat}{f:Addr}{name qual:Str}{params:Arguments}{body:List Stmt}{scope:Scope}{dV kV mm pm kc ct oc:Value}{an od:Option Addr}
  {nv:Array (Option Value)}{N ps:List Str}{sp:Sp} (lk:K.lookup f=some ⟨oc,od,.func (W.fnOf name qual params body scope dV kV mm pm an kc ct),nv⟩) (pf:W.codeIn K kc qual=true) (S:aM N ps scope)
  (len:∀vs H Q E,sp vs H Q E->vs.length=ps.length)
  (mi:∀(A:Around)(outer:List Env)(s:Shared)(H:Hp)(vs:List V)(Q:VK)(E:XK),cY k (A.deeper (envOfC qual scope s.heap.objs.size f kc))->HOk P w H s.heap->sp vs H Q E ->
   ∃t,PSs (uN CX P w K mg base N qual scope f kc A outer s H E) body t/\t {nx:=fun _ H'=>Q .non H',rt:=Q} (start N vs) H):
  bO P w K mg base CX (k+1) f (W.fnOf name qual params body scope dV kV mm pm an kc ct) ps sp:=by
 refine⟨len,fun A outer s H args us vs Q E hr e0 hb r uz=>?_⟩;have hl:=len _ _ _ _ uz;have KX:K.In s.heap:=e0.mod.kin.keeps fun b o e=>(e0.bs b o e).1
 have zi:s.heap.NoLimit:=e0.mod.nolimit.keeps fun b o e=>(e0.bs b o e).1
 have qo:∀y∈ps.zip us,scope.names.lookup y.1=some .local\/(scope.names.lookup y.1=some .cell/\((cellsFrom (s.heap.objs.size+1) scope.names []).lookup y.1).isSome=true):=fun⟨n,v⟩ hy=>by
  rcases S.par n (of_mem_zip hy).1 with q|q
  ·exact .inl q
  ·exact .inr ⟨q,W.cellsFrom_some _ _ _ (.inl q)⟩
 refine codeAny_call_function hr.depth (KX _ _ lk) rfl S.co S.gen rfl (W.codeRec_of KX pf) (hb _ _ _ _ ?_);refine wpAny_newFunctionEnv_cells S.kind qo fun env he s1 x=>?_
 subst he;refine⟨zi.keeps x.toInCall.keep,codeAny_func ?_⟩;obtain⟨t,ht,hq⟩:=mi A outer s H vs Q E (hr.deeper _) e0.hok uz;have I:Inv (uN CX P w K mg base N qual scope f kc A outer s H E) [] (start N vs) H s1:=pU S hr.hd e0 hl r x;refine wpAny_mono (ht [] s1 (start N vs) H _ I hq) (fun fl s' hs=>?_) fun e s' hs=>hs
 have fin:∀{σ':L2.St}{H':Hp}{v:V}{u:Value},Inv (uN CX P w K mg base N qual scope f kc A outer s H E) [] σ' H' s'->RelV v u->Q v H'->CE outer P w H s Q u s':=
  fun{σ' H' v u} J rv q=>⟨v,H',J.os,J.bare,J.base,J.hok,rv,q⟩
 cases fl with
 |ret u=>obtain⟨v,σ',H',J,rv,q⟩:=hs;exact fin J rv q
 |next=>obtain⟨σ',H',J,q⟩:=hs;exact fin (v:=V.non) (u:=Value.none) J rfl q
 |brk=>obtain⟨_,_,_,q⟩:=hs;exact False.elim q
 |cont=>obtain⟨_,_,_,q⟩:=hs;exact False.elim q
theorem okX{x qual:Str}{st:Stmt}{f:Addr}{fd:FuncData}{N ps:List Str}{k:Nat}{sp:Sp}(F:Fun K x qual st f fd)(S:aM N ps (aI st))(len:∀vs H Q E,sp vs H Q E->vs.length=ps.length)
  (mi:∀(kc:Value)(A:Around)(outer:List Env)(s:Shared)(H:Hp)(vs:List V)(Q:VK)(E:XK),cY k (A.deeper (envOfC qual (aI st) s.heap.objs.size f kc))->HOk P w H s.heap->sp vs H Q E ->
   ∃t,PSs (cxF P w K mg base N qual (aI st) f kc A outer s H E) (fB st) t/\t {nx:=fun _ H'=>Q .non H',rt:=Q} (start N vs) H):bO P w K mg base CXf (k+1) f fd ps sp:=by
 obtain⟨oc,od,kV,mm,pm,an,kc,ct,nv,rfl,lk,pf⟩:=F.ex;exact J1 lk pf S len fun A outer s H vs Q E hr hk uz=>mi kc A outer s H vs Q E hr hk uz
end
section
variable {X:Cx}{x:Str}{pos:Pos}
def qI(mg:Str->Option Value)(x:Str)(n:Int):Prop:=∃t,mg x=some (.int n t)
theorem d3{n:Int}(h:qI X.mg x n)(hg:Gl X x)(hd:(x==("__debug__" : Str))=false:=by decide):PE X (.Name x pos) (tC (.int n)):=by obtain⟨t,h⟩:=h;exact CV (v:=.int n) hg h ⟨t,rfl⟩ hd
theorem f6{a:Addr}(h:X.mg x=some (.ref a))(hg:Gl X x)(hd:(x==("__debug__" : Str))=false:=by decide):PE X (.Name x pos) (tC (.ref a)):=CV (v:=.ref a) hg h rfl hd
end
noncomputable def CT2(K:W.Frag)(a:Addr)(ps:List (Int×Int)):Prop:=∃xs,(∀H,SqT K H a xs)/\Paired (fun v p=>∀H,C2 K H v p) xs ps
theorem pairs_at{α β:Type}{R:α->β->Prop}:∀{l:List α}{m:List β},Paired R l m->∀{i:Nat}{a:α},l[i]? =some a->∃b,m[i]? =some b/\R a b
 |_,_,.nil,_,_,h=>by simp at h
 |_,_,.cons r _,0,_,h=>by simp at h;subst h;exact⟨_,rfl,r⟩
 |_,_,.cons _ t,i+1,a,h=>by obtain⟨b,h1,h2⟩:=pairs_at t (i:=i) (a:=a) (by simpa using h);exact⟨b,by simpa using h1,h2⟩
theorem gS{α β:Type}{R:α->β->Prop}:∀{l:List α}{m:List β},Paired R l m->∀{i:Nat}{b:β},m[i]? =some b->∃a,l[i]? =some a/\R a b
 |_,_,.nil,_,_,h=>by simp at h
 |_,_,.cons r _,0,_,h=>by simp at h;subst h;exact⟨_,rfl,r⟩
 |_,_,.cons _ t,i+1,b,h=>by obtain⟨a,h1,h2⟩:=gS t (i:=i) (b:=b) (by simpa using h);exact⟨a,by simpa using h1,h2⟩
theorem pairs_len{α β:Type}{R:α->β->Prop}:∀{l:List α}{m:List β},Paired R l m->l.length=m.length
 |_,_,.nil=>rfl
 |_,_,.cons _ t=>by simp[pairs_len t]
theorem aY{α β:Type}{R:α->β->Prop}{a:α}{b:β}(r:R a b):∀{l:List α}{m:List β},Paired R l m->Paired R (l++[a]) (m++[b])
 |_,_,.nil=>.cons r .nil
 |_,_,.cons q t=>.cons q (aY r t)
theorem aJ{α β:Type}{R S:α->β->Prop}(f:∀a b,R a b->S a b):∀{l:List α}{m:List β},Paired R l m->Paired S l m
 |_,_,.nil=>.nil
 |_,_,.cons r t=>.cons (f _ _ r) (aJ f t)
theorem aU{xs:List V}{z:Int}{v:V}(h0:0<=z)(h:xs[z.toNat]? =some v):atI xs z=some v:=at_of (j:=z.toNat) (fj h0).symm h
abbrev PI:=Int×Int
abbrev PI3:=Int×Int×Int
noncomputable def LI(H:Hp)(v:V)(ns:List Int):Prop:=∃a,v=.ref a/\H a=some (.lst (ns.map V.int))
noncomputable def LLI(H:Hp)(a:Addr)(mr:List (List Int)):Prop:=∃xs,H a=some (.lst xs)/\Paired (LI H) xs mr
noncomputable def LT(H:Hp)(v:V)(ps:List PI):Prop:=∃a xs,v=.ref a/\H a=some (.lst xs)/\Paired (T2 H) xs ps
noncomputable def LLT(H:Hp)(v:V)(ws:List (List PI)):Prop:=∃a xs,v=.ref a/\H a=some (.lst xs)/\Paired (LT H) xs ws
theorem LI.mono{H H':Hp}{v:V}{ns:List Int}(e:a9 H H')(h:LI H v ns):LI H' v ns:=let⟨a,h1,h2⟩:=h;⟨a,h1,e _ _ h2⟩
theorem LT.mono{H H':Hp}{v:V}{ps:List PI}(e:a9 H H')(h:LT H v ps):LT H' v ps:=let⟨a,xs,h1,h2,h3⟩:=h;⟨a,xs,h1,e _ _ h2,aJ (fun _ _ q=>q.mono e) h3⟩
theorem LLT.mono{H H':Hp}{v:V}{ws:List (List PI)}(e:a9 H H')(h:LLT H v ws):LLT H' v ws:=let⟨a,xs,h1,h2,h3⟩:=h;⟨a,xs,h1,e _ _ h2,aJ (fun _ _ q=>q.mono e) h3⟩
def k2(p:PI):List Key:=[.inl p.1,.inl p.2]
def k3(p:PI3):List Key:=[.inl p.1,.inl p.2.1,.inl p.2.2]
theorem BK{p q:PI}(h:k2 p=k2 q):p=q:=by obtain⟨a,b⟩:=p;obtain⟨c,d⟩:=q;simp[k2]at h;rw[h.1,h.2]
theorem IL{p q:PI3}(h:k3 p=k3 q):p=q:=by obtain⟨a,b,e⟩:=p;obtain⟨c,d,f⟩:=q;simp[k3]at h;rw[h.1,h.2.1,h.2.2]
section
variable {κ:Type} [DecidableEq κ] {kf:κ->List Key} (hk:∀p q,kf p=kf q->p=q)
noncomputable def kvF(kf:κ->List Key)(kvs:List (κ×V)):List (List Key×V):=kvs.map fun x=>(kf x.1,x.2)
include hk in
theorem GC(kvs:List (κ×V))(k:κ):rZ (kvF kf kvs) (kf k)=RM.aN kvs k:=by
 unfold kvF;induction kvs with
 |nil=>rfl
 |cons x r ih=>
  rw[bo,RM.cM];by_cases e:x.1=k
  ·rw[ah e,n4 (by rw[e])]
  ·rw[af e,n6 (fun z=>e (hk _ _ z)),ih]
include hk in
theorem AV(kvs:List (κ×V))(k:κ)(v:V):putK (kvF kf kvs) (kf k) v=kvF kf (RM.dO kvs k v):=by
 unfold putK RM.dO kvF;have e1:((kvs.map fun x=>(kf x.1,x.2)).any fun kv=>decide (kv.1=kf k))=kvs.any fun x=>decide (x.1=k):=by
  rw[any_map];congr 1;funext x;simp only[Function.comp];by_cases e:x.1=k
  ·simp[e]
  ·have e':¬kf x.1=kf k:=fun z=>e (hk _ _ z)
   simp[e,e']
 rw[e1];split
 ·rw[fu,fu];apply fh;intro x _;simp only[Function.comp];by_cases e:x.1=k
  ·simp[e]
  ·have e':¬kf x.1=kf k:=fun z=>e (hk _ _ z)
   simp[e,e']
 ·simp
end
theorem f9{κ:Type}{kf:κ->List Key}(kvs:List (κ×V)):(kvF kf kvs).length=kvs.length:=by simp[kvF]
def D2(H:Hp)(a:Addr)(kvs:List (PI×V)):Prop:=H a=some (.dT (kvF k2 kvs))
def R2(H:Hp)(a:Addr)(kvs:List (PI×V)):Prop:=Rd H a (.dT (kvF k2 kvs))
def D3(H:Hp)(a:Addr)(kvs:List (PI3×V)):Prop:=H a=some (.dT (kvF k3 kvs))
def R3(H:Hp)(a:Addr)(kvs:List (PI3×V)):Prop:=Rd H a (.dT (kvF k3 kvs))
theorem D2.rd{H:Hp}{a:Addr}{kvs:List (PI×V)}(h:D2 H a kvs):R2 H a kvs:=.inl h
theorem D3.rd{H:Hp}{a:Addr}{kvs:List (PI3×V)}(h:D3 H a kvs):R3 H a kvs:=.inl h
theorem R2.mono{H H':Hp}{a:Addr}{kvs:List (PI×V)}(e:a9 H H')(h:R2 H a kvs):R2 H' a kvs:=a9.rd e h
theorem R3.mono{H H':Hp}{a:Addr}{kvs:List (PI3×V)}(e:a9 H H')(h:R3 H a kvs):R3 H' a kvs:=a9.rd e h
theorem R2.get{H:Hp}{a:Addr}{kvs:List (PI×V)}(h:R2 H a kvs){b:Addr}{p:PI}(hb:H b=some (.tup [.int p.1,.int p.2])):lG H a (.ref b) (RM.aN kvs p):=
 .inr ⟨_,k2 p,b,h,rfl,hb,(GC (fun _ _=>BK) kvs p).symm⟩
theorem R3.get{H:Hp}{a:Addr}{kvs:List (PI3×V)}(h:R3 H a kvs){b:Addr}{p:PI3}(hb:H b=some (.tup [.int p.1,.int p.2.1,.int p.2.2])):lG H a (.ref b) (RM.aN kvs p):=
 .inr ⟨_,k3 p,b,h,rfl,hb,(GC (fun _ _=>IL) kvs p).symm⟩
theorem D2.put{H:Hp}{a:Addr}{kvs:List (PI×V)}(h:D2 H a kvs){b:Addr}{p:PI}(hb:H b=some (.tup [.int p.1,.int p.2]))(v:V)(hl:kvs.length<sizeLine):LL H a (.ref b) v (upd H a (.dT (kvF k2 (RM.dO kvs p v)))):=
 .inr ⟨_,k2 p,b,h,rfl,hb,by rw[f9];exact hl,by rw[AV (fun _ _=>BK)]⟩
theorem D3.put{H:Hp}{a:Addr}{kvs:List (PI3×V)}(h:D3 H a kvs){b:Addr}{p:PI3}(hb:H b=some (.tup [.int p.1,.int p.2.1,.int p.2.2]))(v:V)(hl:kvs.length<sizeLine):LL H a (.ref b) v (upd H a (.dT (kvF k3 (RM.dO kvs p v)))):=
 .inr ⟨_,k3 p,b,h,rfl,hb,by rw[f9];exact hl,by rw[AV (fun _ _=>IL)]⟩
theorem a9.put{H0 H:Hp}{a:Addr}{o:HO}(e:a9 H0 H)(h:H0 a=none):a9 H0 (L2.upd H a o):=fun b u q=>by rw[aB (aH q h)];exact e b u q
theorem r6{h h' base:Heap}:∀{l:List Env},h.FunFrames base l->(∀b∈frs l,∀o,h.get? b=some o->(∀vs,o.data≠ .fields vs)->∃o',h'.get? b=some o'/\o'.data=o.data)->h'.FunFrames base l
 |[],_,_=>trivial
 |env::r,⟨hk,⟨L,o,hf,hn,ho,hd⟩,hr⟩,k=>by
  have e:frs (env::r)=L::frs r:=by unfold frs;rw[ej,hf]
  rw[e]at k;obtain⟨o',h1,h2⟩:=k L (by simp) o ho hd;exact⟨hk,⟨L,o',hf,hn,h1,fun vs=>h2▸hd vs⟩,r6 hr fun b hb=>k b (by simp[hb])⟩
theorem BI{M:Model}{A:Around}{E:Value->Shared->Prop}{s:Shared}{base:Heap}{env:Env}{outer:List Env}{L e:Addr}{cls a0 fl:Value}{Q:Unit->Shared->Prop}
  (xg:A.frames=some (env::outer)) (hf:env.frame=some L) (hkb:base.StaysIn s.heap) (qp:base.get? e=none) (hl:s.heap.FunFrames base (env::outer)) (ht:s.heap.TracedAtW base e cls a0 fl)
  (hQ:∀h',Heap.FlyingW base outer e cls a0 h'->s.heap.UpToSlots h'->Q () {s with heap:=h'}):wpAny M A (leaving env (.ref e)) Q E s:=by
 by_cases Af:fl=rawInt L
 ·subst Af;unfold leaving;refine aa (wpAny_noteFrame_againW hf ht (wpAny_landsW (l:=env::outer) ⟨hkb,qp,hl,ht⟩ fun h' fl' up=>?_));obtain⟨k1,k2,⟨_,_,k3⟩,k4⟩:=fl';exact hQ h' ⟨k1,k2,k3,k4⟩ up
 ·obtain⟨oe,vs,T,oT,ts,he,⟨qt,h0⟩,hd,h1,hnT,hTe,hT,xk,h3⟩:=ht;subst qt;have sz:3<ts.size:=(gu.mp h3).1;have qf:∀b,b≠T->(s.heap.update T (Obj.mapFields (·.setIfInBounds 3 Value.none))).get? b=s.heap.get? b:=fun b hb=>jl _ _ hb.symm
  have apart:∀b o,s.heap.get? b=some o->(∀ws,o.data≠ .fields ws)->b≠T:=fun b o hb nf z=>nf ts (by rw[z,hT]at hb;cases hb;exact xk)
  unfold leaving noteFrame;simp only[hf];refine aa (aa (wpAny_field he hd h1 ?_));rw[ah (by simp:(Value.ref T !=Value.none)=true)];refine aa (wpAny_field hT xk h3 ?_);rw[af (by simpa using Af)];refine aa (wpAny_setField hT xk sz (wpAny_newEntryW xg ?fr hf ((qf e hTe.symm).trans he) ?st qp hd (gu.mp h1).1 h0 fun h' left=>?fin));case fr=>exact hl.of_keeps fun b o hb nf=>⟨o,(qf b (apart b o hb nf)).trans hb,rfl⟩
  case st=>exact fun b o hb=>(qf b fun z=>by rw[z,hnT]at hb;cases hb).trans (hkb b o hb)
  case fin=>obtain⟨k1,⟨_,_,k2⟩,k3,k4⟩:=left;exact hQ h' ⟨k1,qp,k2,k3⟩ fun b o hb nf=>k4 b o ((qf b (apart b o hb nf)).trans hb) nf
noncomputable abbrev uP(X:Cx)(s:Shared)(H:Hp)(scope:Scope)(jz:Env)(fp:List Addr)(EC:Addr->Prop):Cx:=
 (X.blk s H scope jz fp).rF fun e s'=>∃ae C,e=.ref ae/\Fly X.stack fp H s ae C s'/\EC C/\∃m,s'.heap.Ns jz.locals m
section
variable {P:Program}{w:World}{K:W.Frag}{mg:Str->Option Value}{base:Heap}{N:List Str}{qual:Str}{jy:Scope}{f:Addr}{cd:Value}{A:Around}{outer:List Env}{s0:Shared}{H0:Hp}{E:XK}
theorem HL{X:Cx}{s:Shared}{H:Hp}{scope:Scope}{jz:Env}{fp:List Addr}(hk:HOk X.prog X.w H s.heap){E':Value->Prop}:Passes CXf (uP X s H scope jz fp fun C=>E' (.ref C)) (fun c _ _=>E' c):=by
 intro jx σ H1 s1 e s' I h;obtain⟨ae,C,rfl,⟨⟨a0,fl⟩,slot,os,bare⟩,hE⟩:=h;have An:Heap.FlyingW (gD s.heap H (frs X.stack++fp)) X.stack ae (.ref C) a0 s'.heap:=
  W.flyingW_base (fun b o q=>by
   obtain⟨z1,z2,z3,_⟩:=stays I hk (ex:=fp) (fun _ z=>z) q;exact gL z1 z2 (by rw[nS];exact z3)) fl
 refine⟨ae,C,rfl,⟨⟨a0,An⟩,fun b hb o q=>?_,os.trans I.os,bare⟩,hE,?_⟩
 ·obtain⟨sl1,q1⟩:=kE I (show b∈frs X.stack from hb) (fun z=>I.ok.C0 b z hb) q;obtain⟨uh,q2⟩:=slot b hb _ q1;exact⟨uh,q2⟩
 ·obtain⟨m,⟨oL,es,ep,Cu,hdL,r⟩,_⟩:=I.loc;have hnf:jz.locals∉frs X.stack:=fun z=>by obtain⟨_,o,ho,_⟩:=I.ok.kO.mem (b:=jz.locals) z;exact absurd (bu ho) (not_lt.mpr I.ok.above)
  have hid:jK (H1 jz.locals)=false:=by have z:H1 jz.locals=none:=I.free;rw[z];rfl
  exact⟨m,oL,es,ep,fl.1 _ _ (gL Cu hid (by rw[nS];exact hnf)),hdL,r⟩
theorem HU(kz:HOk P w H0 s0.heap){jx:List (Addr×Obj)}{σ:L2.St}{H3:Hp}{s3:Shared}{fp:List Addr}{scope:Scope}{cl:List (Str×Addr)}{use:Option (Value->Sem Unit)}{Qf:Value->Shared->Prop}{acc e:Value}{s':Shared}
  (I3:Inv (cxF P w K mg base N qual jy f cd A outer s0 H0 E) jx σ H3 s3) (yj:∀b∈fp,mY (cxF P w K mg base N qual jy f cd A outer s0 H0 E) jx H3 b)
  (hx:∃ae C,e=.ref ae/\Fly (cxF P w K mg base N qual jy f cd A outer s0 H0 E).stack fp H3 s3 ae C s'/\E (.ref C) none H0/\∃m,s'.heap.Ns s3.heap.objs.size m):
  notedBy (model P w) (cxF P w K mg base N qual jy f cd A outer s0 H0 E).A (compEnvC scope cl s3.heap.objs.size (cxF P w K mg base N qual jy f cd A outer s0 H0 E).env)
   (fun e s'=>compPost (model P w) (cxF P w K mg base N qual jy f cd A outer s0 H0 E).A (cxF P w K mg base N qual jy f cd A outer s0 H0 E).xe use Qf acc s3.heap.objs.size (.error e) s') e s':=by
 obtain⟨ae,C,rfl,⟨⟨a0,fl⟩,slot,os,bare⟩,hE,m,hn⟩:=hx;have low:∀b o,(gD s0.heap H0 (frs outer++[])).get? b=some o->b<s0.heap.objs.size:=fun b o q=>bu (yM q).1
 have An:Heap.FlyingW (gD s0.heap H0 (frs outer++[])) (cxF P w K mg base N qual jy f cd A outer s0 H0 E).stack ae (.ref C) a0 s'.heap:=
  W.flyingW_base (fun b o q=>by
   obtain⟨z1,z2,z3,_⟩:=stays I3 kz (ex:=[]) (fun _ z=>z) q;refine gL z1 z2 fun z=>(aw.mp z).elim z3 fun z=>?_
   rcases(yj b z).2.2.2.1 with y|y
   ·exact nomatch y
   ·exact absurd (low b o q) (not_lt.mpr y)) fl
 show wpAny (model P w) _ (noteFrame (.ref ae) (cxF P w K mg base N qual jy f cd A outer s0 H0 E).env) _ _ _
 refine wpAny_looks_onW (L:=s0.heap.objs.size) (outer:=outer) I3.ok.frames rfl An fun h1 xj up1=>?_
 have goal:∃m,h1.Ns s3.heap.objs.size m/\∀h',Heap.SameBut s3.heap.objs.size h1 h'->∀jz:Env,jz.locals=s3.heap.objs.size ->
   wpAny (model P w) (cxF P w K mg base N qual jy f cd A outer s0 H0 E).A (PySem.passOn "comprehension.variables-let-go" (.ref ae) jz:Sem Value) (fun _ _=>False) (cxF P w K mg base N qual jy f cd A outer s0 H0 E).xe {s' with heap:=h'}:=by
  have hn1:=up1.ns hn;refine⟨m,hn1,fun h2 sb jz _=>?_⟩;obtain⟨oL,es,ep,Cu,hdL,_⟩:=hn1;obtain⟨f1,f2,f3,oe,vs,T,oT,ts,he,hc,hd,h1',hnT,hTe,hT,xk,h3⟩:=xj;have nC:∀b o,h1.get? b=some o->(∃ws,o.data=.fields ws)->b≠s3.heap.objs.size:=fun b o q ⟨ws,z⟩ y=>by rw[y,Cu]at q;cases q;rw[hdL]at z;cases z
  have he2:h2.get? ae=some oe:=(sb.2 ae (nC ae oe he ⟨vs,hd⟩)).trans he;have yo:h2.get? T=some oT:=(sb.2 T (nC T oT hT ⟨ts,xk⟩)).trans hT;have sz:3<ts.size:=(gu.mp h3).1;unfold PySem.passOn setFlight;refine aa (wpAny_field he2 hd h1' ?_);rw[af (by simp:¬((Value.ref T==Value.none)=true))];refine aa (aa (wpAny_field he2 hd h1' ?_));rw[ah (by simp:(Value.ref T !=Value.none)=true)];refine wpAny_setField yo xk sz (wpAny_throw ?_);have qf:∀b,b≠T->(h2.update T (Obj.mapFields (·.setIfInBounds 3 (jz.frame.elim Value.none fun f=>rawInt f)))).get? b=h2.get? b:=fun b hb=>jl _ _ hb.symm
  have fr:∀b∈frs (cxF P w K mg base N qual jy f cd A outer s0 H0 E).stack,b≠s3.heap.objs.size:=fun b hb=>by obtain⟨_,o,q,_⟩:=I3.stack.mem (b:=b) hb;exact da (bu q)
  have nT:∀b o,h1.get? b=some o->(∀ws,o.data≠ .fields ws)->b≠T:=fun b o q nf y=>nf ts (by rw[y,hT]at q;cases q;exact xk)
  refine BI (base:=gD s0.heap H0 (frs outer++[])) (L:=s0.heap.objs.size) (outer:=outer) (cls:=.ref C) (a0:=a0) (fl:=jz.frame.elim Value.none fun f=>rawInt f) I3.ok.frames rfl ?st f2 ?fr ?tr fun h4 fl4 up4=>?fin
  case st=>intro b o q;have l1:=low b o q;have l2:b≠s3.heap.objs.size:=da (cb l1 I3.sz);rw[qf b fun z=>by rw[z,hnT]at q;cases q];exact(sb.2 b l2).trans (f1 b o q)
  case fr=>exact r6 f3 fun b hb o q nf=>⟨o,(qf b (nT b o q nf)).trans ((sb.2 b (fr b hb)).trans q),rfl⟩
  case tr=>exact⟨oe,vs,T,_,_,(qf ae hTe.symm).trans he2,hc,hd,h1',hnT,hTe,Heap.get?_update_self _ yo (Obj.isFreed_of_fields (Obj.data_mapFields xk _)),Obj.data_mapFields xk _,by simp[sz]⟩
  case fin=>
   refine⟨ae,C,rfl,⟨⟨_,fl4⟩,fun b hb o q=>?_,os.trans I3.os,bare⟩,hE⟩;have xp:b∈frs (cxF P w K mg base N qual jy f cd A outer s0 H0 E).stack:=by
    show b∈frs (_::outer)
    unfold frs;rw[ej];exact aq _ hb
   obtain⟨sl1,q1⟩:=kE I3 hb (by intro z;exact nomatch z) q;obtain⟨uh,q2⟩:=slot b xp _ q1;obtain⟨o3,q3,nf⟩:=(fl.2.2.1.mem (b:=b) xp).2;rw[q2]at q3;cases q3;obtain⟨Au,q4⟩:=up1 b _ q2 nf;have q5:=(qf b (nT b _ q4 nf)).trans ((sb.2 b (fr b xp)).trans q4);obtain⟨sl4,q6⟩:=up4 b _ q5 nf;exact⟨sl4,q6⟩
 cases use<;>exact goal
end
section
variable {P:Program}{w:World}{K:W.Frag}{mg:Str->Option Value}{base:Heap}{N:List Str}{qual:Str}{jy:Scope}{f:Addr}{cd:Value}{A:Around}{outer:List Env}{s0:Shared}{H0:Hp}{E:XK}
theorem yU{X:Cx}(hX:X=cxF P w K mg base N qual jy f cd A outer s0 H0 E)(kz:HOk P w H0 s0.heap){jx:List (Addr×Obj)}{s:Shared}{σ:L2.St}{H:Hp}{Q:VK}{mv tg iter:Expr}{scope:Scope}{own:List (Str×Nat)}{pos lj:Pos}{wi:TI}{g:TG}{te:TE}{use:Option (Value->Sem Unit)}{Qf:Value->Shared->Prop}
  (hN:X.N.Nodup) (I:Inv X jx σ H s) (hi:L2.PI X tg iter wi) (ok:p8 X.N X.env.scope scope own)
  (hg:∀(s:Shared)(H:Hp)(C:Addr)(cl:List (Str×Addr))(fp:List Addr),PG (uP X s H scope (compEnvC scope cl C X.env) fp fun C=>E (.ref C) none H0) tg g)
  (he:∀(s:Shared)(H:Hp)(C:Addr)(cl:List (Str×Addr))(fp:List Addr),HOk X.prog X.w H s.heap->PE (uP X s H scope (compEnvC scope cl C X.env) fp fun C=>E (.ref C) none H0) mv te) (hs:∀x,foldedSetIterable iter X.env x=pure x)
  (h:tLc wi g GH te (own.map (·.2)) σ H Q)
  (hRR:∀D C s' m H',Inv X jx σ H' s'->Q (.ref D) H'->s'.heap.Ns C m->mY X jx H' C->compPost (model X.prog X.w) X.A X.xe use Qf (.ref D) C (.ok .next) s'):
  wpAny (model X.prog X.w) X.A (comprehension (.ListComp mv [⟨tg,iter,[],0⟩] scope pos) scope X.env lj (newList []) false (eval iter X.env) use) Qf X.xe s:=by
 have mh:∀y∈scope.names,y.2=.free->∃c,X.env.cells.lookup y.1=some c:=fun y hy e=>by
  rcases ok.free y hy e with k|k
  ·exact I.ok.has _ (.inl k)
  ·exact I.ok.has _ (.inr k)
 refine wpAny_comprehension_free (use:=use) rfl hs (mV mh) ok.kind (fun y hy e=>by rw[ok.uniq y hy,e])
  (thn (hi jx s σ H _ I h) fun xv s1 hx=>thn hx fun itv s2 h2=>?_)
 obtain⟨it,fp,tn,J,H2,e,I2,T,zb,f2,q⟩:=h2;subst e;refine wpAny_newObj_type (qU ?_) (by show 0<=sizeLine;decide);generalize hD:s2.heap.objs.size=D;have hDn:H2 D=none:=I2.hok.fresh (ie hD);obtain⟨W,⟨m0,w0⟩,lh⟩:=q D hDn;generalize hs3:({s2 with heap:=s2.heap.push {cls:=.type "list",data:=.seq ([]:List Value).toArray}}:Shared)=s3;have I3:Inv X jx σ (upd H2 D (.lst [])) s3:=by rw[<- hs3];refine I2.laid (t':=s2.toks) (fun b o e=>ao _ e) (ie hD) ⟨cj _,[],0,.nil,?_⟩;rw[<- hD];exact bc _ rfl
 have h3:s3.heap=s2.heap.push {cls:=.type "list",data:=.seq ([]:List Value).toArray}:=by rw[<- hs3]
 have sz:∀b∈fp,b<s2.heap.objs.size:=fun b hb=>by obtain⟨o,e,_⟩:=T.obj _ _ zb b hb;exact bu e
 have f3:∀b∈fp,mY X jx (upd H2 D (.lst [])) b/\b<s3.heap.objs.size:=fun b hb=>by have kh:=sz b hb;refine⟨⟨?_,(f2 b hb).2⟩,by rw[h3,fy];exact jb kh⟩;rw[aB (by rw[<- hD];exact da kh)];exact(f2 b hb).1
 have As:tn 0 s3.heap:=T.keep _ _ _ zb fun b _ o e=>by rw[h3];exact ao _ e
 have I4':=rC I3 ok hN f3;have pg:=hg s3 (upd H2 D (.lst [])) s3.heap.objs.size (cellsFrom (s3.heap.objs.size+1) scope.names (bJ X.env.cells scope.names [])) fp;have pe:=he s3 (upd H2 D (.lst [])) s3.heap.objs.size (cellsFrom (s3.heap.objs.size+1) scope.names (bJ X.env.cells scope.names [])) fp I3.hok;show codeAny _ _ (.compStart (.ListComp mv [⟨tg,iter,[],0⟩] scope pos) 0 (.ref it) (.ref D) (compEnvC scope (cellsFrom (s3.heap.objs.size+1) scope.names (bJ X.env.cells scope.names [])) s3.heap.objs.size X.env)) (compPost (model X.prog X.w) X.A X.xe use Qf (.ref D) s3.heap.objs.size) {s3 with heap:=pushCells (s3.heap.push {cls:=.type "dict",data:=.dict #[]}) scope.names}
 have Ca:∀b∈fp,(upd H2 D (.lst [])) b=none:=fun b hb=>(f3 b hb).1.1
 generalize ow:cellsFrom (s3.heap.objs.size+1) scope.names (bJ X.env.cells scope.names [])=cl at I4' pg pe ⊢;have qj:∀e s',(uP X s3 (upd H2 D (.lst [])) scope (compEnvC scope cl s3.heap.objs.size X.env) fp fun C=>E (.ref C) none H0).xe e s' ->
   notedBy (model X.prog X.w) X.A (compEnvC scope cl s3.heap.objs.size X.env) (fun e s'=>compPost (model X.prog X.w) X.A X.xe use Qf (.ref D) s3.heap.objs.size (.error e) s') e s':=fun e s' hx=>by
  subst hX;exact HU kz I3 (fun b hb=>(f3 b hb).1) hx
 generalize hce:compEnvC scope cl s3.heap.objs.size X.env=ce at I4' pg pe qj ⊢;have cL:ce.locals=s3.heap.objs.size:=by subst hce;rfl
 have I4:Inv (uP X s3 (upd H2 D (.lst [])) scope ce fp fun C=>E (.ref C) none H0) [] (wipe σ (own.map (·.2))) (upd H2 D (.lst [])) {s3 with heap:=pushCells (s3.heap.push {cls:=.type "dict",data:=.dict #[]}) scope.names}:=I4'.rF _;generalize hH3:upd H2 D (.lst [])=H3 at I3 I4 pg pe w0 Ca f3 qj;generalize hs4:({s3 with heap:=pushCells (s3.heap.push {cls:=.type "dict",data:=.dict #[]}) scope.names}:Shared)=s4 at I4 ⊢;have Bq:tn 0 s4.heap:=T.keep _ _ _ As fun b _ o e=>by rw[<- hs4];exact pushCells_keeps _ _ _ _ (ao _ e)
 generalize hB:uP X s3 H3 scope ce fp (fun C=>E (.ref C) none H0)=B at I4 pg pe qj;have calm:B.calm=true:=by subst hB hX;rfl
 have oa:∀{σ':L2.St}{H':Hp}{s':Shared},Inv B [] σ' H' s'->(∀b∈fp,H' b=none)->∀b∈fp,mY B [] H' b:=fun{σ' H' s'} I' hn b hb=>by subst hB;exact⟨hn b hb,(I'.ok.exf b hb).1,I'.ok.C0 b hb,.inl hb,fun x c e=>(I'.ok.exf b hb).2 x c e,fun p hp=>absurd (show p∈([]:List (Addr×Obj))++[]from hp) (by simp)⟩
 have eP:B.prog=X.prog:=by subst hB;rfl
 have eW:B.w=X.w:=by subst hB;rfl
 have eK:B.K=X.K:=by subst hB;rfl
 have eA:B.A=X.A:=by subst hB;rfl
 have loop:codeAny (model X.prog X.w) X.A (.compLoop (.ListComp mv [⟨tg,iter,[],0⟩] scope pos) 0 (.ref it) (.ref D) ce) (compPost (model X.prog X.w) X.A X.xe use Qf (.ref D) s3.heap.objs.size) s4:=by
  refine oV (fun n s'=>∃i H',Inv B [] (wipe σ (own.map (·.2))) H' s'/\tn i s'.heap/\(∀b∈fp,H' b=none)/\W i n H') ?_ m0 ⟨0,H3,I4,Bq,Ca,w0⟩;rintro n s5 ⟨i,H5,I5,wo,n5,w5⟩;rcases lh i n H5 w5 with⟨stop,qq⟩|⟨go,Nx,hNx,step⟩
  ·have td:=T.done B eP eW eK calm i [] s5 _ H5 (fun _ _=>False) I5 (oa I5 n5) wo stop;rw[eA]at td;refine wN td fun r s6 ⟨hr,I6⟩=>?_
   subst hr;have I7:Inv X jx σ H5 s6:=by subst hB;exact I3.DU (ch:=fp) I6.os I6.base I6.hok I6.bare fun b hb=>⟨(f3 b hb).1.2.2.2.1,(f3 b hb).1.2.1,(f3 b hb).1.2.2.2.2.1,(f3 b hb).1.2.2.2.2.2⟩
   have nC:H5 s3.heap.objs.size=none:=by subst hB;have z:H5 ce.locals=none:=I6.free;rw[cL]at z;exact z
   obtain⟨m,hn⟩:∃m,s6.heap.Ns s3.heap.objs.size m:=by subst hB;obtain⟨m,hn,_⟩:=I6.loc;have hn:s6.heap.Ns ce.locals m:=hn;rw[cL]at hn;exact⟨m,hn⟩
   exact hRR D s3.heap.objs.size s6 m H5 I7 qq hn (I3.BX (ay _) nC)
  ·have ti:=T.item B eP eW eK calm i [] s5 _ H5 (fun _ _=>False) I5 (oa I5 n5) wo go;rw[eA]at ti;refine wN ti fun r s6 ⟨u,hr,h6⟩=>?_
   subst hr;refine wN h6 fun _ s7 ⟨x,H7,I7,r7,y7,yz,n7⟩=>?_
   have I7':=I7.pinned (oa I7 n7) (T.obj _ _ yz);have pg':=pg _ s7 _ H7 x u _ I7' r7 (step x H7 y7);rw[eP,eW,eA]at pg';have ee:B.env=ce:=by subst hB;rfl
   rw[ee]at pg';refine wpAny_mono pg' (fun _ s8 ⟨σ8,H8,I8,Ci,q8⟩=>?_) qj;have fin:∀{s':Shared}{H':Hp},Inv B ([]++pM fp s7.heap) σ8 H' s'->Nx H'->∃m,m<n/\∃i H',Inv B [] (wipe σ (own.map (·.2))) H' s'/\tn i s'.heap/\(∀b∈fp,H' b=none)/\W i m H':=fun{s' H'} I' nx=>by
    obtain⟨m',hm,w'⟩:=hNx H' nx;have uj:∀b∈fp,∀o,s7.heap.get? b=some o->s'.heap.get? b=some o/\H' b=none:=fun b hb o e=>
     let z:=I'.pin (b,o) (bh _ (bh _ (jG hb e)))
     ⟨z.1,z.2.1⟩
    have hl:(wipe σ (own.map (·.2))).length=σ8.length:=by rw[<- Ci,gZ]
    refine⟨m',hm,i+1,H',(I'.kB (jx:=[])).weak hl (fun j v e=>?_),T.keep _ _ _ yz fun b hb o e=>(uj b hb o e).1,fun b hb=>?_,w'⟩
    ·rw[<- Ci]at e;exact(lI e).1
    ·obtain⟨o,e,_⟩:=T.obj _ _ yz b hb;exact(uj b hb o e).2
   refine ai ?_;have q8:(if true=true then te σ8 H8 fun y H4=>∃acc,H4 D=some (.lst acc)/\acc.length<sizeLine/\Nx (upd H4 D (.lst (acc++[y])))else Nx H8):=q8;simp only[if_true]at q8 ⊢;have pe':=pe _ s8 σ8 H8 _ I8 q8;rw[eP,eW,eA,ee]at pe';refine wpAny_mono pe' (fun z s10 ⟨yv,H10,I10,r10,acc,Am,zo,nx⟩=>?_) qj;have ap:=JG (E:=notedBy (model X.prog X.w) X.A ce fun e s'=>compPost (model X.prog X.w) X.A X.xe use Qf (.ref D) s3.heap.objs.size (.error e) s') (Q:=fun _ s₅=>∃m,m<n/\∃i H',Inv B [] (wipe σ (own.map (·.2))) H' s₅/\tn i s₅.heap/\(∀b∈fp,H' b=none)/\W i m H') I10 Am zo r10 fun s11 I11=>fin I11 nx
   rw[eP,eW,eA]at ap;exact ap
 exact codeAny_compStart_list loop (T.self X.A 0 _ _ _ Bq loop)
theorem MG(kz:HOk P w H0 s0.heap){mv tg iter:Expr}{scope:Scope}{own:List (Str×Nat)}{pos:Pos}{wi:TI}{g:TG}{te:TE}(hc:(cxF P w K mg base N qual jy f cd A outer s0 H0 E).calm=true)(hN:N.Nodup)
  (hi:L2.PI (cxF P w K mg base N qual jy f cd A outer s0 H0 E) tg iter wi) (ok:p8 N jy scope own)
  (hg:∀(s:Shared)(H:Hp)(C:Addr)(cl:List (Str×Addr))(fp:List Addr),PG (uP (cxF P w K mg base N qual jy f cd A outer s0 H0 E) s H scope (compEnvC scope cl C (cxF P w K mg base N qual jy f cd A outer s0 H0 E).env) fp fun C=>E (.ref C) none H0) tg g)
  (he:∀(s:Shared)(H:Hp)(C:Addr)(cl:List (Str×Addr))(fp:List Addr),HOk P w H s.heap->PE (uP (cxF P w K mg base N qual jy f cd A outer s0 H0 E) s H scope (compEnvC scope cl C (cxF P w K mg base N qual jy f cd A outer s0 H0 E).env) fp fun C=>E (.ref C) none H0) mv te)
  (hs:∀x,foldedSetIterable iter (cxF P w K mg base N qual jy f cd A outer s0 H0 E).env x=pure x:=by intro _;rfl):
  PE (cxF P w K mg base N qual jy f cd A outer s0 H0 E) (.ListComp mv [⟨tg,iter,[],0⟩] scope pos) (tLc wi g GH te (own.map (·.2))):=by
 intro jx s σ H Q I h;rw[eval_ListComp];refine yU rfl kz hN I hi ok hg he hs h fun D C s' m H' I' q hn f=>⟨m,hn,fun xu sb=>?_⟩
 obtain⟨f0,f1,f2,f3,f4,f5⟩:=f;exact⟨.ref D,H',I'.turned (t':=s'.toks) (fun b o hb e=>(sb.2 b hb).trans e) f0 f1 f3 f4 f5,rfl,q⟩
theorem vD(kz:HOk P w H0 s0.heap){i:Nat}{y:Str}{py:Pos}{mv tg iter:Expr}{scope:Scope}{own:List (Str×Nat)}{pos ug:Pos}{wi:TI}{g:TG}{te:TE}(hc:(cxF P w K mg base N qual jy f cd A outer s0 H0 E).calm=true)(hN:N.Nodup)(hy:N[i]? =some y)(uv:jy.names.lookup y=some .local)
  (hsw:swapsWith (.ListComp mv [⟨tg,iter,[],0⟩] scope pos) (some (.Name y py)) ug.line (cxF P w K mg base N qual jy f cd A outer s0 H0 E).env=pure true)
  (hi:L2.PI (cxF P w K mg base N qual jy f cd A outer s0 H0 E) tg iter wi) (ok:p8 N jy scope own)
  (hg:∀(s:Shared)(H:Hp)(C:Addr)(cl:List (Str×Addr))(fp:List Addr),PG (uP (cxF P w K mg base N qual jy f cd A outer s0 H0 E) s H scope (compEnvC scope cl C (cxF P w K mg base N qual jy f cd A outer s0 H0 E).env) fp fun C=>E (.ref C) none H0) tg g)
  (he:∀(s:Shared)(H:Hp)(C:Addr)(cl:List (Str×Addr))(fp:List Addr),HOk P w H s.heap->PE (uP (cxF P w K mg base N qual jy f cd A outer s0 H0 E) s H scope (compEnvC scope cl C (cxF P w K mg base N qual jy f cd A outer s0 H0 E).env) fp fun C=>E (.ref C) none H0) mv te)
  (hs:∀x,foldedSetIterable iter (cxF P w K mg base N qual jy f cd A outer s0 H0 E).env x=pure x:=by intro _;rfl):
  PS (cxF P w K mg base N qual jy f cd A outer s0 H0 E) (.Assign [.Name y py] (.ListComp mv [⟨tg,iter,[],0⟩] scope pos) ug) (AL (tLc wi g GH te (own.map (·.2))) (iB i)):=by
 generalize hX:cxF P w K mg base N qual jy f cd A outer s0 H0 E=X at*;have Dv:X.N.Nodup:=by subst hX;exact hN
 have Cf:X.N[i]? =some y:=by subst hX;exact hy
 have Ce:X.env.scope.names.lookup y=some .local:=by subst hX;exact uv
 have ok':p8 X.N X.env.scope scope own:=by subst hX;exact ok
 intro jx s σ H D I h;rw[exec_Assign_Name_used _ _ _ _ hsw];refine aa (wpAny_standAt (aa ?_));show wpAny _ X.A (do let _<- comprehension (.ListComp mv [⟨tg,iter,[],0⟩] scope pos) scope X.env (firstIterPos [⟨tg,iter,[],0⟩] pos) (newList []) false (eval iter X.env) (some (assign (.Name y py) X.env))) _ _ s
 have h:tLc wi g GH te (own.map (·.2)) σ H (fun x H1=>iB i x σ H1 D.nx):=h;refine aa (thn (yU (Qf:=fun _ s'=>SP X jx D .next s') hX.symm kz Dv I hi ok' hg (fun s H C cl fp hk=>he s H C cl fp (by subst hX;exact hk)) hs h fun L C s' m H' I' q hn f=>?_) fun _ s' hq=>ai (ai hq));show wpAny _ _ (assign (.Name y py) X.env (.ref L)) _ _ _
 refine wpAny_assign_Name (pE (v:=V.ref L) I' Dv Cf (.inl Ce) rfl (fun s2 I2 ⟨a,sb,ha⟩=>?_) (.inr Ce));obtain⟨f0,f1,f2,f3,f4,f5⟩:=f;have haC:C≠a:=by
  rcases ha with z|z
  ·rw[z];exact f1
  ·exact fun e=>f4 y a z e.symm
 refine⟨m,hn.sameBut sb haC,fun h3 sb3=>?_⟩;exact⟨_,H',I2.turned (t':=s2.toks) (fun b o hb e=>(sb3.2 b hb).trans e) f0 f1 f3 f4 f5,q⟩
end
theorem T2.upd{H:Hp}{v:V}{p:Int×Int}{D:Addr}{xs:List V}{o:HO}(h:T2 H v p)(hD:H D=some (.lst xs)):T2 (L2.upd H D o) v p:=by obtain⟨a,e,q⟩:=h;exact⟨a,e,by rw[aB (dF q hD (by intro z;cases z))];exact q⟩
theorem T3.upd{H:Hp}{v:V}{p:Int×Int×Int}{D:Addr}{xs:List V}{o:HO}(h:T3 H v p)(hD:H D=some (.lst xs)):T3 (L2.upd H D o) v p:=by obtain⟨a,e,q⟩:=h;exact⟨a,e,by rw[aB (dF q hD (by intro z;cases z))];exact q⟩
theorem LT.upd{H:Hp}{b D:Addr}{zs:List PI}{xs:List V}{o:HO}(h:LT H (.ref b) zs)(hD:H D=some (.lst xs))(n:b≠D):LT (L2.upd H D o) (.ref b) zs:=by obtain⟨a,ys,e,q,pr⟩:=h;cases e;exact⟨b,ys,rfl,by rw[aB n];exact q,aJ (fun _ _ z=>z.upd hD) pr⟩
theorem LLI.apart{H:Hp}{p:Addr}{xs:List V}(hp:H p=some (.lst xs)){v:V}(hv:v∈xs){row:List Int}(h:LI H v row):∃b,v=.ref b/\b≠p/\H b=some (.lst (row.map V.int)):=by obtain⟨b,rfl,q⟩:=h;refine⟨b,rfl,fun z=>?_,q⟩;rw[z,hp]at q;have q:=HO.lst.inj (Option.some.inj q);rw[q]at hv;obtain⟨n,_,e⟩:=au.mp hv;cases e
theorem f7{α β:Type}{R:α->β->Prop}:∀{l:List α}{m:List β},Paired R l m->Paired R l.dropLast m.dropLast
 |_,_,.nil=>.nil
 |_,_,.cons _ .nil=>.nil
 |_,_,.cons r (.cons q t)=>.cons r (f7 (.cons q t))
theorem lQ{α β:Type}{R:α->β->Prop}:∀{l:List α}{m:List β},Paired R l m->Paired (fun a b=>a∈l/\b∈m/\R a b) l m
 |_,_,.nil=>.nil
 |_,_,.cons r t=>.cons ⟨by simp,by simp,r⟩ (aJ (fun _ _ ⟨h1,h2,h3⟩=>⟨aq _ h1,aq _ h2,h3⟩) (lQ t))
theorem nW{α:Type}{a:α}:∀{l:List α},a∈l.dropLast->a∈l
 |[],h=>by cases h
 |[_],h=>by cases h
 |x::y::r,h=>by
  rcases ar.mp h with rfl|h
  ·simp
  ·exact aq _ (nW h)
theorem tR{K:W.Frag}{a:Addr}{xs:List V}{g:TG}{tb:TS}{D:Ends}{σ:L2.St}{H:Hp}(Pv:Nat->L2.St->Hp->Prop)(h0:Pv 0 σ H)(hl:∀i σ H,i<=xs.length->Pv i σ H->SqL K H a xs)
  (hs:∀i x σ H T,xs[i]? =some x->Pv i σ H->H T=none->g (.ref T) σ (upd H T (.tup [.int (i:Nat),x])) fun σ2 H2=>tb {D with nx:=Pv (i+1),ct:=Pv (i+1),bk:=D.nx} σ2 H2) (hd:∀σ H,Pv xs.length σ H->D.nx σ H):
  ∃W:Nat->Nat->L2.St->Hp->Prop,(∃m,W 0 m σ H)/\∀i m σ H,W i m σ H ->
   ((Ite K a).stop i H/\D.nx σ H)\/((Ite K a).go i H/\∃N:L2.St->Hp->Prop,(∀σ' H',N σ' H'->∃m',m'<m/\W (i+1) m' σ' H')/\∀x H',(Ite K a).yld i H x H'->g x σ H' fun σ2 H2=>tb {D with nx:=N,ct:=N,bk:=D.nx} σ2 H2):=by
 refine⟨fun i m σ H=>m=xs.length - i/\i<=xs.length/\Pv i σ H,⟨xs.length,by simp,cj _,h0⟩,?_⟩;rintro i m σ H ⟨rfl,hi,p⟩;have q:=hl i σ H hi p;by_cases kh:i<xs.length
 ·refine .inr ⟨⟨xs,xs[i],q,by simp[kh]⟩,Pv (i+1),fun σ' H' p'=>⟨xs.length - (i+1),by omega,rfl,kh,p'⟩,fun x H' y=>?_⟩;obtain⟨T,z,rfl,hT,rfl,y⟩:=y;exact hs i z σ H T (y xs q) p hT
 ·have e:i=xs.length:=by omega
  subst e;exact .inl ⟨⟨xs,q,ay _⟩,hd σ H p⟩
theorem kP{d:Addr}{od:Obj}{kvs:List (List Key×V)}{g:TG}{tb:TS}{D:Ends}{σ:L2.St}{H:Hp}(Pv:Nat->L2.St->Hp->Prop)(h0:Pv 0 σ H)(hl:∀i σ H,Pv i σ H->H d=some (.frz od (.dT kvs)))
  (hs:∀i k v q σ H,kvs[i]? =some (k,v)->H q=some (.tup (k.map kV))->Pv i σ H->g (.ref q) σ H fun σ2 H2=>tb {D with nx:=Pv (i+1),ct:=Pv (i+1),bk:=D.nx} σ2 H2) (hd:∀σ H,Pv kvs.length σ H->D.nx σ H):
  ∃W:Nat->Nat->L2.St->Hp->Prop,(∃m,W 0 m σ H)/\∀i m σ H,W i m σ H ->
   ((A5 d od kvs).stop i H/\D.nx σ H)\/((A5 d od kvs).go i H/\∃N:L2.St->Hp->Prop,(∀σ' H',N σ' H'->∃m',m'<m/\W (i+1) m' σ' H')/\∀x H',(A5 d od kvs).yld i H x H'->g x σ H' fun σ2 H2=>tb {D with nx:=N,ct:=N,bk:=D.nx} σ2 H2):=by
 refine⟨fun i m σ H=>m=kvs.length - i/\i<=kvs.length/\Pv i σ H,⟨kvs.length,by simp,cj _,h0⟩,?_⟩;rintro i m σ H ⟨rfl,hi,p⟩;have q:=hl i σ H p;by_cases kh:i<kvs.length
 ·refine .inr ⟨⟨q,kh⟩,Pv (i+1),fun σ' H' p'=>⟨kvs.length - (i+1),by omega,rfl,kh,p'⟩,fun x H' y=>?_⟩;obtain⟨rfl,k,v,b,hk,rfl,hb⟩:=y;exact hs i k v b σ H' hk hb p
 ·have e:i=kvs.length:=by omega
  subst e;exact .inl ⟨⟨q,ay _⟩,hd σ H p⟩
theorem KG{d:Addr}{od:Obj}{kvs:List (List Key×V)}{g:TG}{tt:TT}{te:TE}{vs:List Nat}{σ:L2.St}{H1:Hp}{D:Addr}{Qd:Hp->Prop}(Pv:Nat->Hp->Prop)(h0:Pv 0 (upd H1 D (.lst [])))(hl:∀i H,Pv i H->H d=some (.frz od (.dT kvs)))
  (hs:∀i k v q H,kvs[i]? =some (k,v)->H q=some (.tup (k.map kV))->Pv i H->g (.ref q) (wipe σ vs) H fun σ2 H2=>wipe σ2 vs=wipe σ vs/\tt σ2 H2 fun b H3=>
   if b=true then te σ2 H3 fun y H4=>∃acc,H4 D=some (.lst acc)/\acc.length<sizeLine/\Pv (i+1) (upd H4 D (.lst (acc++[y])))else Pv (i+1) H3) (hd:∀H,Pv kvs.length H->Qd H):
  ∃W:Nat->Nat->Hp->Prop,(∃m,W 0 m (upd H1 D (.lst [])))/\∀i m H,W i m H ->
   ((A5 d od kvs).stop i H/\Qd H)\/((A5 d od kvs).go i H/\∃Nx:Hp->Prop,(∀H',Nx H'->∃m',m'<m/\W (i+1) m' H')/\∀x H',(A5 d od kvs).yld i H x H'->g x (wipe σ vs) H' fun σ2 H2=>wipe σ2 vs=wipe σ vs/\tt σ2 H2 fun b H3=>
    if b=true then te σ2 H3 fun y H4=>∃acc,H4 D=some (.lst acc)/\acc.length<sizeLine/\Nx (upd H4 D (.lst (acc++[y])))else Nx H3):=by
 refine⟨fun i m H=>m=kvs.length - i/\i<=kvs.length/\Pv i H,⟨kvs.length,by simp,cj _,h0⟩,?_⟩;rintro i m H ⟨rfl,hi,p⟩;have q:=hl i H p;by_cases kh:i<kvs.length
 ·refine .inr ⟨⟨q,kh⟩,Pv (i+1),fun H' p'=>⟨kvs.length - (i+1),by omega,rfl,kh,p'⟩,fun x H' y=>?_⟩;obtain⟨rfl,k,v,b,hk,rfl,hb⟩:=y;exact hs i k v b H' hk hb p
 ·have e:i=kvs.length:=by omega
  subst e;exact .inl ⟨⟨q,ay _⟩,hd H p⟩
theorem a9.unlock{H H2:Hp}{d:Addr}{od:Obj}{u:HO}(h:H d=some u)(e:a9 (L2.upd H d (.frz od u)) H2):a9 H (L2.upd H2 d u):=fun b o q=>by
 by_cases hb:b=d
 ·subst hb;rw[a8];rw[h]at q;exact q
 ·rw[aB hb];exact e b o (by rw[aB hb];exact q)
theorem T2.rG{H:Hp}{v:V}{p:Int×Int}{D:Addr}{u o:HO}(h:T2 H v p)(hD:H D=some u)(hu:∀xs,u≠ .tup xs):T2 (L2.upd H D o) v p:=by obtain⟨a,e,q⟩:=h;exact⟨a,e,by rw[aB (dF q hD (fun z=>hu _ z.symm))];exact q⟩
theorem T3.rG{H:Hp}{v:V}{p:Int×Int×Int}{D:Addr}{u o:HO}(h:T3 H v p)(hD:H D=some u)(hu:∀xs,u≠ .tup xs):T3 (L2.upd H D o) v p:=by obtain⟨a,e,q⟩:=h;exact⟨a,e,by rw[aB (dF q hD (fun z=>hu _ z.symm))];exact q⟩
theorem JE{xs:List V}{k:Nat}{v:V}(hk:k<xs.length)(h:xs[if k=0 then xs.length - 1 else k - 1]? =some v):atI xs ((k:Int) - 1)=some v:=by
 by_cases h0:k=0
 ·subst h0;rw[ah rfl]at h;unfold atI ixN;rw[af (by omega),ah (by omega)];show xs[(((0:Nat):Int) - 1+(xs.length:Int)).toNat]? =some v
  rw[show(((0:Nat):Int) - 1+(xs.length:Int)).toNat=xs.length - 1 by omega];exact h
 ·rw[af h0]at h;exact aU (by omega) (by rw[show((k:Int) - 1).toNat=k - 1 by omega];exact h)
def CS(C:List (Nat×Nat)):List (PI×V):=C.map fun c=>(RM.iP c,.bl true)
theorem m6(C:List (Nat×Nat)):(CS C).map (·.1)=C.map RM.iP:=by simp[CS]
theorem fJ{a b:Nat×Nat}(h:RM.iP a=RM.iP b):a=b:=by unfold RM.iP at h;have h1:=congrArg Prod.fst h;have h2:=congrArg Prod.snd h;simp at h1 h2;exact Prod.ext (by omega) (by omega)
theorem E5(C:List (Nat×Nat))(c:Nat×Nat)(h:c∉C):RM.dO (CS C) (RM.iP c) (.bl true)=CS (C++[c]):=by
 rw[RM.fY]
 ·simp[CS]
 ·rw[m6];intro z;obtain⟨d,hd,e⟩:=au.mp z;exact h (fJ e▸hd)
theorem qJ(C:List (Nat×Nat)):(CS C).length=C.length:=by simp[CS]
theorem NN(C:List (Nat×Nat))(q:PI):(RM.aN (CS C) q).isSome=true↔q∈C.map RM.iP:=by rw[RM.aW,m6]
end L3
namespace L3
open PySem PySem.Spec PySem.Calls PyProof.Rows L2
structure k6(h:Heap)(d:Addr)(o:Obj)(es:Array DictEntry)(ep:Nat):Prop where
 at_:h.get? d=some o
 ex:o.ExactDict
 dat:o.data=.dict es ep
theorem k6.ty{s:Shared}{d:Addr}{o:Obj}{es:Array DictEntry}{ep:Nat}(e:k6 s.heap d o es ep):s.TypeIs (.ref d) "dict" :=⟨o,e.at_,e.ex.1⟩
theorem k6.to{h h':Heap}{d:Addr}{o:Obj}{es:Array DictEntry}{ep:Nat}(e:k6 h d o es ep)(k:∀q,h.get? d=some q->h'.get? d=some q):k6 h' d o es ep:=⟨k _ e.at_,e.ex,e.dat⟩
section
variable {X:Cx}{jx:List (Addr×Obj)}{σ:L2.St}{H:Hp}{s:Shared}{a:Addr}{kvs:List (List Key×V)}
theorem oQ(I:Inv X jx σ H s)(e:Rd H a (.dT kvs)):(a==sysModules)=false/\kvs.length<=sizeLine/\∃o es ep,k6 s.heap a o es ep/\es.size=kvs.length/\
  ∀(i:Nat)(en:DictEntry),es[i]? =some en->∃k v q,kvs[i]? =some (k,v)/\en.key=.ref q/\H q=some (.tup (k.map kV))/\RelV v en.val:=by
 obtain⟨z,hs,xs,kt,o,es,ep,ho,hx,lz,hes,_,_⟩:=oR I.hok e;refine⟨hs,z,o,es,ep,⟨ho,hx,lz⟩,?_,fun i en qp=>?_⟩
 ·rw[size_of_entries hes,<- Paired.length kt]
 ·rw[entry_at hes i]at qp;cases hxs:xs[i]? with
  |none=>rw[hxs]at qp;cases qp
  |some x=>rw[hxs]at qp;obtain⟨⟨k,v⟩,hk,e1,e2,e3⟩:=gS kt hxs;cases qp;exact⟨k,v,x.2.1,hk,rfl,e2,e3⟩
end
section
variable {prog:Program}{w:World}{A:Around}{E:Value->Shared->Prop}{s:Shared}{d:Addr}{o:Obj}{es:Array DictEntry}{ep:Nat}
theorem BC(hs:(d==sysModules)=false):MeetsIn prog w (Builtin.«dict.__len__» ⟨[.ref d],[]⟩) fun _ R s=>∃o es ep,k6 s.heap d o es ep/\R (.ok (.ret (.int es.size s.toks))) {s with toks:=s.toks+1}:=
 .of_wp fun A R s q=>by
  obtain⟨o,es,ep,e,hR⟩:=q;show wpAny _ _ (dictSize d>>=fun _=>_) _ _ s
  delta dictSize
  exact aa (aa (wpAny_dictEntries e.at_ e.dat (ai (show wpAny _ _ (Builtin.Dict.pendingCount d>>=fun _=>_) _ _ s from aa (wpAny_pendingCount_other hs (wpAny_ret_mkInt (by rw[Nat.add_zero];exact hR)))))))
theorem EY{Q:Value->Shared->Prop}(hs:(d==sysModules)=false)(e:k6 s.heap d o es ep)(hf:(es.size:Int)<2^63)(hQ:Q (.int es.size (s.toks+1)) {s with toks:=s.toks+1+1}):
  wpAny (model prog w) A (Builtin.«len» ⟨[.ref d],[]⟩) (fun fin s'=>∃r,fin=.done (.ret r)/\Q r s') E s:=by
 delta Builtin.«len»
 refine aa (m:=oneArg "len" _) (ai (aa (m:=callSpecial? (.ref d) (Str.ofString "__len__")) (wpAny_callSpecial?_slot (name:=Str.ofString "__len__") e.ty F.slot_dict_len (call_meetsIn F.slot_dict_len e.ty F.entry_dict_len (F.args_dict_len_1 _) (BC hs) ⟨o,es,ep,e,?_⟩))));show wpAny _ _ _ _ _ {s with toks:=s.toks+1}
 refine aa (wpAny_holding (ai (aa (wpAny_letGo ?_))));have n1:¬(((es.size:Nat):Int)<0):=by omega
 have n2:¬(((es.size:Nat):Int)>=2^63):=by omega
 show wpAny _ _ (if((es.size:Nat):Int)<0 then _ else if((es.size:Nat):Int)>=2^63 then _ else _) _ _ _
 rw[af n1,af n2];exact aa (wpAny_mkInt (ai ⟨_,rfl,hQ⟩))
theorem LW(hh:A.handled=none)(I:Addr)(kb:d≠I)(hx:o.ExactDict)(lz:o.data=.dict es ep):Walks prog w A I [I,d] [I] es.size (fun i v=>∃en,es[i]? =some en/\v=en.key) (fun i h=>h.IsKeyIter I d i es.size ep/\k6 h d o es ep) where
 sub:=fun b hb=>by rw[iq]at hb;rw[hb];exact bj
 frame:=fun _ _ _ st k=>⟨st.1.at fun q e=>k I bj q e,st.2.to fun q e=>k d (aq _ bj) q e⟩
 item:=fun i s Q E hi st hQ=>by
  have he:es[i]? =some es[i]:=gd hi;refine mD st.1 st.2.at_ lz rfl he fun h' it' sb=>?_
  exact hQ _ h' s.toks ⟨_,he,rfl⟩ ⟨it',st.2.to fun q e=>(sb.2 d kb).trans e⟩ fun b q hb e=>(sb.2 b (fun z=>hb (z▸bj))).trans e
 done:=fun s Q E st hQ=>jF hh st.1 st.2.at_ lz rfl (ay _) fun h' eb=>hQ h' s.toks fun b q hb e=>eb b q (fun z=>hb (z▸bj)) e
 self:=fun _ _ _ _ st hQ=>wpAny_pyIter_keyiter st.1 hQ
theorem O4(hs:(d==sysModules)=false)(hx:o.ExactDict)(lz:o.data=.dict es ep):W.KdlSrc prog w "dict" d d es.size (fun i v=>∃en,es[i]? =some en/\v=en.key) (fun h=>k6 h d o es ep) where
 type:=fun _ e=>e.ty
 there:=fun _ e=>⟨bu e.at_,bu e.at_⟩
 keep:=fun _ _ e k=>e.to fun q z=>k d (.inl rfl) q z
 notList:=by decide
 notTuple:=by decide
 hint:=fun _ _ _ _ e hq=>W.kdl_hint_dict e.ty hq
 iter:=fun A s hh e=>⟨_,_,fun _ _ hq=>pT hs e.at_ e.ex e.dat hq,LW hh _ (da (bu e.at_)) hx lz,⟨⟨_,bc _ rfl,rfl,rfl⟩,e.to fun q z=>ao _ z⟩⟩
end
noncomputable def lF(H:Hp)(qs:List V)(kvs:List (List Key×V)):Prop:=Paired (fun v (kv:List Key×V)=>∃q,v=.ref q/\H q=some (.tup (kv.1.map kV))) qs kvs
theorem D9{H:Hp}{kvs:List (List Key×V)}:∀{us:List Value},us.length=kvs.length->(∀(j:Nat)(u:Value),us[j]? =some u->∃k v q,kvs[j]? =some (k,v)/\u=.ref q/\H q=some (.tup (k.map kV)))->∃qs,Vals qs us/\lF H qs kvs:=by
 induction kvs with
 |nil=>intro us hl _;exact⟨[],by rw[fx hl];exact .nil,.nil⟩
 |cons kv r ih=>
  intro us hl hu;match us,hl with
  |u::us,hl=>
   obtain⟨k,v,q,e1,e2,e3⟩:=hu 0 u rfl;obtain⟨qs,h1,h2⟩:=ih (us:=us) (by simpa using hl) fun j x hx=>by simpa using hu (j+1) x (by simpa using hx)
   have e1:kv=(k,v):=by simpa using e1
   exact⟨.ref q::qs,.cons e2 h1,.cons ⟨q,rfl,by rw[e1];exact e3⟩ h2⟩
section
variable {X:Cx}
theorem m4:lH X (.builtin "len") (fun xs H Q=>∃a kvs,xs=[V.ref a]/\Rd H a (.dT kvs)/\Q (.int kvs.length) H):=by intro jx s σ H xs us Q I r h;obtain⟨a,kvs,rfl,ha,q⟩:=h;obtain⟨u,rfl,ru⟩:=vals1 r;cases ru;obtain⟨hs,hz,o,es,ep,e,sz,_⟩:=oQ I ha;have hn:=mP;exact Calls.call_function_entry kind_len plain_len entry_len (args_len1 _) (EY hs e (by rw[sz];omega) ⟨.int kvs.length,H,I.tok _,⟨_,by rw[sz]⟩,q⟩)
theorem C9(hc:X.calm=true):lH X (.type "list") (fun xs H Q=>∃a kvs,xs=[V.ref a]/\Rd H a (.dT kvs)/\∀l qs,H l=none->lF H qs kvs->Q (.ref l) (upd H l (.lst qs))):=by
 intro jx s σ H xs us Q I r h;obtain⟨a,kvs,rfl,ha,q⟩:=h;obtain⟨u,rfl,ru⟩:=vals1 r;cases ru;obtain⟨hs,hz,o,es,ep,e,sz,en⟩:=oQ I ha;refine W.kdl_call (O4 hs e.ex e.dat) (I.ok.hd hc) e (by rw[sz];exact hz) fun h' tk acc c kp hl it=>?_
 obtain⟨qs,v1,v2⟩:=D9 (H:=H) (kvs:=kvs) (us:=acc.toList) (by rw[dq,it.1,sz]) fun j x hx=>by obtain⟨n,hn,e2⟩:=it.2 j x (by rw[<- iu];exact hx);obtain⟨k,v,p,e3,e4,e5,_⟩:=en j n hn;exact⟨k,v,p,e3,e2.trans e4,e5⟩
 have km:qs.length<=sizeLine:=by rw[pairs_len v2];exact hz
 exact⟨.ref s.heap.objs.size,_,I.laid (a:=s.heap.objs.size) (o:=.lst qs) kp (ay _) ⟨km,acc.toList,c,v1,by rw[Array.toArray_toList];exact hl⟩,rfl,q _ qs (I.hok.fresh (ay _)) v2⟩
end
end L3
namespace L3
open PySem PySem.Spec PyProof.Rows L2
theorem A7(C:List (Nat×Nat))(q:PI):(RM.aN (CS C) q).isSome=decide (q∈RM.iW C):=by rw[di,NN,decide_eq_true_iff];rfl
theorem j9{i:Nat}{x:V}(h:([.int 0,.int 1,.int 2,.int 3]:List V)[i]? =some x):i<4/\x=.int (i:Nat):=by
 have hi:i<4:=(ak.mp h).1;refine⟨hi,?_⟩;have cs:i=0\/i=1\/i=2\/i=3:=by omega
 rcases cs with rfl|rfl|rfl|rfl<;>(cases h;rfl)
theorem not_true{b:Bool}(h:¬b=true):b=false:=by simpa using h
def nX(H:Hp)(p:Addr):Nat:=match H p with|some (.lst xs)=>xs.length|_=>0
def m8(H:Hp)(p:Addr):Nat:=match H p with|some (.dT kvs)=>kvs.length|_=>0
theorem lU{H:Hp}{p:Addr}{xs:List V}(h:H p=some (.lst xs)):nX H p=xs.length:=by unfold nX;rw[h]
theorem D6{H:Hp}{p:Addr}{kvs:List (List Key×V)}(h:H p=some (.dT kvs)):m8 H p=kvs.length:=by unfold m8;rw[h]
theorem yT{H:Hp}{p:Addr}{kvs:List (PI×V)}(h:D2 H p kvs):m8 H p=kvs.length:=by rw[D6 h,f9]
theorem II{H:Hp}{p:Addr}{kvs:List (PI3×V)}(h:D3 H p kvs):m8 H p=kvs.length:=by rw[D6 h,f9]
theorem FT(xs:List V):FU xs none (some 1)=xs.take 1:=by
 unfold FU;cases xs with
 |nil=>rfl
 |cons x r=>
  have e:HT.sIx (x::r).length (x::r).length (some 1)=1:=by simp[HT.sIx]
  have e0:HT.sIx (x::r).length 0 none=0:=by simp[HT.sIx]
  rw[e,e0];rfl
theorem yY{H:Hp}{qs:List V}{kvs:List (PI×V)}(h:lF H qs (kvF k2 kvs)):Paired (T2 H) qs (kvs.map (·.1)):=by
 unfold lF kvF at h;induction kvs generalizing qs with
 |nil=>cases h;exact .nil
 |cons x r ih=>
  rw[bo]at h;cases h with
  |cons h t=>exact .cons h (ih t)
theorem tI{kvs:List (PI×V)}{i:Nat}{k:List Key}{v:V}(h:(kvF k2 kvs)[i]? =some (k,v)):∃p,kvs[i]? =some (p,v)/\k=k2 p:=by
 unfold kvF at h;rw[ax]at h;cases e:kvs[i]? with
 |none=>rw[e]at h;cases h
 |some x=>rw[e]at h;cases h;exact⟨x.1,rfl,rfl⟩
theorem BJ{kvs:List (PI3×V)}{i:Nat}{k:List Key}{v:V}(h:(kvF k3 kvs)[i]? =some (k,v)):∃p,kvs[i]? =some (p,v)/\k=k3 p:=by
 unfold kvF at h;rw[ax]at h;cases e:kvs[i]? with
 |none=>rw[e]at h;cases h
 |some x=>rw[e]at h;cases h;exact⟨x.1,rfl,rfl⟩
def IV{κ:Type}(l:List (κ×Int)):List (κ×V):=l.map fun x=>(x.1,V.int x.2)
theorem rQ{κ:Type}(l:List (κ×Int)):(IV l).map (·.1)=l.map (·.1):=by simp[IV]
theorem fD{κ:Type}(l:List (κ×Int)):(IV l).length=l.length:=by simp[IV]
theorem fE{κ:Type}[DecidableEq κ](k:κ):∀l:List (κ×Int),RM.aN (IV l) k=(RM.aN l k).map V.int
 |[]=>rfl
 |x::r=>by
  show RM.aN ((x.1,V.int x.2)::IV r) k=_
  rw[RM.cM,RM.cM,fE k r];by_cases e:x.1=k
  ·rw[ah e,ah e];rfl
  ·rw[af e,af e]
theorem qH{κ:Type}[DecidableEq κ](k:κ)(v:Int)(l:List (κ×Int)):RM.dO (IV l) k (.int v)=IV (RM.dO l k v):=by
 unfold RM.dO;have e:((IV l).any fun x=>decide (x.1=k))=l.any fun x=>decide (x.1=k):=by unfold IV;rw[any_map];rfl
 rw[e];split
 ·unfold IV;rw[fu,fu];apply fh;intro x _;simp only[Function.comp];split<;>rfl
 ·simp[IV]
theorem DZ{κ:Type}[DecidableEq κ](k:κ)(l:List (κ×Int)):(RM.aN (IV l) k).isSome=(RM.aN l k).isSome:=by rw[fE];cases RM.aN l k<;>rfl
theorem a9.both{H H1:Hp}{c:Addr}{x:HO}(e:a9 H H1):a9 (L2.upd H c x) (L2.upd H1 c x):=fun b o h=>by
 by_cases hb:b=c
 ·subst hb;rw[a8]at h ⊢;exact h
 ·rw[aB hb]at h ⊢;exact e b o h
theorem fH{H:Hp}{c h:Addr}{o:HO}{u:HO}(hc:H c=some u)(hh:H h=none):(L2.upd H c o) h=none:=by rw[aB (aH hc hh).symm];exact hh
def But(a:Addr)(H H':Hp):Prop:=∀b u,b≠a->H b=some u->H' b=some u
theorem But.refl(a:Addr)(H:Hp):But a H H:=fun _ _ _ h=>h
theorem But.trans{a:Addr}{H H1 H2:Hp}(x:But a H H1)(y:But a H1 H2):But a H H2:=fun b u n h=>y b u n (x b u n h)
theorem a9.but{a:Addr}{H H':Hp}(e:a9 H H'):But a H H':=fun b u _ h=>e b u h
theorem But.here{a:Addr}{H H1:Hp}{o:HO}(x:But a H H1):But a H (L2.upd H1 a o):=fun b u n h=>by rw[aB n];exact x b u n h
theorem But.put{a x:Addr}{H H1:Hp}{o:HO}(e:But a H H1)(h:H x=none):But a H (L2.upd H1 x o):=fun b u n q=>by rw[aB (aH q h)];exact e b u n q
theorem T2.but{a:Addr}{H H':Hp}{v:V}{p:PI}{u:HO}(h:T2 H v p)(e:But a H H')(ha:H a=some u)(hu:∀xs,u≠ .tup xs):T2 H' v p:=by obtain⟨b,rfl,q⟩:=h;exact⟨b,rfl,e b _ (dF q ha (fun z=>hu _ z.symm)) q⟩
theorem But.same{a:Addr}{H0 H H':Hp}(e:But a H H')(s:a9 H0 H)(ha:H0 a=none):a9 H0 H':=fun b u q=>e b u (aH q ha) (s b u q)
theorem rM{p:Prop}{i:Decidable p}(h:(!@decide p i)=true):¬p:=fun z=>by rw[decide_eq_true z]at h;cases h
theorem nU{p:Prop}{i:Decidable p}(h:¬(!@decide p i)=true):p:=by
 by_cases z:p
 ·exact z
 ·rw[decide_eq_false z]at h;exact absurd rfl h
def KS{κ:Type}(l:List κ):List (κ×V):=l.map fun p=>(p,V.bl true)
theorem xR{κ:Type}(l:List κ):(KS l).map (·.1)=l:=by simp[KS,Function.comp_def]
theorem CG{κ:Type}(l:List κ):(KS l).length=l.length:=by simp[KS]
theorem JJ{κ:Type}[DecidableEq κ](l:List κ)(k:κ):(RM.aN (KS l) k).isSome=decide (k∈l):=by rw[di,RM.aW,xR,decide_eq_true_iff]
theorem LK{κ:Type}[DecidableEq κ]{l:List κ}{k:κ}(h:k∉l):RM.dO (KS l) k (.bl true)=KS (l++[k]):=by rw[RM.fY _ (by rw[xR];exact h)];simp[KS]
def ixs(l:List Int):List (Int ⊕ List Nat):=l.map Sum.inl
def leI(a b:List Int):Prop:=lexLt itemOrd (ixs b) (ixs a)=false
abbrev eE:Nat->Bool:=fun _=>false
theorem mB:∀{ks:List Int}{us:List Value}(i:Nat),Vals (ks.map V.int) us->tupItems eE i us=some (ixs ks)
 |[],us,i,r=>by rw[ja]at r;cases r;rfl
 |k::ks,us,i,r=>by
  rw[bo]at r;cases r with
  |cons h t=>
   obtain⟨tk,rfl⟩:=h;show(if eE i=true then none else(tupItems eE (i+1) _).map (Sum.inl k::·))=_
   rw[af (show¬eE i=true from bp),mB (i+1) t];rfl
section
variable {X:Cx}{jx:List (Addr×Obj)}{σ:L2.St}{H:Hp}{s:Shared}
theorem MS(I:Inv X jx σ H s){b:Addr}{ks:List Int}(h:H b=some (.tup (ks.map V.int))):G.tupKeyC s.heap eE (.ref b)=some (ixs ks):=by
 obtain⟨its,rv,⟨o,ho,hc,n,hd⟩,_⟩:=I.tuple (SqT.of (K:=X.K) h);have e1:G.isTupObj s.heap (.ref b)=true:=by
  show(match s.heap.get? b with|some o=>(match o.cls with| .type n=>n== "tuple" |_=>false)|none=>false)=true
  rw[ho];show(match o.cls with| .type n=>n== "tuple" |_=>false)=true
  rw[hc];rfl
 have e2:tupKey s.heap eE (.ref b)=some (ixs ks):=by
  show(match s.heap.get? b with|some o=>(match o.data with| .seq xs _=>tupItems eE 0 xs.toList|_=>none)|none=>none)=_
  rw[ho];show(match o.data with| .seq xs _=>tupItems eE 0 xs.toList|_=>none)=_
  rw[hd];exact mB 0 rv
 unfold G.tupKeyC;rw[ah e1,e2]
theorem LX(I:Inv X jx σ H s){b:Addr}{ks:List Int}(h:H b=some (.tup (ks.map V.int)))(kb:ks≠[]):∃f,TupOf s.heap eE (.ref b) f:=by
 obtain⟨its,rv,⟨o,ho,hc,n,hd⟩,_⟩:=I.tuple (SqT.of (K:=X.K) h);cases ks with
 |nil=>exact absurd rfl kb
 |cons k ks=>
  rw[bo]at rv;cases rv with
  |cons r t=>obtain⟨tk,rfl⟩:=r;exact⟨.int k tk,b,o,_,n,rfl,ho,hc,hd,rfl,fun _=>⟨k,tk,rfl⟩,fun z=>nomatch z⟩
theorem CJ(I:Inv X jx σ H s){kf:Addr->List Int}:∀{bs as:List Addr},Paired (fun b a=>H b=some (.tup ((kf a).map V.int))) bs as->(∀a∈as,kf a≠[])->∃fs,TupsOf s.heap eE (bs.map Value.ref) fs/\fs.length=bs.length
 |_,_,.nil,_=>⟨[],.nil,rfl⟩
 |_,_,.cons h t,kb=>by
  obtain⟨fs,h1,h2⟩:=CJ I t fun a ha=>kb a (aq _ ha)
  obtain⟨f,hf⟩:=LX I h (kb _ bj);exact⟨f::fs,.cons hf h1,by rw[bq,bq,h2]⟩
end
def rr(p:Addr×Addr):Keyed:=(.ref p.1,.ref p.2)
def adr:Value->Addr
 | .ref a=>a
 |_=>0
def un(p:Keyed):Addr×Addr:=(adr p.1,adr p.2)
theorem rR:∀(bs as:List Addr),(bs.map Value.ref).zip (as.map Value.ref)=(bs.zip as).map rr
 |[],as=>rfl
 |b::bs,[]=>rfl
 |b::bs,a::as=>by
  show(Value.ref b,Value.ref a)::(bs.map Value.ref).zip (as.map Value.ref)=rr (b,a)::(bs.zip as).map rr
  rw[rR bs as];rfl
theorem vJ{α β:Type}{R:α->β->Prop}:∀{l:List α}{m:List β},Paired R l m->∀p∈l.zip m,R p.1 p.2
 |_,_,.nil,p,h=>by cases h
 |_,_,.cons r t,p,h=>by
  rcases ar.mp h with rfl|h
  ·exact r
  ·exact vJ t p h
theorem CH{α β:Type}:∀{l:List α}{m:List β},l.length=m.length->(l.zip m).map (·.2)=m
 |[],[],_=>rfl
 |a::l,b::m,h=>by
  show b::(l.zip m).map (·.2)=b::m
  rw[CH (by simpa using h)]
theorem GS{h:Heap}{kf:Addr->List Int}{bs as:List Addr}{xs:Array Keyed}(hl:bs.length=as.length)(hk:∀p∈bs.zip as,G.tupKeyC h eE (.ref p.1)=some (ixs (kf p.2)))
  (hp:xs.Perm ((bs.map Value.ref).toArray.zip (as.map Value.ref).toArray)) (hs:SortedToK (G.tupKindC h eE) xs xs.size):
  ∃out:List Addr,(xs.map (·.2)).toList=out.map Value.ref/\out.Perm as/\out.Pairwise fun a b=>leI (kf a) (kf b):=by
 have hp2:xs.toList.Perm ((bs.zip as).map rr):=by have:=Array.perm_iff_toList_perm.mp hp;rw[ksk_zip,List.toList_toArray,rR]at this;exact this
 have e0:xs.toList=(xs.toList.map un).map rr:=by
  rw[fu]
  conv=>lhs;rw[<- map_id xs.toList]
  apply fh;intro p hpm;obtain⟨q,_,rfl⟩:=au.mp (hp2.mem_iff.mp hpm);rfl
 have hp3:(xs.toList.map un).Perm (bs.zip as):=by
  have:=hp2.map un;rw[fu]at this;have e:(bs.zip as).map (un∘rr)=bs.zip as:=by
   conv=>rhs;rw[<- map_id (bs.zip as)]
   rfl
  rw[e]at this;exact this
 refine⟨(xs.toList.map un).map (·.2),?_,?_,?_⟩
 ·rw[Array.toList_map]
  conv=>lhs;rw[e0]
  rw[fu,fu,fu,fu];rfl
 ·have:=hp3.map (·.2);rw[CH hl]at this;exact this
 ·rw[jk,ju];intro i j hi hj hij;have qh:i<xs.size:=by simpa using hi
  have vz:j<xs.size:=by simpa using hj
  have q:=hs i j (le_of_lt hij) vz;have kk:∀(n:Nat)(hn:n<xs.size)(Bc:n<(xs.toList.map un).length),KK (G.tupKindC h eE) xs n=ixs (kf ((xs.toList.map un)[n].2)):=by
   intro n hn Bc;have hm:(xs.toList.map un)[n]∈bs.zip as:=hp3.mem_iff.mp (List.getElem_mem Bc);have vy:=hk _ hm;have ex:xs[n]=rr ((xs.toList.map un)[n]):=by
    have h1:xs.toList[n]'(by simpa using hn)=rr ((xs.toList.map un)[n]):=by
     have:xs.toList[n]? =((xs.toList.map un).map rr)[n]? :=by rw[<- e0]
     rw[bf (by simpa using hn),ax,bf Bc]at this;exact Option.some.inj this
    rw[<- h1];simp
   show(match xs[n]? with|some p=>((G.tupKindC h eE).keyOf p.1).getD (G.tupKindC h eE).dflt|none=>(G.tupKindC h eE).dflt)=_
   rw[gd hn,ex];show(G.tupKeyC h eE (.ref _)).getD []=_
   rw[vy];rfl
  rw[kk i qh hi,kk j vz hj]at q;exact q
section
variable {X:Cx}{jx:List (Addr×Obj)}{σ:L2.St}{H:Hp}{s:Shared}{k:Nat}{f:Addr}{fd:FuncData}{par:Str}{sp:Sp}
theorem MB{Q:VK}{us:List Value}{vs:List V}(F:bO X.prog X.w X.K X.mg X.base CX0 k f fd [par] sp)(hr:cY k X.A.in1.in1)(hb:Binds X.K fd [par] [])(I:Inv X jx σ H s)(r:Vals vs us)(h:sp vs H Q E0):
  wpAny (model X.prog X.w) X.A.in1.in1 (call (.ref f) us) (EP X jx σ Q) (fun _ _=>False) s:=by
 have hl:(us++[]).length=[par].length:=by rw[dc,<- r.length];exact F.len _ _ _ _ h
 refine wpAny_call (codeAny_mono (F.run X.A.in1.in1 X.stack s H ⟨us,[]⟩ (us++[]) vs Q E0 hr I.J7.in1.in1 (hb s us I.kIn hl) (by rw[dc];exact r) h) fun o s' hq=>?_);cases o with
 |error e=>exact hq.elim
 |ok fl=>
  cases fl with
  |ret u=>exact I.after hq
  |next=>exact hq.elim
  |brk=>exact hq.elim
  |cont=>exact hq.elim
theorem GG{L kS:Addr}{od:Obj}{e1:Nat}{ks:List V}{out:List Addr}{st:SortSt}{P:PySem.Fin->Shared->Prop}(I:Inv X jx σ H s)(hL:H L=some (.frz od (.lst [])))(hn:∀o' u',X.H_0 L≠some (.frz o' u'))(ho:od=seqObj "list" #[] e1)
  (hK:H kS=some (.lst ks)) (kb:kS≠L) (eo:((arrOf st).map (·.2)).toList=out.map Value.ref) (hz:out.length<=sizeLine) (hf:failedOf st=none)
  (h:∀s',Inv X jx σ (upd (upd (upd H kS (.lst [])) L (.lst [])) L (.lst (out.map V.ref))) s'->P (.done (.ret .none)) s'):wpAny (model X.prog X.w) X.A.in1.in1 (ksk_tail L false e1 (.ref kS) st) P X.xe s:=by
 obtain⟨zk,itk,nk,rk,lk,ek⟩:=I.yQ hK;have I1:=I.BG (t':=s.toks) (its':=[]) (f:=fun _=>#[]) hK ek rfl .nil (cj _);have hL1:(upd H kS (.lst [])) L=some (.frz od (.lst [])):=by rw[aB kb.symm];exact hL
 have eL:(s.heap.update kS (Obj.mapSeq fun _=>#[])).get? L=some (seqObj "list" #[] e1):=by rw[<- ho];exact(I1.hok L _ hL1).1
 have I2:=I1.unlock hL1 hn;have eo2:(arrOf st).map (·.2)=(out.map Value.ref).toArray:=by rw[<- eo,Array.toArray_toList]
 have rv:∀l:List Addr,Vals (l.map V.ref) (l.map Value.ref):=fun l=>by
  induction l with
  |nil=>exact .nil
  |cons a l ih=>exact .cons rfl ih
 have I3:=I2.BG (t':=s.toks) (its:=[]) (its':=out.map Value.ref) (f:=fun _=>if false=true then((arrOf st).map (·.2)).reverse else(arrOf st).map (·.2)) a8 eL (by rw[af bp];exact eo2) (rv out) (by rw[ag];exact hz);unfold ksk_tail;dsimp only;refine aa (listUpdate_at ek rfl ?_ (by rw[bg,<- lk];exact zk) (cj _));refine aa (wpAny_letGo (aa (seqEpoch_at eL rfl ?_)));refine aa (listUpdate_at eL rfl ?_ (cj _) (by rw[af bp,eo2,bg,ag];omega));rw[hf];simp only[bne_self_eq_false,jc,if_false];exact ai (h _ I3)
end
section
variable {X:Cx}{jx:List (Addr×Obj)}{σ:L2.St}{H:Hp}{s:Shared}{k:Nat}{f:Addr}{fd:FuncData}{par:Str}{sp:Sp}{kf:Addr->List Int}
theorem uT:∀l:List Addr,Vals (l.map V.ref) (l.map Value.ref)
 |[]=>.nil
 |_::l=>.cons rfl (uT l)
theorem L5{L kS:Addr}{od:Obj}{e1:Nat}{bs as:List Addr}{P:PySem.Fin->Shared->Prop}(I:Inv X jx σ H s)(hL:H L=some (.frz od (.lst [])))(hn:∀o' u',X.H_0 L≠some (.frz o' u'))(ho:od=seqObj "list" #[] e1)
  (hK:H kS=some (.lst (bs.map V.ref))) (kb:kS≠L) (hp:Paired (fun b a=>H b=some (.tup ((kf a).map V.int))) bs as) (hk:∀a∈as,kf a≠[]) (hz:as.length<=sizeLine)
  (h:∀(out:List Addr)(s':Shared),out.Perm as->(out.Pairwise fun a b=>leI (kf a) (kf b))->Inv X jx σ (upd (upd (upd H kS (.lst [])) L (.lst [])) L (.lst (out.map V.ref))) s'->P (.done (.ret .none)) s'):
  wpAny (model X.prog X.w) X.A.in1.in1 (ksk_end L false (as.map Value.ref).toArray e1 (.ref kS) (bs.map Value.ref).toArray) P X.xe s:=by
 have hl:=pairs_len hp;have oz:∀p∈bs.zip as,G.tupKeyC s.heap eE (.ref p.1)=some (ixs (kf p.2)):=fun p hm=>MS I (vJ hp p hm)
 have zs:((bs.map Value.ref).toArray.zip (as.map Value.ref).toArray).size=as.length:=by rw[Array.size_zip,bg,bg,ag,ag,hl,Nat.min_self]
 have fin:∀st:SortSt,(arrOf st).Perm ((bs.map Value.ref).toArray.zip (as.map Value.ref).toArray)->SortedToK (G.tupKindC s.heap eE) (arrOf st) (arrOf st).size->failedOf st=none->wpAny (model X.prog X.w) X.A.in1.in1 (ksk_tail L false e1 (.ref kS) st) P X.xe s:=by intro st h1 h2 h3;obtain⟨out,e,pm,pw⟩:=GS hl oz h1 h2;exact GG I hL hn ho hK kb e (by rw[pm.length_eq];exact hz) h3 fun s' I'=>h out s' pm pw I'
 unfold ksk_end;dsimp only;simp only[jc,if_false];by_cases h2:(as.map Value.ref).toArray.size<2
 ·rw[ah h2,ah h2];refine aa (ai ?_);rw[StateT.run_pure];refine aa (ai (fin (SortSt.mk' general' ((bs.map Value.ref).toArray.zip (as.map Value.ref).toArray) #[] 7 none) (Array.Perm.refl _) ?_ rfl));intro i j hij hj;have hj2:j<((bs.map Value.ref).toArray.zip (as.map Value.ref).toArray).size:=hj;rw[zs]at hj2;rw[bg,ag]at h2;have e:i=j:=by omega
  rw[e];exact KeyOrd.kle_refl _
 ·rw[af h2,af h2];rw[bg,ag]at h2;obtain⟨fs,ht,Af⟩:=CJ I hp hk;refine aa (tup_kind (by omega) ht ?_);refine aa (wpAny_mono (G.wpS_sortRunsSt (κ:=G.tupKindC s.heap eE) (kd:=tuples' true) (a₀:=(bs.map Value.ref).toArray.zip (as.map Value.ref).toArray) (st:=SortSt.mk' (tuples' true) ((bs.map Value.ref).toArray.zip (as.map Value.ref).toArray) #[] 7 none)
   (Q:=fun _ st=>(arrOf st).Perm ((bs.map Value.ref).toArray.zip (as.map Value.ref).toArray)/\SortedToK (G.tupKindC s.heap eE) (arrOf st) (arrOf st).size/\failedOf st=none)
   (G.tupC_ltAt true (G.KeepsTups.refl _)) (fun p hm=>?_) ⟨Array.Perm.refl _,rfl,rfl⟩ rfl (Stable.refl _) (by rw[zs];omega) fun st a1 a2 a3 _=>⟨a1,by rw[a1.size_eq];exact a3,a2⟩) ?_ fun _ _ e=>e)
  ·rw[ksk_zip,List.toList_toArray,rR]at hm;obtain⟨q,hq,rfl⟩:=au.mp hm;exact⟨_,oz q hq⟩
  ·rintro⟨⟨⟩,st⟩ s' ⟨rfl,h1,h3,h4⟩;exact fin st h1 h3 h4
theorem GU{L kS:Addr}{od:Obj}{e1:Nat}{as:List Addr}{P:PySem.Fin->Shared->Prop}{H0:Hp}(F:bO X.prog X.w X.K X.mg X.base CX0 k f fd [par] sp)(hr:cY k X.A.in1.in1)(hb:Binds X.K fd [par] [])(I:Inv X jx σ H s)
  (hL:H0 L=some (.frz od (.lst []))) (hn:∀o' u',X.H_0 L≠some (.frz o' u')) (ho:od=seqObj "list" #[] e1) (zq:a9 H0 H) (hK0:H0 kS=none) (hK:H kS=some (.lst [])) (hk:∀a∈as,kf a≠[]) (hz:as.length<=sizeLine)
  (lh:∀a∈as,∀H2,a9 H0 H2->sp [.ref a] H2 (fun r H3=>a9 H2 H3/\∃b,r=.ref b/\H3 b=some (.tup ((kf a).map V.int))) E0)
  (h:∀(out:List Addr)(H':Hp)(s':Shared),out.Perm as->(out.Pairwise fun a b=>leI (kf a) (kf b))->(∀b u,b≠L->H0 b=some u->H' b=some u)->H' L=some (.lst (out.map V.ref))->Inv X jx σ H' s'->P (.done (.ret .none)) s'):
  wpAny (model X.prog X.w) X.A.in1.in1 (ksk_rest L (.ref f) false (as.map Value.ref).toArray e1 (.ref kS)) P X.xe s:=by
 have kb:kS≠L:=(aH hL hK0).symm;unfold ksk_rest;refine aa (wpAny_rule ?_);rw[List.forIn_toArray];refine aa (ksk_fold (fun i s'=>∃(H':Hp)(bs:List Addr),Inv X jx σ H' s'/\a9 H0 H'/\H' kS=some (.lst (bs.map V.ref))/\Paired (fun b a=>H' b=some (.tup ((kf a).map V.int))) bs (as.take i)) (as.map Value.ref) 0 s ⟨H,[],I,zq,hK,.nil⟩ ?_ ?_)
 ·rintro j x s' hx ⟨H',bs,I',s2,h2,pr⟩;rw[Nat.zero_add]at pr ⊢;rw[ax]at hx;obtain⟨a,ha,rfl⟩:∃a,as[j]? =some a/\x=.ref a:=by
   cases e:as[j]? with
   |none=>rw[e]at hx;cases hx
   |some a=>rw[e]at hx;exact⟨a,rfl,(Option.some.inj hx).symm⟩
  have hj:j<as.length:=(ak.mp ha).1;refine aa (wpAny_attempt (wpAny_mono (MB F hr hb I' (vs:=[.ref a]) (.cons rfl .nil) (lh a (az ha) H' s2)) (fun v s3 q=>?_) fun _ _ z=>z.elim));obtain⟨v',H3,I3,rel,s3',b,rfl,hb3⟩:=q;cases rel;have h3:=s3' _ _ h2;obtain⟨zk,itk,nk,rk,lk,ek⟩:=I3.yQ h3;have lb:=pairs_len pr;rw[bw]at lb;rw[ag]at lk;have eik:=jA rk;dsimp only;refine aa (listUpdate_at ek rfl ?_ (by rw[bg];omega) (by rw[Array.size_push,bg];omega));have I4:=I3.BG (t':=s3.toks) (its:=itk) (its':=itk++[.ref b]) (f:=(·.push (.ref b))) (ys:=(bs++[b]).map V.ref) h3 ek (by simp) (by rw[cg];exact rk.append (.cons rfl .nil)) (by rw[ag,aj];simp;omega);refine ai ⟨rfl,_,bs++[b],I4,a9.put (a9.trans s2 s3') hK0,a8,?_⟩;have yg:∀(b':Addr)(xs:List V),H3 b'=some (.tup xs)->(upd H3 kS (.lst ((bs++[b]).map V.ref))) b'=some (.tup xs):=fun b' xs e=>by rw[aB (dF e h3 (by intro z;cases z))];exact e
  rw[RM.take_snoc ha];exact aY (R:=fun b' a'=>(upd H3 kS (.lst ((bs++[b]).map V.ref))) b'=some (.tup ((kf a').map V.int))) (yg _ _ hb3) (aJ (fun b' a' e=>yg _ _ (s3' _ _ e)) pr)
 ·rintro s' ⟨H',bs,I',s2,h2,pr⟩;rw[Nat.zero_add,ag,br (ay _)]at pr;obtain⟨zk,itk,nk,rk,lk,ek⟩:=I'.yQ h2;have eik:=jA rk;subst eik;refine aa (listItems_at ek rfl ?_);refine L5 I' (s2 _ _ hL) hn ho h2 kb pr hk hz fun out s3 pm pw I3=>h out _ s3 pm pw (fun b u nb e=>?_) a8 I3
  rw[aB nb,aB nb,aB (aH e hK0)];exact s2 _ _ e
theorem GL{L:Addr}{as:List Addr}{P:PySem.Fin->Shared->Prop}(F:bO X.prog X.w X.K X.mg X.base CX0 k f fd [par] sp)(hr:cY k X.A.in1.in1)(hb:Binds X.K fd [par] [])(I:Inv X jx σ H s)
  (hL:H L=some (.lst (as.map V.ref))) (hk:∀a∈as,kf a≠[])
  (lh:∀a∈as,∀H2,But L H H2->sp [.ref a] H2 (fun r H3=>a9 H2 H3/\∃b,r=.ref b/\H3 b=some (.tup ((kf a).map V.int))) E0)
  (h:∀(out:List Addr)(H':Hp)(s':Shared),out.Perm as->(out.Pairwise fun a b=>leI (kf a) (kf b))->But L H H'->H' L=some (.lst (out.map V.ref))->Inv X jx σ H' s'->P (.done (.ret .none)) s'):
  wpAny (model X.prog X.w) X.A.in1.in1 (ksk_tree L (.ref f) false) P X.xe s:=by
 obtain⟨z,its,n,r,hl,e⟩:=I.yQ hL;have ei:=jA r;subst ei;rw[ag]at z;have I1:=I.BG (t':=s.toks) (its':=[]) (f:=fun _=>#[]) hL e rfl .nil (cj _);obtain⟨e1,he1⟩:∃e1,(s.heap.update L (Obj.mapSeq fun _=>#[])).get? L=some (seqObj "list" #[] e1):=⟨_,get?_update_seq e fun _=>#[]⟩
 have hn:=I1.vN a8 trivial;obtain⟨od,I2⟩:=I1.lock a8 trivial;have eod:od=seqObj "list" #[] e1:=by have q:=(I2.hok L _ a8).1;rw[he1]at q;exact(Option.some.inj q).symm
 have b2:But L H (upd (upd H L (.lst [])) L (.frz od (.lst []))):=((But.refl L H).here).here;have hL2:(upd (upd H L (.lst [])) L (.frz od (.lst []))) L=some (.frz od (.lst [])):=a8;generalize (upd (upd H L (.lst [])) L (.frz od (.lst [])))=H2 at I2 b2 hL2;unfold ksk_tree;refine aa (listItems_at e rfl ?_);refine aa (listUpdate_at e rfl ?_ (by rw[bg,ag];exact z) (cj _));refine aa (seqEpoch_at he1 rfl ?_);refine aa (wpAny_newTuple ?_ (by rw[List.toList_toArray,ag];exact z));have I3:Inv X jx σ H2 {s with heap:=(s.heap.update L (Obj.mapSeq fun _=>#[])).push {cls:=.type "tuple",data:=.seq (as.map Value.ref).toArray.toList.toArray}}:=I2.kept (t':=s.toks) fun b u q=>ao _ q
 refine aa (wpAny_newList ?_ (cj _));refine wpAny_holding ?_;have fr:=I3.fresh;have I4:=I3.SA (t':=s.toks) (ys:=[]) (its:=[]) .nil (cj _);refine GU F hr hb I4 hL2 hn eod (a9.upd fr) fr a8 hk z (fun a ha H3 s3=>lh a ha H3 (b2.trans (a9.but s3))) fun out H' s' pm pw bt yq I'=>h out H' s' pm pw (b2.trans bt) yq I'
end
section
variable {prog:Program}{w:World}{A:Around}{E:Value->Shared->Prop}{s:Shared}{d:Addr}{o:Obj}{es:Array DictEntry}{ep:Nat}
theorem JC{Q:List Value->Shared->Prop}(hs:(d==sysModules)=false)(hh:A.handled=none)(e:k6 s.heap d o es ep)(hz:es.size<=sizeLine)
  (h:∀(vs:List Value) h' tk,vs.length=es.size->(∀(j:Nat)(v:Value),vs[j]? =some v->∃en,es[j]? =some en/\v=en.key)->(∀b q,s.heap.get? b=some q->h'.get? b=some q)->Q vs {s with heap:=h',toks:=tk}):wpAny (model prog w) A (collect (.ref d)) Q E s:=by
 have hd:d<s.heap.objs.size:=bu e.at_
 delta collect
 refine aa (wpAny_runValue (codeAny_builtin entry_proto_collect' ?_));show wpAny _ _ (newList []>>=fun l=>again (.builtin "list.__iadd__" ⟨[l,.ref d],[]⟩)) _ _ s
 refine aa (wpAny_newList (ai ⟨Code.quiet_builtin _ (by decide+kernel),codeAny_builtin entry_list_iadd' ?_⟩) (cj _));have e2:k6 (s.heap.push {cls:=.type "list",data:=.seq #[]}) d o es ep:=e.to fun q z=>ao _ z
 have hS:(s.heap.push {cls:=.type "list",data:=.seq #[]}).get? s.heap.objs.size=some {cls:=.type "list",data:=.seq #[] 0}:=bc _ rfl;rw[Around.under_plainId (show plainId "list.__iadd__" =true by decide+kernel) _];show wpAny _ _ (Builtin.List.listExtendWith (.ref s.heap.objs.size) (.ref d) (.ref s.heap.objs.size)) _ _ {s with heap:=s.heap.push {cls:=.type "list",data:=.seq #[]}}
 refine W.kdl_extend (R:=fun r s'=>match r with| .ok (.ret v)=>wpAny (model prog w) A (match v with| .ref a=>(do let o<- load a;match o.data with| .seq xs _=>pure xs.toList|_=>unsupported "internal:collect")|_=>unsupported "internal:collect") Q E s'| .ok _=>False| .error e=>E e s') (s:={s with heap:=s.heap.push {cls:=.type "list",data:=.seq #[]}}) (O4 hs e.ex e.dat) hh e2 s.heap.objs.size (jo hd) (jo hd) (.ref s.heap.objs.size) 0 hS (fun h' tk acc c kp hl it=>?_) hz;show wpAny (model prog w) A (load s.heap.objs.size>>= _) Q E _
 refine aa (wpAny_load hl ?_);refine ai (h acc.toList h' tk (by rw[dq];exact it.1) (fun j v z=>it.2 j v (by rw[<- iu];exact z)) fun b q z=>?_);exact kp b q (da (bu z)) (ao _ z)
end
section
variable {X:Cx}{jx:List (Addr×Obj)}{σ:L2.St}{H:Hp}{s:Shared}{k:Nat}{f:Addr}{fd:FuncData}{par:Str}{sp:Sp}{kf:Addr->List Int}
theorem sG{l:Addr}{as:List Addr}{Q:VK}(F:bO X.prog X.w X.K X.mg X.base CX0 k f fd [par] sp)(hr:cY k X.A.in1.in1)(hb:Binds X.K fd [par] [])(I:Inv X jx σ H s)(hz:as.length<=sizeLine)
  (col:∀Q':List Value->Shared->Prop,(∀h' tk,(∀b q,s.heap.get? b=some q->h'.get? b=some q)->Q' (as.map Value.ref) {s with heap:=h',toks:=tk})->wpAny (model X.prog X.w) X.A.in1 (collect (.ref l)) Q' X.xe s)
  (hk:∀a∈as,kf a≠[]) (lh:∀a∈as,∀H2,a9 H H2->sp [.ref a] H2 (fun r H3=>a9 H2 H3/\∃b,r=.ref b/\H3 b=some (.tup ((kf a).map V.int))) E0)
  (h:∀(L:Addr)(out:List Addr)(H':Hp),H L=none->out.Perm as->(out.Pairwise fun a b=>leI (kf a) (kf b))->a9 H H'->H' L=some (.lst (out.map V.ref))->Q (.ref L) H'):
  wpAny (model X.prog X.w) X.A (call (.builtin "sorted") [.ref l] [(Str.ofString "key",.ref f)]) (EP X jx σ Q) X.xe s:=by
 refine call_function_entry_kw kind_sorted plain_sorted entry_sorted (ksk_s1 _ _) ?_
 delta Builtin.«sorted»
 refine aa (m:=checkCount "sorted" 1 1 _) (ai (aa (col _ fun h1 Bo k1=>?_)));refine aa (wpAny_newList ?_ (by rw[ag];exact hz));have I1:Inv X jx σ H {s with heap:=h1,toks:=Bo}:=I.kept k1;have fr:=I1.fresh;have I2:=I1.SA (t':=Bo) (uT as) (by rw[ag];exact hz);have Ck:({s with heap:=h1.push {cls:=.type "list",data:=.seq (as.map Value.ref).toArray},toks:=Bo}:Shared).TypeIs (.ref h1.objs.size) "list" :=⟨_,bc _ rfl,rfl⟩;refine aa (wpAny_holding (wpAny_call_entry_kw slot_list_sort Ck entry_list_sort ?_ (ksk_l1 _ _)));show wpAny (model X.prog X.w) X.A.in1.in1 (Builtin.«list.sort» ⟨[.ref h1.objs.size],[(Str.ofString "key",.ref f)]⟩) _ _ _
 rw[ksk_t1];refine GL F hr hb I2 a8 hk (fun a ha H2 b2=>lh a ha H2 (But.same b2 (a9.upd fr) fr)) fun out H' s' pm pw bt hL I'=>?_
 exact⟨_,rfl,ai ⟨_,rfl,.ref h1.objs.size,H',I',rfl,h _ out H' fr pm pw (But.same bt (a9.upd fr) fr) hL⟩⟩
end
noncomputable def NT(K:W.Frag)(sp:Sp)(t:TA):TE:=fun σ H Q=>t σ H fun vs H1=>∃(l:Addr)(as:List Addr)(kf:Addr->List Int),vs=[.ref l]/\SqL K H1 l (as.map V.ref)/\(∀a∈as,kf a≠[])/\
 (∀a∈as,∀H2,a9 H1 H2->sp [.ref a] H2 (fun r H3=>a9 H2 H3/\∃b,r=.ref b/\H3 b=some (.tup ((kf a).map V.int))) E0)/\
 ∀(L:Addr)(out:List Addr)(H':Hp),H1 L=none->out.Perm as->(out.Pairwise fun a b=>leI (kf a) (kf b))->a9 H1 H'->H' L=some (.lst (out.map V.ref))->Q (.ref L) H'
noncomputable def M3(sp:Sp)(t:TA):TE:=fun σ H Q=>t σ H fun vs H1=>∃(d:Addr)(kvs:List (List Key×V)),vs=[.ref d]/\Rd H1 d (.dT kvs)/\∀as:List Addr,lF H1 (as.map V.ref) kvs->∃kf:Addr->List Int,(∀a∈as,kf a≠[])/\
 (∀a∈as,∀H2,a9 H1 H2->sp [.ref a] H2 (fun r H3=>a9 H2 H3/\∃b,r=.ref b/\H3 b=some (.tup ((kf a).map V.int))) E0)/\
 ∀(L:Addr)(out:List Addr)(H':Hp),H1 L=none->out.Perm as->(out.Pairwise fun a b=>leI (kf a) (kf b))->a9 H1 H'->H' L=some (.lst (out.map V.ref))->Q (.ref L) H'
theorem vQ{H:Hp}:∀{qs:List V}{kvs:List (List Key×V)},lF H qs kvs->∃as:List Addr,qs=as.map V.ref
 |_,_,.nil=>⟨[],rfl⟩
 |_,_,.cons ⟨q,e,_⟩ t=>by obtain⟨as,rfl⟩:=vQ t;exact⟨q::as,by rw[e];rfl⟩
section
variable {X:Cx}{k:Nat}{y par:Str}{sp:Sp}{e:Expr}{ta:TA}{p p2 p3 pos:Pos}
theorem vG{Qs:VK->List V->Hp->Prop}(hg:Gl X "sorted")(hm:X.mg "sorted" =none)(hy:Gl X y){f:Addr}(De:X.mg y=some (.ref f))(ha:PA X [e] ta)(Dq:(y==("__debug__" : Str))=false)
  (run:∀(jx:List (Addr×Obj))(s:Shared)(σ:L2.St)(H:Hp)(vs:List V)(us:List Value)(Q:VK),Inv X jx σ H s->Vals vs us->Qs Q vs H->wpAny (model X.prog X.w) X.A (call (.builtin "sorted") us [(Str.ofString "key",.ref f)]) (EP X jx σ Q) X.xe s)
  (h1:backTo pos (starEach [e] X.env)=(false,eval e X.env)::backTo pos (starEach [] X.env)) (h2:(backTo pos (starEach [e] X.env)).any (·.1)=false):
  PE X (.Call (.Name "sorted" p) [e] [⟨some "key",.Name y p2,p3⟩] pos) (fun σ H Q=>ta σ H (Qs Q)):=by
 intro jx s σ H Q I h;refine wpAny_Call_Name_kw (pR I hg hm (show bootBuiltins "sorted" =some (.builtin "sorted") by rfl) ?_);refine callWith_kw (thn (ha pos jx s σ H (Qs Q) I h) fun us s1 ⟨vs,H1,I1,r,q⟩=>?_) h1 h2;refine kws_cons (jH I1 hy De (kws_nil ?_) Dq);exact run jx _ σ H1 vs us Q I1 r q
theorem HC(D:aQ X.prog X.w X.K X.mg X.base CX0 k y [par] sp)(hr:cY (k+2) X.A)(hg:Gl X "sorted")(hm:X.mg "sorted" =none)(hy:Gl X y)(ha:PA X [e] ta)(Dq:(y==("__debug__" : Str))=false:=by decide)
  (h1:backTo pos (starEach [e] X.env)=(false,eval e X.env)::backTo pos (starEach [] X.env):=by rfl) (h2:(backTo pos (starEach [e] X.env)).any (·.1)=false:=by rfl):
  PE X (.Call (.Name "sorted" p) [e] [⟨some "key",.Name y p2,p3⟩] pos) (NT X.K sp ta):=by
 obtain⟨f,fd,F,De,hkf,hb⟩:=D.ex;refine vG (Qs:=fun Q vs H1=>∃(l:Addr)(as:List Addr)(kf:Addr->List Int),vs=[.ref l]/\SqL X.K H1 l (as.map V.ref)/\(∀a∈as,kf a≠[])/\(∀a∈as,∀H2,a9 H1 H2->sp [.ref a] H2 (fun r H3=>a9 H2 H3/\∃b,r=.ref b/\H3 b=some (.tup ((kf a).map V.int))) E0)/\
  ∀(L:Addr)(out:List Addr)(H':Hp),H1 L=none->out.Perm as->(out.Pairwise fun a b=>leI (kf a) (kf b))->a9 H1 H'->H' L=some (.lst (out.map V.ref))->Q (.ref L) H') hg hm hy De ha Dq (fun jx s σ H vs us Q I r q=>?_) h1 h2
 obtain⟨l,as,kf,rfl,hs,hk,lh,fin⟩:=q;obtain⟨u,rfl,ru⟩:=vals1 r;cases ru;obtain⟨its,rv,pl,hz⟩:=I.list hs;have ei:=jA rv;subst ei;rw[ag]at hz;refine sG F (hr.in1.in1) hb I hz (fun Q' q=>collect_list pl.isList (q _ s.toks fun b o z=>?_) (by rw[ag];exact hz)) hk lh fin;rw[Heap.get?_update_ne _ _ _ _ (da (bu z))];exact ao _ z
theorem HE(hc:X.calm=true)(D:aQ X.prog X.w X.K X.mg X.base CX0 k y [par] sp)(hr:cY (k+2) X.A)(hg:Gl X "sorted")(hm:X.mg "sorted" =none)(hy:Gl X y)(ha:PA X [e] ta)(Dq:(y==("__debug__" : Str))=false:=by decide)
  (h1:backTo pos (starEach [e] X.env)=(false,eval e X.env)::backTo pos (starEach [] X.env):=by rfl) (h2:(backTo pos (starEach [e] X.env)).any (·.1)=false:=by rfl):
  PE X (.Call (.Name "sorted" p) [e] [⟨some "key",.Name y p2,p3⟩] pos) (M3 sp ta):=by
 obtain⟨f,fd,F,De,hkf,hb⟩:=D.ex;refine vG (Qs:=fun Q vs H1=>∃(d:Addr)(kvs:List (List Key×V)),vs=[.ref d]/\Rd H1 d (.dT kvs)/\∀as:List Addr,lF H1 (as.map V.ref) kvs->∃kf:Addr->List Int,(∀a∈as,kf a≠[])/\(∀a∈as,∀H2,a9 H1 H2->sp [.ref a] H2 (fun r H3=>a9 H2 H3/\∃b,r=.ref b/\H3 b=some (.tup ((kf a).map V.int))) E0)/\
  ∀(L:Addr)(out:List Addr)(H':Hp),H1 L=none->out.Perm as->(out.Pairwise fun a b=>leI (kf a) (kf b))->a9 H1 H'->H' L=some (.lst (out.map V.ref))->Q (.ref L) H') hg hm hy De ha Dq (fun jx s σ H vs us Q I r q=>?_) h1 h2
 obtain⟨d,kvs,rfl,hd,q⟩:=q;obtain⟨u,rfl,ru⟩:=vals1 r;cases ru;obtain⟨hs,hz,o,es,ep,en,sz,qp⟩:=oQ I hd;obtain⟨qs,ua⟩:∃qs:List V,Vals qs (es.toList.map (·.key))/\lF H qs kvs:=D9 (by rw[ag,dq,sz]) fun j u hu=>by
  rw[ax,iu]at hu;cases e:es[j]? with
  |none=>rw[e]at hu;cases hu
  |some n=>rw[e]at hu;obtain⟨k,v,q,a1,a2,a3,_⟩:=qp j n e;exact⟨k,v,q,a1,by rw[<- a2];exact(Option.some.inj hu).symm,a3⟩
 obtain⟨as,rfl⟩:=vQ ua.2;obtain⟨kf,hk,lh,fin⟩:=q as ua.2;have ei:=jA ua.1;have su:as.length=es.size:=by have:=congrArg List.length ei;rw[ag,ag,dq]at this;exact this.symm
 refine sG F (hr.in1.in1) hb I (by rw[su,sz];exact hz) (fun Q' q=>JC hs (I.ok.hd hc) en (by rw[sz];exact hz) fun vs h' tk hl hv kp=>?_) hk lh fin;have ev:vs=as.map Value.ref:=by
  rw[<- ei];apply ext_getElem?;intro j;cases e:vs[j]? with
  |none=>have:=jt.mp e;rw[jt.mpr (by rw[ag,dq,<- hl];exact this)]
  |some v=>obtain⟨n,hn,rfl⟩:=hv j v e;rw[ax,iu,hn];rfl
 rw[ev];exact q h' tk kp
end
noncomputable def pairOf(H:Hp)(a:Addr):PI:=match H a with|some (.tup [.int x,.int y])=>(x,y)|_=>(0,0)
def iG(H:Hp)(a:Addr):List Int:=[(pairOf H a).2,(pairOf H a).1]
theorem vK{H:Hp}{a:Addr}{p:PI}(h:H a=some (.tup [.int p.1,.int p.2])):pairOf H a=p:=by unfold pairOf;rw[h]
theorem KD{H:Hp}{a b:Addr}(h:leI (iG H a) (iG H b)):RM.gC (pairOf H a) (pairOf H b):=by unfold leI iG ixs at h;generalize pairOf H a=p at h ⊢;generalize pairOf H b=q at h ⊢;unfold RM.gC;simp[PyProof.Rows.lexLt,itemLt]at h;omega
theorem sY{H:Hp}:∀{as:List Addr}{ps:List PI},Paired (T2 H) (as.map V.ref) ps->ps=as.map (pairOf H)
 |[],ps,h=>by cases h;rfl
 |a::as,ps,h=>by
  rw[bo]at h;cases h with
  |cons t r=>obtain⟨b,e,hb⟩:=t;cases e;rw[bo,vK hb,<- sY r]
theorem sP{H:Hp}:∀{as:List Addr},(∀a∈as,T2 H (.ref a) (pairOf H a))->Paired (T2 H) (as.map V.ref) (as.map (pairOf H))
 |[],_=>.nil
 |a::as,h=>.cons (h a bj) (sP fun b hb=>h b (aq _ hb))
theorem yI{H:Hp}{as:List Addr}{ps:List PI}(h:Paired (T2 H) (as.map V.ref) ps):∀a∈as,T2 H (.ref a) (pairOf H a):=by
 induction as generalizing ps with
 |nil=>intro a ha;cases ha
 |cons b as ih=>
  rw[bo]at h;cases h with
  |cons t r=>
   intro a ha;rcases ar.mp ha with rfl|ha
   ·obtain⟨c,e,hc⟩:=t;cases e;exact⟨a,rfl,by rw[vK hc];exact hc⟩
   ·exact ih r a ha
theorem qM{H:Hp}{as out:List Addr}{ps:List PI}(h:Paired (T2 H) (as.map V.ref) ps)(hp:out.Perm as)(hs:out.Pairwise fun a b=>leI (iG H a) (iG H b)):
  ∃ys,Paired (T2 H) (out.map V.ref) ys/\ys.Perm ps/\ys.Pairwise RM.gC:=by
 have ht:=yI h;refine⟨out.map (pairOf H),sP fun a ha=>ht a (hp.mem_iff.mp ha),?_,?_⟩
 ·rw[sY h];exact hp.map _
 ·rw[jk];exact hs.imp fun z=>KD z
def dP(p:PI):PyData:=.tuple [.int p.1,.int p.2]
def dW(w:List PI):PyData:=.list (w.map dP)
def dWs(ws:List (List PI)):PyData:=.list (ws.map dW)
theorem N9{K:W.Frag}{H:Hp}{v:V}{p:PI}(h:T2 H v p):Dp K H v (dP p):=by obtain⟨a,rfl,ha⟩:=h;exact .tup (SqT.of ha) (.cons (.int _) (.cons (.int _) .nil))
theorem C3{K:W.Frag}{H:Hp}{α:Type}{R:V->α->Prop}{f:α->PyData}(hf:∀v a,R v a->Dp K H v (f a)):∀{xs:List V}{ys:List α},Paired R xs ys->uA K H xs (ys.map f)
 |_,_,.nil=>.nil
 |_,_,.cons r t=>.cons (hf _ _ r) (C3 hf t)
theorem XC{K:W.Frag}{H:Hp}{v:V}{w:List PI}(h:LT H v w):Dp K H v (dW w):=by obtain⟨a,xs,rfl,ha,pr⟩:=h;exact .lst (SqL.of ha) (C3 (fun _ _ t=>N9 t) pr)
theorem LU{K:W.Frag}{H:Hp}{v:V}{ws:List (List PI)}(h:LLT H v ws):Dp K H v (dWs ws):=by obtain⟨a,xs,rfl,ha,pr⟩:=h;exact .lst (SqL.of ha) (C3 (fun _ _ t=>XC t) pr)
theorem mU{α:Type}[DecidableEq α]{f:α->PyData}(hf:∀a b,PyData.eqv (f a) (f b)=decide (a=b)):∀xs ys:List α,PyData.eqvAll (xs.map f) (ys.map f)=decide (xs=ys)
 |[],[]=>by simp[PyData.eqvAll]
 |[],_::_=>by simp[PyData.eqvAll]
 |_::_,[]=>by simp[PyData.eqvAll]
 |x::xs,y::ys=>by rw[bo,bo,PyData.eqvAll,hf,mU hf xs ys];rw[di];simp
theorem LR(a b:PI):PyData.eqv (dP a) (dP b)=decide (a=b):=by unfold dP;simp only[PyData.eqv,PyData.eqvAll,Bool.and_true];rw[di];simp[Prod.ext_iff]
theorem SK(a b:List PI):PyData.eqv (dW a) (dW b)=decide (a=b):=by unfold dW;rw[PyData.eqv];exact mU LR a b
theorem MZ(a b:List (List PI)):PyData.eqv (dWs a) (dWs b)=decide (a=b):=by unfold dWs;rw[PyData.eqv];exact mU SK a b
theorem xC{α:Type}{f:α->PyData}(hf:∀a,PyData.canLay0 (f a)=true):∀xs:List α,PyData.canLayAll0 (xs.map f)=true
 |[]=>by simp[PyData.canLayAll0]
 |x::xs=>by rw[bo,PyData.canLayAll0,hf,xC hf xs];rfl
theorem qB{α:Type}{f:α->PyData}{n:Nat}(hf:∀a,PyData.depth (f a)<=n):∀xs:List α,PyData.depthAll (xs.map f)<=n
 |[]=>by simp[PyData.depthAll]
 |x::xs=>by rw[bo,PyData.depthAll];have h1:=hf x;have h2:=qB hf xs;omega
theorem uY(ws:List (List PI)):SeqAt.shaped (dWs ws)=true:=by
 have l1:∀p,PyData.canLay0 (dP p)=true:=fun p=>by simp[dP,PyData.canLay0,PyData.canLayAll0]
 have l2:∀w,PyData.canLay0 (dW w)=true:=fun w=>by unfold dW;rw[PyData.canLay0];exact xC l1 w
 have d1:∀p,PyData.depth (dP p)<=1:=fun p=>by simp[dP,PyData.depth,PyData.depthAll]
 have d2:∀w,PyData.depth (dW w)<=2:=fun w=>by unfold dW;rw[PyData.depth];have:=qB d1 w;omega
 unfold SeqAt.shaped dWs;rw[PyData.canLay0,xC l2 ws,PyData.depth];have:=qB d2 ws;simp;omega
end L3
namespace L3
open PySem PySem.Spec PySem.Calls PyProof.Rows L2
section
variable {prog:Program}{w:World}{A:Around}{E:Value->Shared->Prop}{s:Shared}{d:Addr}{o:Obj}{es:Array DictEntry}{ep:Nat}
theorem x9(hs:(d==sysModules)=false):MeetsIn prog w (Builtin.«dict.items» ⟨[.ref d],[]⟩) (fun _ R s=>(∃o es ep,k6 s.heap d o es ep)/\R (.ok (.ret (.ref s.heap.objs.size))) {s with heap:=s.heap.push {cls:=.type "dict_items",data:=.fields #[.ref d]}}):=
 .of_wp fun A R s q=>by
  obtain⟨⟨o,es,ep,e⟩,hR⟩:=q
  delta Builtin.«dict.items»
  refine aa (show wpAny _ _ (Builtin.Dict.noArgs _ _) _ _ s from ?_)
  delta Builtin.Dict.noArgs
  refine aa (wpAny_notOrdered_dict e.ty (show wpAny _ _ (pure d) _ _ s from ai (show wpAny _ _ (Builtin.Dict.showsAll d>>=fun _=>_) _ _ s from ?_)))
  delta Builtin.Dict.showsAll
  rw[af (show¬(d==sysModules)=true by rw[hs];exact bp)];exact aa (ai (aa (wpAny_newObj_type (ai ⟨_,rfl,hR⟩))))
theorem yZ{v:Addr}{Q:Value->Shared->Prop}(hv:s.heap.IsItemsView v d)(e:k6 s.heap d o es ep)
  (hQ:Q (.ref s.heap.objs.size) {s with heap:=s.heap.push {cls:=.type "dict_itemiterator",data:=.fields #[.none,.bool false,.ref d,.int 0 0,.int es.size 0,.int ep 0,.none,.none]}}):wpAny (model prog w) A (pyIter (.ref v)) Q E s:=by
 obtain⟨vo,v1,v2,v3⟩:=id hv;refine wpAny_pyIter_slot hv.typeIs F.slot_dict_items_iter (wpAny_call_entry F.slot_dict_items_iter hv.typeIs F.entry_dict_items_iter (show wpAny _ _ (Builtin.«dict_items.__iter__» _) _ _ _ from ?_) (F.args_dict_items_iter_1 _))
 delta Builtin.«dict_items.__iter__»
 refine aa (ai (aa (show wpAny _ _ (Builtin.Dict_items.dictOf _) _ _ _ from ?_)))
 delta Builtin.Dict_items.dictOf
 refine aa (wpAny_field v1 v3 (x:=.ref d) rfl (ai (aa (show wpAny _ _ (Builtin.Dict_items.newIterator _ _) _ _ _ from ?_))))
 delta Builtin.Dict_items.newIterator
 refine aa (wpAny_dictEntries e.at_ e.dat (aa (wpAny_dictEpoch e.at_ e.dat ?_)));have own:Builtin.Dict_items.ownsTuple "dict_itemiterator" =true:=by rfl
 simp only[own,if_true];refine wpAny_newObj_type (ai ⟨_,rfl,"dict_itemiterator",_,⟨_,bc _ rfl,rfl⟩,F.slot_dict_itemiterator_next.lookup,(by simpa[rawInt,Builtin.Dict_items.ownedTupleFields]using hQ)⟩) ?_;simp only[sizeOk,Builtin.Dict_items.ownedTupleFields,bg,aj,bq,fg,sizeLine_eq]<;>omega
theorem B8{it:Addr}{i:Nat}{en:DictEntry}{k0 v0:Value}{Q:Option Value->Shared->Prop}(kx:IsItemIter s.heap it d i es.size ep k0 v0)(e:k6 s.heap d o es ep)(hx:es[i]? =some en)
  (hQ:∀h',IsItemIterOut h' it d (i+1) es.size ep en.key en.val s.heap.objs.size->h'.get? s.heap.objs.size=some {cls:=.type "tuple",data:=.seq #[en.key,en.val]}->h'.objs.size=s.heap.objs.size+1->(∀b q,b≠it->s.heap.get? b=some q->h'.get? b=some q)->Q (some (.ref s.heap.objs.size)) {s with heap:=h'}):
  wpAny (model prog w) A (pyNext (.ref it)) Q E s:=by
 obtain⟨g0,gn,dr,tk,os⟩:=s;have ty:Shared.TypeIs ⟨g0,gn,dr,tk,os⟩ (.ref it) "dict_itemiterator" :=⟨_,kx,rfl⟩
 delta pyNext
 refine aa (wpAny_attempt (wpAny_callSpecial?_slot (name:=Str.ofString "__next__") ty F.slot_dict_itemiterator_next (wpAny_call_entry F.slot_dict_itemiterator_next ty F.entry_dict_itemiterator_next ?_ (F.args_dict_itemiterator_next_1 _))));refine aa (ai (aa (aa ?_)));first|refine aa (wpAny_typeNameOfWhole_itemiter ty (ai (aa (wpAny_fieldsOf kx rfl ?_))))|refine aa (wpAny_typeNameOf_itemiter ty (ai (aa (wpAny_fieldsOf kx rfl ?_))))
 have own:Builtin.Dict_items.ownsTuple "dict_itemiterator" =true:=by rfl
 simp only[own,if_true];show wpAny _ _ (if(Value.ref d==Value.none)=true then _ else _) _ _ ⟨g0,gn,dr,tk,os⟩
 have nn:¬((Value.ref d==Value.none)=true):=bp;rw[af nn];refine aa (ai (aa (wpAny_dictEntries e.at_ e.dat ?_)));rw[af (show¬ _ by simp)];refine aa (ai (aa (wpAny_dictEpoch e.at_ e.dat ?_)));rw[af (show¬ _ by simp)];obtain⟨lt,qp⟩:=gu.mp hx;have i0:¬((i:Int)<0):=by omega
 refine ai ?_;simp only[i0,if_false,jw,gd lt,qp];refine aa ?_;first|refine aa (wpAny_typeNameOfWhole_itemiter ty (ai (aa (wpAny_isOneOf_itemiter ty ?_))))|refine aa (wpAny_typeNameOf_itemiter ty (ai (aa (wpAny_isOneOf_itemiter ty ?_))))
 show wpAny _ _ (setField (.ref it) 3 (rawInt ((i:Int)+1))>>=fun _=>_) _ _ ⟨g0,gn,dr,tk,os⟩
 refine aa (wpAny_setField_rec kx (by simp) fun g1 a1 b1=>?_);replace b1:Heap.SameBut it g0 g1:=b1;replace a1:IsItemIter g1 it d (i+1) es.size ep k0 v0:=by
  have ei:((i+1:Nat):Int)=(i:Int)+1:=by omega
  show _=_
  rw[ei];simpa[rawInt]using a1
 have ty1:Shared.TypeIs ⟨g1,gn,dr,tk,os⟩ (.ref it) "dict_itemiterator" :=⟨_,a1,rfl⟩;refine aa (wpAny_holding (aa (wpAny_isOneOf_itemiter ty1 (aa (wpAny_isOneOf_itemiter ty1 ?_)))));show wpAny _ _ (Builtin.Dict_items.pairFromOwner (.ref it) 6 en.key en.val) _ _ ⟨g1,gn,dr,tk,os⟩
 delta Builtin.Dict_items.pairFromOwner
 refine aa (wpAny_newTuple ?_);have a2:IsItemIter (g1.push {cls:=.type "tuple",data:=.seq #[en.key,en.val]}) it d (i+1) es.size ep k0 v0:=ao _ a1;have z1:g1.objs.size=g0.objs.size:=b1.1;have il:it<g0.objs.size:=bu kx;have t2:(g1.push {cls:=.type "tuple",data:=.seq #[en.key,en.val]}).get? g0.objs.size=some {cls:=.type "tuple",data:=.seq #[en.key,en.val]}:=by rw[<- z1];exact bc _ rfl
 have z2:(g1.push {cls:=.type "tuple",data:=.seq #[en.key,en.val]}).objs.size=g0.objs.size+1:=by rw[fy,z1]
 have k2:∀b q,b≠it->g0.get? b=some q->(g1.push {cls:=.type "tuple",data:=.seq #[en.key,en.val]}).get? b=some q:=fun b q hb z=>ao _ (b1.extBut b q hb z)
 show wpAny _ _ (Builtin.Dict_items.ownedTupleIsFree (.ref it)>>=fun _=>_) _ _ ⟨g1.push {cls:=.type "tuple",data:=.seq #[en.key,en.val]},gn,dr,tk,os⟩
 rw[z1];generalize (g1.push {cls:=.type "tuple",data:=.seq #[en.key,en.val]})=g2 at a2 t2 z2 k2 ⊢;refine aa (show wpAny _ _ (Builtin.Dict_items.ownedTupleIsFree _) _ _ _ from ?_)
 delta Builtin.Dict_items.ownedTupleIsFree
 refine aa (wpAny_field a2 rfl (x:=.none) rfl (ai ?_));simp only[if_true];refine aa (wpAny_field a2 rfl (x:=k0) rfl (aa (wpAny_field a2 rfl (x:=v0) rfl ?_)));refine aa (wpAny_setField_rec a2 (by simp) fun g3 a3 b3=>?_);replace b3:Heap.SameBut it g2 g3:=b3;replace a3:IsItemIter g3 it d (i+1) es.size ep en.key v0:=a3;refine aa (wpAny_setField_rec a3 (by simp) fun g4 a4 b4=>?_);replace b4:Heap.SameBut it g3 g4:=b4;replace a4:IsItemIter g4 it d (i+1) es.size ep en.key en.val:=a4;refine aa (wpAny_setField_rec a4 (by simp) fun g5 a5 b5=>?_);replace b5:Heap.SameBut it g4 g5:=b5;replace a5:IsItemIterOut g5 it d (i+1) es.size ep en.key en.val g0.objs.size:=a5;refine aa (wpAny_setField_rec a5 (by simp) fun g6 a6 b6=>?_);replace b6:Heap.SameBut it g5 g6:=b6;replace a6:IsItemIterOut g6 it d (i+1) es.size ep en.key en.val g0.objs.size:=a6;have kp:∀b q,b≠it->g2.get? b=some q->g6.get? b=some q:=fun b q hb z=>b6.extBut b q hb (b5.extBut b q hb (b4.extBut b q hb (b3.extBut b q hb z)))
 refine aa (wpAny_letGo (ai (ai ⟨_,rfl,ai (hQ g6 a6 (kp _ _ (jo il) t2) ?_ fun b q hb z=>kp b q hb (k2 b q hb z))⟩)));show g6.objs.size=g0.objs.size+1
 rw[b6.1,b5.1,b4.1,b3.1,z2]
end
section
variable {prog:Program}{w:World}{A:Around}{E:Value->Shared->Prop}{s:Shared}{d:Addr}{o:Obj}{es:Array DictEntry}{ep:Nat}
theorem BL{it:Addr}{i:Nat}{k0 v0:Value}{Q:Option Value->Shared->Prop}(hh:A.handled=none)(kx:IsItemIter s.heap it d i es.size ep k0 v0)(e:k6 s.heap d o es ep)(Ae:es.size<=i)
  (hQ:∀h',Heap.ExtBut it s.heap h'->Q none {s with heap:=h'}):wpAny (model prog w) A (pyNext (.ref it)) Q E s:=by
 have ty:s.TypeIs (.ref it) "dict_itemiterator" :=⟨_,kx,rfl⟩
 delta pyNext
 refine aa (wpAny_attempt (wpAny_callSpecial?_slot (name:=Str.ofString "__next__") ty F.slot_dict_itemiterator_next (wpAny_call_entry F.slot_dict_itemiterator_next ty F.entry_dict_itemiterator_next ?_ (F.args_dict_itemiterator_next_1 _))));refine aa (ai (aa (aa ?_)));first|refine aa (wpAny_typeNameOfWhole_itemiter ty (ai (aa (wpAny_fieldsOf kx rfl ?_))))|refine aa (wpAny_typeNameOf_itemiter ty (ai (aa (wpAny_fieldsOf kx rfl ?_))))
 have own:Builtin.Dict_items.ownsTuple "dict_itemiterator" =true:=by rfl
 simp only[own,if_true];show wpAny _ _ (if(Value.ref d==Value.none)=true then _ else _) _ _ s
 have nn:¬((Value.ref d==Value.none)=true):=bp;rw[af nn];refine aa (ai (aa (wpAny_dictEntries e.at_ e.dat ?_)));rw[af (show¬ _ by simp)];refine aa (ai (aa (wpAny_dictEpoch e.at_ e.dat ?_)));rw[af (show¬ _ by simp)];have i0:¬((i:Int)<0):=by omega
 refine ai ?_;simp only[i0,if_false,jw,getElem?_eq_none Ae];refine aa ?_;first|refine aa (wpAny_typeNameOfWhole_itemiter ty (ai (show wpAny _ _ (setField (.ref it) 2 .none>>=fun _=>_) _ _ s from aa (wpAny_setField kx rfl (by simp) ?_))))|refine aa (wpAny_typeNameOf_itemiter ty (ai (show wpAny _ _ (setField (.ref it) 2 .none>>=fun _=>_) _ _ s from aa (wpAny_setField kx rfl (by simp) ?_))))
 show wpAny _ _ (newExc (.type "StopIteration") []>>= _) _ _ _
 refine aa ?_;simp only[newExc,newTuple];refine aa (wpAny_newObj_type ?_ (by size_fits));refine aa (m:=firstArgMember _ _) (wpAny_of_eq (a:=Value.none) (by first|rfl|(simp only[firstArgMember];rfl)) ?_);refine wpAny_newObj_type ?_ (by size_fits);simp only[raiseNew];refine aa (wpAny_handled ?_);rw[show A.in1.handled=none from hh];refine aa (ai (wpAny_throw ?_));refine aa (wpAny_isInstance (T:= "StopIteration") (b:=true) ⟨_,bc _ rfl,rfl⟩ isSubtype_stop ?_);exact ai (hQ _ (((Heap.SameBut.update ..).extBut.push _).push _))
end
noncomputable def JK(d:Addr)(o:Obj)(kvs:List (List Key×V)):It:=
 ⟨fun i H=>H d=some (.frz o (.dT kvs))/\i<kvs.length,fun i H x H'=>∃T k v q,kvs[i]? =some (k,v)/\H q=some (.tup (k.map kV))/\x=.ref T/\H T=none/\H'=upd H T (.tup [.ref q,v]),fun i H=>H d=some (.frz o (.dT kvs))/\kvs.length<=i⟩
section
variable {P:Program}{w:World}{K:W.Frag}{d:Addr}{o:Obj}{es:Array DictEntry}{ep:Nat}
theorem zR{X:Cx}{jx:List (Addr×Obj)}{σ:L2.St}{H:Hp}{s:Shared}{kvs:List (List Key×V)}(I:Inv X jx σ H s)(h:H d=some (.frz o (.dT kvs)))(qz:o.data=.dict es ep):k6 s.heap d o es ep/\es.size=kvs.length/\∀(i:Nat)(en:DictEntry),es[i]? =some en->∃k v q,kvs[i]? =some (k,v)/\en.key=.ref q/\H q=some (.tup (k.map kV))/\RelV v en.val:=by
 obtain⟨_,_,o',vh,vj,e,sz,en⟩:=oQ I (.inr ⟨o,h⟩);have e0:=(I.hok d _ h).1;have eo:o'=o:=by have:=e.at_;rw[e0]at this;exact(Option.some.inj this).symm
 subst eo;obtain⟨rfl,rfl⟩:=oS qz e.dat;exact⟨e,sz,en⟩
theorem xV{kvs:List (List Key×V)}{qv:List Expr}{kk:Nat}{nu:Pos}(it:Addr)(qz:o.data=.dict es ep):Turn P w K (.Tuple qv kk nu) (JK d o kvs) [it] it (fun i h=>∃k0 v0,IsItemIter h it d i kvs.length ep k0 v0) where
 mem:=by simp
 obj:=fun i h st b hb=>by
  have e:b=it:=by simpa using hb
  subst e;obtain⟨_,_,e⟩:=st;exact⟨_,e,fun v z=>nomatch z⟩
 keep:=fun i h h' st k=>let⟨k0,v0,e⟩:=st;⟨k0,v0,k it (by simp) _ e⟩
 item:=by
  intro X hP hw hK hc i jx s σ H E I hf st hg;subst hP hw hK;obtain⟨hd,hi⟩:=hg;obtain⟨e,sz,Bj⟩:=zR I hd qz;obtain⟨k0,v0,he⟩:=st;rw[<- sz]at he hi;obtain⟨k,v,q,Ac,oz,hq,rv⟩:=Bj i es[i] (gd hi);have kh:it<s.heap.objs.size:=bu he;refine B8 he e (gd hi) fun h' ho hT hz hk=>?_
  refine⟨_,rfl,wpAny_letOwnedTupleGo_items (s:={s with heap:=h'}) ho fun xu Dn sb=>?_⟩;have yo:xu.get? s.heap.objs.size=some {cls:=.type "tuple",data:=.seq #[es[i].key,es[i].val]}:=(sb.2 _ (jo kh)).trans hT;have new:dG X.prog X.w (upd H s.heap.objs.size (.tup [.ref q,v])) xu s.heap.objs.size (.tup [.ref q,v]):=⟨by show 2<=sizeLine;decide,[es[i].key,es[i].val],.cons oz (.cons rv .nil),⟨_,yo,rfl,_,rfl⟩⟩;have I1:Inv X jx σ (upd H s.heap.objs.size (.tup [.ref q,v])) {s with heap:=xu}:=I.uV (t':=s.toks) (ch:=[it]) (fun b ob hb z=>(sb.2 b (by simpa using hb)).trans (hk b ob (by simpa using hb) z)) hf (ay _) new;refine⟨.ref s.heap.objs.size,_,I1,rfl,⟨_,k,v,q,Ac,hq,rfl,I.hok.fresh (ay _),rfl⟩,⟨_,_,by rw[<- sz];exact Dn⟩,fun b hb=>?_⟩;have eb:b=it:=by simpa using hb
  rw[eb,aB (da kh)];exact(hf it (by simp)).1
 done:=by intro X hP hw hK hc i jx s σ H E I hf st hg;subst hP hw hK;obtain⟨hd,hi⟩:=hg;obtain⟨f0,f1,f2,f3,f4,f5⟩:=hf it (by simp);obtain⟨e,sz,Bj⟩:=zR I hd qz;obtain⟨k0,v0,he⟩:=st;rw[<- sz]at he hi;exact BL (I.ok.hd hc) he e hi fun h' eb=>⟨rfl,I.turned (t':=s.toks) (fun b ob hb z=>eb b ob hb z) f0 f1 f3 f4 f5⟩
 self:=fun A i s Q E st h=>let⟨_,_,e⟩:=st;W.kcp_self e h
end
noncomputable def KN(td:TE):TI:=fun σ H R=>td σ H fun x H1=>∃d o kvs,x=.ref d/\H1 d=some (.frz o (.dT kvs))/\R (JK d o kvs) H1
section
variable {X:Cx}{e:Expr}{td:TE}{md kg:Pos}
theorem vF{qv:List Expr}{kk:Nat}{nu:Pos}(he:PE X e td)(om:attributeBase e "items" X.env (eval e X.env)=eval e X.env:=by rfl)(ql:(md.endLine==kg.line)=true:=by rfl):L2.PI X (.Tuple qv kk nu) (.Call (.Attribute e "items" md) [] [] kg) (KN td):=by
 intro jx s σ H R I h;refine wpAny_Call_method (T:= "dict") (id:= "dict.items") om rfl ql F.plainAttrs_dict F.slot_dict_items F.type_dict_items (thn (he jx s σ H _ I h) fun u s1 ⟨x,H1,I1,rx,d,o,kvs,ex,hd,q⟩=>?_);subst ex;obtain rfl:u=Value.ref d:=rx;obtain⟨hs,_,o',es,ep,en,sz,_⟩:=oQ I1 (.inr ⟨o,hd⟩);have eo:o'=o:=by have:=en.at_;rw[(I1.hok d _ hd).1]at this;exact(Option.some.inj this).symm
 subst eo;refine⟨en.ty,fun b z=>by cases z;exact⟨o',en.at_,en.ex.2.1⟩,?_⟩;have I2:Inv X jx σ H1 {s1 with heap:=s1.heap.push {cls:=.type "dict_items",data:=.fields #[.ref d]}}:=I1.kept (t':=s1.toks) fun b ob q=>ao _ q
 have en2:k6 (s1.heap.push {cls:=.type "dict_items",data:=.fields #[.ref d]}) d o' es ep:=en.to fun q z=>ao _ z
 have fin:wpAny (model X.prog X.w) X.A (pyIter (.ref s1.heap.objs.size)) (PIE X jx σ (.Tuple qv kk nu) R) X.xe {s1 with heap:=s1.heap.push {cls:=.type "dict_items",data:=.fields #[.ref d]}}:=by refine yZ ⟨_,bc _ rfl,rfl,rfl⟩ en2 (AY (tk:=s1.toks) I2 _ (xV _ en.dat) ⟨.none,.none,?_⟩ q);rw[<- sz];exact bc _ rfl
 show wpAny _ _ (callWith kg (.builtin "dict.items") [.ref d] [] []) _ X.xe s1
 exact method_meetsIn F.slot_dict_items F.entry_dict_items rfl (PySem.evalArgs_none ⟨rfl,en.ty,F.args_dict_items_1 _,_,x9 hs,⟨o',es,ep,en⟩,fin⟩)
end
theorem vU{d:Addr}{od:Obj}{kvs:List (List Key×V)}{g:TG}{tb:TS}{D:Ends}{σ:L2.St}{H:Hp}(Pv:Nat->L2.St->Hp->Prop)(h0:Pv 0 σ H)(hl:∀i σ H,Pv i σ H->H d=some (.frz od (.dT kvs)))
  (hs:∀i k v q T σ H,kvs[i]? =some (k,v)->H q=some (.tup (k.map kV))->H T=none->Pv i σ H->g (.ref T) σ (upd H T (.tup [.ref q,v])) fun σ2 H2=>tb {D with nx:=Pv (i+1),ct:=Pv (i+1),bk:=D.nx} σ2 H2) (hd:∀σ H,Pv kvs.length σ H->D.nx σ H):
  ∃W:Nat->Nat->L2.St->Hp->Prop,(∃m,W 0 m σ H)/\∀i m σ H,W i m σ H ->
   ((JK d od kvs).stop i H/\D.nx σ H)\/((JK d od kvs).go i H/\∃N:L2.St->Hp->Prop,(∀σ' H',N σ' H'->∃m',m'<m/\W (i+1) m' σ' H')/\∀x H',(JK d od kvs).yld i H x H'->g x σ H' fun σ2 H2=>tb {D with nx:=N,ct:=N,bk:=D.nx} σ2 H2):=by
 refine⟨fun i m σ H=>m=kvs.length - i/\i<=kvs.length/\Pv i σ H,⟨kvs.length,by simp,cj _,h0⟩,?_⟩;rintro i m σ H ⟨rfl,hi,p⟩;have q:=hl i σ H p;by_cases kh:i<kvs.length
 ·refine .inr ⟨⟨q,kh⟩,Pv (i+1),fun σ' H' p'=>⟨kvs.length - (i+1),by omega,rfl,kh,p'⟩,fun x H' y=>?_⟩;obtain⟨T,k,v,b,hk,hb,rfl,hT,rfl⟩:=y;exact hs i k v b T σ H hk hb hT p
 ·have e:i=kvs.length:=by omega
  subst e;exact .inl ⟨⟨q,ay _⟩,hd σ H p⟩
section
variable {prog:Program}{w:World}{A:Around}{E:Value->Shared->Prop}
abbrev TK(prog:Program)(w:World):HeapKind prog w (List Key):=tupleKind (cD prog w)
theorem xD{h0 h:Heap}{ks:List Key}{a:Addr}(k:∀b q,h0.get? b=some q->h.get? b=some q)(x:(TK prog w).is h0 ks a):(TK prog w).is h ks a:=by obtain⟨o,its,n,ho,r⟩:=x;exact⟨o,its,n,k _ _ ho,r⟩
theorem tX{h h':Heap}{S:Addr}{acc:List (List Key×Addr×Value)}(m:h.DictOfH (TK prog w) S acc)(hS:∀q,h.get? S=some q->h'.get? S=some q)(hk:∀x∈acc,(TK prog w).is h' x.1 x.2.1):h'.DictOfH (TK prog w) S acc:=by obtain⟨o,es,ep,a1,a2,a3,a4,_,a6⟩:=m;exact⟨o,es,ep,hS _ a1,a2,a3,a4,hk,a6⟩
noncomputable def CP(acc rest:List (List Key×Addr×Value)):List (List Key×Addr×Value):=rest.foldl (fun a q=>storedH a q.1 q.2.1 q.2.2) acc
theorem AM(acc:List (List Key×Addr×Value))(k:List Key)(a:Addr)(v:Value):(storedH acc k a v).length<=acc.length+1:=by unfold storedH;split<;>simp
theorem LP{R:Result->Shared->Prop}{S I l:Addr}{items:Array Value}{res:Value}{h0:Heap}(hh:A.handled=none)(hu:A.in1.units<cLine)(hIS:S≠I)(rq:h0.IsList l items)(hS0:∀b q,h0.get? b=some q->b≠S)(hI0:∀b q,h0.get? b=some q->b≠I):
  ∀(rest:List (List Key×Addr×Value))(i:Nat)(acc:List (List Key×Addr×Value))(ix:Int)(t:Tok)(s:Shared),items.size=i+rest.length->acc.length+rest.length<=sizeLine->(∀x∈acc,(TK prog w).is h0 x.1 x.2.1) ->
   (∀(j:Nat)(q:List Key×Addr×Value),rest[j]? =some q->∃b:Addr,items[i+j]? =some (.ref b)/\IsTup h0 b #[.ref q.2.1,q.2.2]/\(TK prog w).is h0 q.1 q.2.1) ->
   (∀b q,h0.get? b=some q->s.heap.get? b=some q)->s.heap.IsListIter I l i->s.heap.DictOfH (TK prog w) S acc ->
   (∀h' tk,h'.DictOfH (TK prog w) S (CP acc rest)->(∀b q,h0.get? b=some q->h'.get? b=some q)->R (.ok (.ret res)) {s with heap:=h',toks:=tk}) ->
   codeAny (model prog w) A (.builtin "dict.update.loop" ⟨[.ref S,.ref I,.int ix t,res],[]⟩) R s
 |[],i,acc,ix,t,s,hsz,hln,hacc,ht,k0,kx,hm,hR=>by
  have hl:s.heap.IsList l items:=rq.at fun q z=>k0 _ _ z
  refine codeAny_builtin xT ?_;rw[Around.under_plainId kC _];show wpAny _ A.in1 (pyNext (.ref I)>>= _) _ _ s
  refine aa (wpAny_pyNext_list_end (A:=A.in1) hh kx hl (by first|exact getElem?_eq_none (ie hsz)|(simp at hsz;simp;omega)) fun h' he=>?_);show wpAny _ A.in1 (Builtin.Dict.addKeywords S []>>= _) _ _ _
  have k1:∀b q,h0.get? b=some q->h'.get? b=some q:=fun b q z=>he b q (hI0 b q z) (k0 b q z)
  exact aa (ai (ai (hR h' s.toks (tX hm (fun q z=>he S q hIS z) fun x hx=>xD k1 (hacc x hx)) k1)))
 |q::rest,i,acc,ix,t,s,hsz,hln,hacc,ht,k0,kx,hm,hR=>by
  obtain⟨b,hb,htup,hk⟩:=ht 0 q rfl;have hl:s.heap.IsList l items:=rq.at fun q z=>k0 _ _ z
  rw[bq]at hsz hln;refine codeAny_builtin xT ?_;rw[Around.under_plainId kC _];show wpAny _ A.in1 (pyNext (.ref I)>>= _) _ _ s
  refine aa (wpAny_pyNext_list_item (x:=.ref b) kx hl (by simpa using hb) fun h1 hit1 hs1=>?_);have k1:∀b q,h0.get? b=some q->h1.get? b=some q:=fun b q z=>(hs1.2 b (hI0 b q z)).trans (k0 b q z)
  have hm1:h1.DictOfH (TK prog w) S acc:=tX hm (fun q z=>(hs1.2 S hIS).trans z) fun x hx=>xD k1 (hacc x hx)
  obtain⟨o,ho,hc,n,hd⟩:=id htup;have ho1:=k1 _ _ ho;show wpAny _ A.in1 (holding [Value.ref b] _>>= _) _ _ _
  refine aa (wpAny_holding (aa (wpAny_tryCatch ?_)));unfold Builtin.Dict.pairItems;refine aa (wpAny_typeOf (T:= "tuple") ⟨o,ho1,hc⟩ ?_);rw[ah (by first|decide|rfl|simp)];refine aa (wpAny_seqItems ho1 hd (ai ?_));show wpAny _ A.in1 (holding [Value.ref q.2.1,q.2.2] (dictSet S (.ref q.2.1) q.2.2)) _ _ _
  refine wpAny_holding (wpAny_dictSet_heap (knd:=TK prog w) (k:=q.1) hu (xD k1 hk) hm1 (fun h2 hm2 vb=>?_) (by omega));have k2:∀b q,h0.get? b=some q->h2.get? b=some q:=fun b q z=>(vb.2 b (hS0 b q z)).trans (k1 b q z)
  refine ai ⟨plainId_quiet kC _,LP (items:=items) hh hu hIS rq hS0 hI0 rest (i+1) (storedH acc q.1 q.2.1 q.2.2) (ix+1) 0 _ (show items.size=i+1+rest.length by omega) ?_ (fun x hx=>?_) (fun j q' e=>?_) k2 ?_ hm2 fun h' tk xn k=>hR h' tk xn k⟩
  ·have z:=AM acc q.1 q.2.1 q.2.2;omega
  ·unfold storedH at hx;split at hx
   ·obtain⟨y,hy,rfl⟩:=au.mp hx;unfold putAt;split
    ·exact hacc y hy
    ·exact hacc y hy
   ·rcases aw.mp hx with hx|hx
    ·exact hacc x hx
    ·rw[iq.mp hx];exact hk
  ·obtain⟨b',a1,a2,a3⟩:=ht (j+1) q' (by simpa using e);exact⟨b',by rw[show i+1+j=i+(j+1) by omega];exact a1,a2,a3⟩
  ·exact hit1.at fun o' e=>(vb.2 I (Ne.symm hIS)).trans e
theorem zU{s:Shared}{l:Addr}{ol:Obj}{items:Array Value}{n:Nat}{prs:List (List Key×Addr×Value)}{Q:Value->Shared->Prop}(hh:A.handled=none)(hu:A.in1.in1.units<cLine)(hl:s.heap.get? l=some ol)(hc:ol.cls=.type "list")(hd:ol.dict=none)
  (lz:ol.data=.seq items n) (hsz:items.size=prs.length) (hln:prs.length<=sizeLine)
  (ht:∀(j:Nat)(q:List Key×Addr×Value),prs[j]? =some q->∃b:Addr,items[j]? =some (.ref b)/\IsTup s.heap b #[.ref q.2.1,q.2.2]/\(TK prog w).is s.heap q.1 q.2.1)
  (h:∀h' tk,h'.DictOfH (TK prog w) s.heap.objs.size (CP [] prs)->(∀b o,s.heap.get? b=some o->h'.get? b=some o)->Q (.ref s.heap.objs.size) {s with heap:=h',toks:=tk}):
  wpAny (model prog w) A (call (.type "dict") [.ref l]) Q E s:=by
 refine callType_codes (Q₁:=fun obj s₁=>obj=.ref s.heap.objs.size/\s₁={s with heap:=s.heap.push {cls:=.type "dict",data:=.dict #[]}}) PySem.F.kt_called_dict (PySem.F.kt_typeCall_dict_1 _) PySem.F.entry_dict_init (kt_code_dict_new _ ⟨rfl,rfl⟩) ?_;rintro obj s₁ ⟨rfl,rfl⟩;have vc:(s.heap.push {cls:=.type "dict",data:=.dict #[]}).DictOfH (TK prog w) s.heap.objs.size []:=Heap.DictOfH.new s.heap;have k0:∀b o,s.heap.get? b=some o->(s.heap.push {cls:=.type "dict",data:=.dict #[]}).get? b=some o:=fun b o e=>ao _ e
 refine⟨vc.typeIs,PySem.F.args_dict_init_2 _ _,?_⟩;unfold Builtin.«dict.__init__»;refine aa ?_;unfold Builtin.Dict.selfAndRest;refine aa (wpAny_notOrdered_dict vc.typeIs ?_);show wpAny _ _ (pure (s.heap.objs.size,[Value.ref l])) _ _ _
 refine ai ?_;show wpAny _ _ (Builtin.Dict.updateFrom "dict.__init__" s.heap.objs.size (.ref l) [] .none) _ _ _
 unfold Builtin.Dict.updateFrom;refine aa (wpAny_typeOf (T:= "list") ⟨ol,k0 _ _ hl,hc⟩ ?_);rw[ah (by first|decide|rfl|simp)];refine aa (EV (k0 _ _ hl) hc lz hd hh fun h1 Bo hk1=>?_);rw[ah (show(none:Option Value).isNone=true from rfl)];refine aa (wpAny_rule ?_);have hl1:h1.IsList l items:=⟨ol,hk1 _ _ (k0 _ _ hl),hc,n,lz⟩;have hS1:s.heap.objs.size<h1.objs.size:=by have e:(s.heap.push {cls:=.type "dict",data:=.dict #[]}).get? s.heap.objs.size=some {cls:=.type "dict",data:=.dict #[]}:=bc _ rfl;exact bu (hk1 _ _ e)
 refine aa (wpAny_pyIter_list hl1 ?_);have k2:∀b o,h1.get? b=some o->(h1.push {cls:=.type "list_iterator",data:=.fields #[.ref l,.int 0 0]}).get? b=some o:=fun b o e=>ao _ e
 have kk:∀b o,s.heap.get? b=some o->(h1.push {cls:=.type "list_iterator",data:=.fields #[.ref l,.int 0 0]}).get? b=some o:=fun b o e=>k2 _ _ (hk1 _ _ (k0 _ _ e))
 have key:=LP (prog:=prog) (w:=w) (A:=A.in1) (R:=wants (fun r s₂=>r=.none/\Q (.ref s.heap.objs.size) s₂) E) (S:=s.heap.objs.size) (I:=h1.objs.size) (l:=l) (items:=items) (res:=Value.none) (h0:=s.heap) hh hu (da hS1)
  ⟨ol,hl,hc,n,lz⟩ (fun b q z=>da (bu z)) (fun b q z=>da (Nat.lt_trans (bu z) hS1)) prs 0 [] 0 0
  {s with heap:=h1.push {cls:=.type "list_iterator",data:=.fields #[.ref l,.int 0 0]},toks:=Bo} (by rw[hsz,Nat.zero_add]) (by rw[fg,Nat.zero_add];exact hln) (fun x hx=>nomatch hx)
  (fun j q e=>by rw[Nat.zero_add];exact ht j q e) kk ⟨_,bc _ rfl,rfl,rfl⟩ (tX vc (fun q z=>k2 _ _ (hk1 _ _ z)) fun x hx=>nomatch hx)
  (fun h' tk xn k=>⟨rfl,h h' tk xn k⟩)
 first
  |exact ai ⟨plainId_quiet kC _,key⟩
  |exact aa (ai (ai ⟨plainId_quiet kC _,key⟩))
end
noncomputable def kF(kvs more:List (List Key×V)):List (List Key×V):=more.foldl (fun acc kv=>putK acc kv.1 kv.2) kvs
theorem DY{H:Hp}:∀{more:List (List Key×V)}{prs:List (List Key×Addr×Value)}{kvs:List (List Key×V)}{acc:List (List Key×Addr×Value)},KT H more prs->KT H kvs acc->KT H (kF kvs more) (CP acc prs)
 |_,_,_,_,.nil,r=>r
 |kv::_,q::_,kvs,acc,.cons ⟨e1,e2,e3⟩ t,r=>by
  show KT H (kF (putK kvs kv.1 kv.2) _) (CP (storedH acc q.1 q.2.1 q.2.2) _)
  refine DY t ?_;have:=r.put kv.1 e2 e3;rw[e1]at this ⊢;exact this
theorem vC:∀(more kvs:List (List Key×V)),(kF kvs more).length<=kvs.length+more.length
 |[],kvs=>by simp[kF]
 |kv::r,kvs=>by
  have h1:=vC r (putK kvs kv.1 kv.2);have h2:=kK kvs kv.1 kv.2;show(kF (putK kvs kv.1 kv.2) r).length<=_
  rw[bq];omega
section
variable {X:Cx}
theorem CA(Ds:X.calm=true)(hu:X.A.units+2<cLine):lH X (.type "dict") (fun xs H Q=>∃(a:Addr)(ps:List Addr)(kvs:List (List Key×V)),xs=[.ref a]/\SqL X.K H a (ps.map V.ref)/\Paired (fun p (kv:List Key×V)=>∃q,H p=some (.tup [.ref q,kv.2])/\H q=some (.tup (kv.1.map kV))) ps kvs/\
  ∀p,H p=none->Q (.ref p) (upd H p (.dT (kF [] kvs)))):=by
 intro jx s σ H xs us Q I r h;obtain⟨a,ps,kvs,ex,hq,hp,h⟩:=h;subst ex;obtain⟨u,eu,rx⟩:=vals1 r;subst eu;cases rx;obtain⟨its,rv,pl,hz⟩:=I.list hq;have ei:=jA rv;subst ei;rw[ag]at hz;have hpr:∀{ps:List Addr}{kvs:List (List Key×V)},Paired (fun p (kv:List Key×V)=>∃q,H p=some (.tup [.ref q,kv.2])/\H q=some (.tup (kv.1.map kV))) ps kvs ->
   ∃prs:List (List Key×Addr×Value),KT H kvs prs/\prs.length=ps.length/\∀(j:Nat)(q:List Key×Addr×Value),prs[j]? =some q->∃b,ps[j]? =some b/\IsTup s.heap b #[.ref q.2.1,q.2.2]/\(TK X.prog X.w).is s.heap q.1 q.2.1:=by
  intro ps kvs hp;induction hp with
  |nil=>exact⟨[],.nil,rfl,fun j q e=>by simp at e⟩
  | @cons p kv ps kvs hq t ih=>
   obtain⟨prs,r1,r2,r3⟩:=ih;obtain⟨b,hb1,Bg⟩:=hq;obtain⟨its,rv,ht,_⟩:=I.tuple (SqT.of (K:=X.K) hb1);obtain⟨u,y,ei,ru,ry⟩:=vals2 rv;subst ei;cases (show u=Value.ref b from ru);refine⟨(kv.1,b,y)::prs,.cons ⟨rfl,Bg,ry⟩ r1,by rw[bq,bq,r2],fun j q e=>?_⟩;cases j with
   |zero=>have e':(kv.1,b,y)=q:=Option.some.inj e;subst e';exact⟨p,rfl,ht,kM I.hok Bg⟩
   |succ j=>obtain⟨c,e1,e2,e3⟩:=r3 j q (by simpa using e);exact⟨c,by simpa using e1,e2,e3⟩
 obtain⟨prs,rel,hl,hpr⟩:=hpr hp;obtain⟨o,n,ho,hc,hd,lz⟩:=pl;refine zU (prs:=prs) (I.ok.hd Ds) hu ho hc hd lz (by simp[hl]) (by rw[hl];exact hz) (fun j q' e=>?_) fun h' tk xn k=>?_
 ·obtain⟨b,e1,e2,e3⟩:=hpr j q' e;exact⟨b,by simp[e1],e2,e3⟩
 ·have hm:(s.heap.objs.size==sysModules)=false:=beq_eq_false_iff_ne.mpr (jo I.big);have km:(kF [] kvs).length<=sizeLine:=by have h1:=vC kvs [];have h2:=pairs_len hp;rw[fg]at h1;omega
  have kt:=DY rel (.nil:KT H [] []);obtain⟨q,es,ep,qg,h2,h3,h4,_,h5⟩:=xn;refine⟨.ref s.heap.objs.size,_,I.laid (a:=s.heap.objs.size) (o:=.dT (kF [] kvs)) k (ay _) ⟨km,hm,_,kt.keeps fun c ys ec=>?_,q,es,ep,qg,h2,h3,h4,h5⟩,rfl,h _ (I.hok.fresh (ay _))⟩;rw[aB (aH ec (I.hok.fresh (ay _)))];exact ec
end
end L3
namespace L3
open PySem PySem.Spec PyProof.Rows L2
theorem MT{A:Around}{k:Nat}(hr:cY k A):A.units+2<cLine:=gk (Nat.add_le_add_left (by decide:2<=64) _) hr.units
theorem CL{H:Hp}:∀{xs:List V}{ps:List PI},Paired (T2 H) xs ps->∃as:List Addr,xs=as.map V.ref
 |_,_,.nil=>⟨[],rfl⟩
 |_,_,.cons ⟨a,e,_⟩ t=>by obtain⟨as,rfl⟩:=CL t;exact⟨a::as,by rw[e];rfl⟩
theorem tQ{α:Type}{l:List α}{i:Nat}{x:α}(h:l[i]? =some x):i<l.length:=(ak.mp h).1
theorem yF{κ:Type}[DecidableEq κ]{kf:κ->List Key}(hk:∀p q,kf p=kf q->p=q):∀(more kvs:List (κ×V)),kF (kvF kf kvs) (kvF kf more)=kvF kf (RM.cS kvs more)
 |[],kvs=>rfl
 |x::r,kvs=>by
  show kF (putK (kvF kf kvs) (kf x.1) x.2) (kvF kf r)=kvF kf (RM.cS (RM.dO kvs x.1 x.2) r)
  rw[AV hk,yF hk r]
theorem ER{L:List PI}(h:L.Nodup):kF [] (kvF k2 (KS L))=kvF k2 (KS L):=by have e:=yF (kf:=k2) (fun _ _=>BK) (KS L) [];rw[RM.qE (KS L) [] (by rw[xR];exact h) (by intro k _ z;cases z),nil_append]at e;exact e
def cnt(σ:L2.St)(i:Nat):Nat:=match σ[i]? with|some (some (.int k))=>k.toNat|_=>0
theorem T2.SO{a:Addr}{H H':Hp}{v:V}{p:PI}{kvs:List (PI×V)}(h:T2 H v p)(e:But a H H')(ha:D2 H a kvs):T2 H' v p:=h.but e ha (by intro _ z;cases z)
theorem KH{α:Type}{ws:List α}{q:α}{n:Nat}(hn:ws.length=n)(hq:ws[n - 1]? =some q):ws=ws.dropLast++[q]:=by
 subst hn;have kb:ws≠[]:=by intro z;rw[z]at hq;cases hq
 have e:=(jg kb).symm;rw[List.getLast_eq_getElem]at e;have e2:=(ak.mp hq).2;rw[e2]at e;exact e
noncomputable def LS(H:Hp)(a:Addr)(ts:List PI3):Prop:=∃xs,H a=some (.lst xs)/\Paired (T3 H) xs ts
noncomputable def LLS(H:Hp)(a:Addr)(Fs:List (List PI3)):Prop:=∃bs:List Addr,H a=some (.lst (bs.map V.ref))/\Paired (LS H) bs Fs
theorem LS.mono{H H':Hp}{a:Addr}{ts:List PI3}(e:a9 H H')(h:LS H a ts):LS H' a ts:=let⟨xs,h1,h2⟩:=h;⟨xs,e _ _ h1,aJ (fun _ _ q=>q.mono e) h2⟩
theorem LS.upd{H:Hp}{b D:Addr}{ts:List PI3}{xs:List V}{o:HO}(h:LS H b ts)(hD:H D=some (.lst xs))(n:b≠D):LS (L2.upd H D o) b ts:=by obtain⟨ys,q,pr⟩:=h;exact⟨ys,by rw[aB n];exact q,aJ (fun _ _ z=>z.upd hD) pr⟩
theorem qR{α β:Type}{R:α->β->Prop}:∀{l:List α}{m:List β}{b:β},Paired R l (m++[b])->∃l' a,l=l'++[a]/\Paired R l' m/\R a b
 |_,[],_,.cons r .nil=>⟨[],_,rfl,.nil,r⟩
 |_,_::m,_,.cons r t=>by obtain⟨l',a,e,h1,h2⟩:=qR (m:=m) t;exact⟨_::l',a,by rw[e];rfl,.cons r h1,h2⟩
end L3
namespace L3
open PySem PySem.Spec PySem.Calls PyProof.Rows L2
section
variable {M:Model}{A:Around}{E:Value->Shared->Prop}
variable {nm q nm' q':Str}{C N C' N':Addr}{bs bm bs' bm':List Value}{hdct yk:Bool}{sn sn':List Str}{sub Bp:List Value}{ab ab':Bool}{col Eh:Option Bool}{dd Ao:Option Addr}{k0 k1 k2 k3 k5 l0 l1 l2 l3 l5:Option Value}{mq um:String}
theorem uI{h:Heap}{g:Array GenState}{d:Drawn}{t:Nat}{os:OsState}{e:Addr}{oe:Obj}{Q:Bool->Shared->Prop}
  (hC:h.get? C=some (excClassObj nm q C N bs bm hdct sn sub ab col dd k0 k1 k2 k3 k5 mq)) (hD:h.get? C'=some (excClassObj nm' q' C' N' bs' bm' yk sn' Bp ab' Eh Ao l0 l1 l2 l3 l5 um))
  (he:h.get? e=some oe) (qt:oe.cls=.ref C) (om:bm'.contains (.type "BaseException")=true) (hno:(Value.ref C::bm).contains (.ref C')=false) (hq:Q false ⟨h,g,d,t,os⟩):wpAny M A (excMatches (.ref e) (.ref C')) Q E ⟨h,g,d,t,os⟩:=by
 have hcB:(Value.ref C'::bm').contains (.type "BaseException")=true:=by rw[List.contains_cons,om,Bool.or_true]
 have f:=tc_notTuple;unfold excMatches
 repeat (first|(with_reducible refine wpAny_loadPart_at he ?_;rw[qt])|with_reducible refine wpAny_loadPart_at hD ?_|(with_reducible refine wpAny_isSubtype_exc hD ?_;rw[hcB])|(with_reducible refine wpAny_isSubtype_exc hC ?_;rw[hno])|wp_step)
 exact hq
end
noncomputable def cxL(P:Program)(w:World)(K:W.Frag)(mg:Str->Option Value)(base:Heap)(N:List Str)(qual:Str)(scope:Scope)(f:Addr)(cd:Value)(cl:List (Str×Addr))(A:Around)(outer:List Env)(s:Shared)(H:Hp)(E:XK):Cx where
 prog:=P
 w:=w
 K:=K
 mg:=mg
 base:=base
 A:=A.deeper (W.envX qual scope s.heap.objs.size f cd cl)
 N:=N
 s_0:=s
 H_0:=H
 env:=W.envX qual scope s.heap.objs.size f cd cl
 outer:=outer
 stack:=W.envX qual scope s.heap.objs.size f cd cl::outer
 ex:=[]
 calm:=true
 fn:=fun _=>false
 pn:=[]
 xe:=fun e s'=>wpAny (model P w) (A.deeper (W.envX qual scope s.heap.objs.size f cd cl)) (leaving (W.envX qual scope s.heap.objs.size f cd cl) e) (fun _ ze=>CXf outer H s E e ze) (fun e' ze=>CXf outer H s E e' ze) s'
section
variable {P:Program}{w:World}{K:W.Frag}{mg:Str->Option Value}{base:Heap}{N:List Str}{qual:Str}{scope:Scope}{f:Addr}{cd:Value}{cl:List (Str×Addr)}{A:Around}{outer:List Env}{s:Shared}{H:Hp}{E:XK}
theorem OB(kz:HOk P w H s.heap):Passes CXf (cxL P w K mg base N qual scope f cd cl A outer s H E) (fun c _ _=>E c none H):=by
 intro jx σ H1 s1 e s' I h;obtain⟨ae,C,rfl,⟨⟨a0,fl⟩,sl,os,bare⟩,hE⟩:=h;have An:Heap.FlyingW (gD s.heap H (frs outer++[])) (cxL P w K mg base N qual scope f cd cl A outer s H E).stack ae (.ref C) a0 s'.heap:=
  W.flyingW_base (fun b o q=>by
   obtain⟨z1,z2,z3,_⟩:=stays I kz (ex:=[]) (fun _ z=>z) q;exact gL z1 z2 (by rw[nS];exact z3)) fl
 refine wpAny_leaves_onW (L:=s.heap.objs.size) (outer:=outer) I.ok.frames rfl An fun h2 fl3 up=>?_
 refine⟨ae,C,rfl,⟨⟨_,fl3⟩,fun b hb o q=>?_,os.trans I.os,bare⟩,hE⟩;have xp:b∈frs (cxL P w K mg base N qual scope f cd cl A outer s H E).stack:=by
  show b∈frs (_::outer)
  unfold frs;rw[ej];exact aq _ hb
 obtain⟨sl1,q1⟩:=kE I hb (by intro z;exact nomatch z) q;obtain⟨uh,q2⟩:=sl b xp _ q1;obtain⟨o3,q3,nf⟩:=(fl.2.2.1.mem (b:=b) xp).2;rw[q2]at q3;cases q3;obtain⟨Au,q4⟩:=up b _ q2 nf;exact⟨Au,q4⟩
theorem KI{k:Nat}{name:Str}{params:Arguments}{body:Expr}{pm Bl:Value}{c':Addr}{Q:VK}{te:TE}{vs:List V}(hr:cY (k+1) A)(e0:oZ P w K mg base A outer s H)
  (ho:s.heap.get? f=some (W.kla_obj name qual params body scope cl pm c' Bl)) (pf:s.heap.CodeRec (.ref c') qual) (qu:bindArgs (W.kla_fn name qual params body scope cl pm (.ref c') Bl) ⟨[],[]⟩=pure [])
  (hk:scope.kind=.function) (hco:scope.isCoroutine=false) (hgen:scope.isGenerator=false) (hnc:∀x∈scope.names,x.2≠ .cell) (hnl:∀x,scope.names.lookup x≠some .local) (hN:vs.length=N.length)
  (inj:∀x y c,cl.lookup x=some c->cl.lookup y=some c->x=y) (has:∀x,scope.names.lookup x=some .free->∃c,cl.lookup x=some c)
  (ow:∀x c,cl.lookup x=some c->H c=none/\∃v,s.heap.IsCell c v) (hv:∀(i:Nat)(x:Str)(v:V),N[i]? =some x->vs[i]? =some v->scope.names.lookup x=some .free->∃c u,cl.lookup x=some c/\RelV v u/\s.heap.IsCell c (some u))
  (Cr:cY k (A.deeper (W.envX qual scope s.heap.objs.size f (.ref c') cl))->HOk P w H s.heap->PE (cxL P w K mg base N qual scope f (.ref c') cl A outer s H E) body te) (hq:te (vs.map some) H Q):
  codeAny (model P w) A (.call (.ref f) ⟨[],[]⟩) (CR CXf outer P w H s Q E) s:=by
 have zi:s.heap.NoLimit:=e0.mod.nolimit.keeps fun b o e=>(e0.bs b o e).1
 refine W.kla_callFunE hr.depth ho rfl hco hgen rfl pf ?_;rw[qu];refine ai (wpAny_newFunctionEnv hnc (fun x hx=>nomatch hx) (fun h1 hns hsb=>?_) hk);have kp:∀b o,s.heap.get? b=some o->h1.get? b=some o:=fun b o e=>(hsb.2 b (da (bu e))).trans (ao _ e)
 refine⟨zi.keeps kp,?_⟩;show codeAny _ _ (.expr body (W.envX qual scope s.heap.objs.size f (.ref c') cl)) _ _
 have cat:∀{c:Addr}{v:Option Value},s.heap.IsCell c v->h1.IsCell c v:=fun⟨o,e,d⟩=>⟨o,kp _ _ e,d⟩
 have I:Inv (cxL P w K mg base N qual scope f (.ref c') cl A outer s H E) [] (vs.map some) H {s with heap:=h1,toks:=s.toks+([]:List (Str×Value)).length}:=by
  refine⟨⟨e0.mod,hk,rfl,rfl,ay _,inj,fun x hx=>?_,fun x c hx=>(nomatch hx),fun _=>hr.hd,Around.frames_deeper e0.frames,.inr ⟨rfl,rfl⟩,fun b z=>(nomatch z),e0.bs,e0.bsz,fun b _ _ z=>(nomatch z),fun b z=>(nomatch z),e0.kO,e0.frf⟩,
   rfl,e0.bare,Un.kept kp,⟨_,hns,fun i x v h1 h2 h3=>?_⟩,fun x c e=>?_,e0.hok.fresh (ay _),fun x c e=>(ow x c e).1,fun p hp=>(nomatch hp),e0.hok.kept kp,by rw[ag];exact hN⟩
  ·rcases hx with hx|hx
   ·exact absurd rfl (hnc _ (PySem.mem_of_lookup (show scope.names.lookup x=some .cell from hx)))
   ·exact has x hx
  ·have e2:vs[i]? =some v:=by
    rw[ax]at h2;cases e:vs[i]? with
    |none=>rw[e]at h2;cases h2
    |some z=>rw[e]at h2;cases h2;rfl
   rcases h3 with h3|h3|h3
   ·exact absurd h3 (hnl x)
   ·exact absurd rfl (hnc _ (PySem.mem_of_lookup (show scope.names.lookup x=some .cell from h3)))
   ·obtain⟨c,u,a1,a2,a3⟩:=hv i x v h1 e2 h3;exact⟨u,a2,.inr ⟨.inr h3,c,a1,cat a3⟩⟩
  ·obtain⟨v,hcv⟩:=(ow x c e).2;exact⟨v,cat hcv⟩
 refine W.kla_codeExpr (wpAny_mono (Cr (hr.deeper _) e0.hok [] _ (vs.map some) H Q I hq) (fun u s' h=>?_) fun e s' h=>h);obtain⟨v,H',J,rv,q⟩:=h;exact⟨v,H',J.os,J.bare,J.base,J.hok,rv,q⟩
end
def Flat(H:Hp):Prop:=∀b,H b=none\/∃o u,H b=some (.frz o u)
def cxE(X:Cx)(xe:Value->Shared->Prop):Cx:={X with xe:=xe}
noncomputable def cxM(X:Cx)(e:Value)(xe:Value->Shared->Prop):Cx:={X with A:=X.A.mark (some e),calm:=false,xe:=xe}
section
variable {X:Cx}{jx:List (Addr×Obj)}{σ:L2.St}{H:Hp}{s:Shared}{e:Value}{xe:Value->Shared->Prop}
theorem KJ(I:Inv X jx σ H s):Inv (cxE X xe) jx σ H s:=by obtain⟨⟨o1,o2,o3,o4,o5,o6,o7,o8,o9,Bu,o11,o12,o13,o14,o15,o16,o17,o18⟩,i1,i2,i3,i4,i5,i6,i7,i8,i9,zm⟩:=I;exact⟨⟨o1,o2,o3,o4,o5,o6,o7,o8,o9,Bu,o11,o12,o13,o14,o15,o16,o17,o18⟩,i1,i2,i3,i4,i5,i6,i7,i8,i9,zm⟩
theorem BP(I:Inv (cxE X xe) jx σ H s):Inv X jx σ H s:=by obtain⟨⟨o1,o2,o3,o4,o5,o6,o7,o8,o9,Bu,o11,o12,o13,o14,o15,o16,o17,o18⟩,i1,i2,i3,i4,i5,i6,i7,i8,i9,zm⟩:=I;exact⟨⟨o1,o2,o3,o4,o5,o6,o7,o8,o9,Bu,o11,o12,o13,o14,o15,o16,o17,o18⟩,i1,i2,i3,i4,i5,i6,i7,i8,i9,zm⟩
theorem DD(I:Inv X jx σ H s):Inv (cxM X e xe) jx σ H s:=by obtain⟨⟨o1,o2,o3,o4,o5,o6,o7,o8,o9,Bu,o11,o12,o13,o14,o15,o16,o17,o18⟩,i1,i2,i3,i4,i5,i6,i7,i8,i9,zm⟩:=I;exact⟨⟨o1,o2,o3,o4,o5,o6,o7,o8,fun z=>(nomatch z),Bu,o11,o12,o13,o14,o15,o16,o17,o18⟩,i1,i2,i3,i4,i5,i6,i7,i8,i9,zm⟩
theorem BO(ok:X.Ok)(I:Inv (cxM X e xe) jx σ H s):Inv X jx σ H s:=by obtain⟨_,i1,i2,i3,i4,i5,i6,i7,i8,i9,zm⟩:=I;exact⟨ok,i1,i2,i3,i4,i5,i6,i7,i8,i9,zm⟩
theorem z5(I:Inv X jx σ H s)(fl:Flat H){C ae:Addr}{a0:Value}{s2:Shared}(hf:Heap.FlyingW (gD s.heap H (frs X.stack++[])) X.stack ae (.ref C) a0 s2.heap)
  (sl:∀b∈frs X.stack,∀o,s.heap.get? b=some o->∃sl,s2.heap.get? b=some {o with slots:=sl}) (os:s2.os=s.os) (bare:AllBare s2.gens):Inv X jx σ H s2:=by
 have st:∀b o,s.heap.get? b=some o->b∉frs X.stack->s2.heap.get? b=some o:=fun b o e hb=>hf.1 b o (gL e (by rcases fl b with q|⟨o,u,q⟩<;>rw[q]<;>rfl) (by rw[nS];exact hb))
 have un:Un (frs X.stack) [] H H s.heap s2.heap:=
  ⟨fun b o e _ hb _=>st b o e hb,fun b o e _ hb _=>sl b hb o e,fun _ _ _ n _=>n,fun b o e _=>by
   by_cases hb:b∈frs X.stack
   ·obtain⟨sl,q⟩:=sl b hb o e;exact⟨_,q⟩
   ·exact⟨_,st b o e hb⟩,fun _ _ q=>q,fun _ _ _ q=>q,fun _ ps q=>⟨#[],by rw[q];simp⟩⟩
 refine I.DU os un (fun a o e=>?_) bare (fun b z=>(nomatch z));have na:a∉frs X.stack:=fun z=>by have:=I.wO a z;rw[this]at e;cases e
 refine(I.hok a o e).nE (fun b u hb q=>?_) (fun b z=>z) (fun b xs z=>z);rcases hb with rfl|hb
 ·exact st b u q na
 ·rcases fl b with z|⟨_,_,z⟩<;>rw[z]at hb<;>cases hb
theorem sI{h:Heap}{l:List Env}{base h1 h2:Heap}(fr:h1.FunFrames base l)(sl:∀b∈frs l,∀o,h.get? b=some o->∃sl,h1.get? b=some {o with slots:=sl})(up:h1.UpToSlots h2):
  ∀b∈frs l,∀o,h.get? b=some o->∃sl,h2.get? b=some {o with slots:=sl}:=fun b hb o q=>by
 obtain⟨uh,q2⟩:=sl b hb o q;obtain⟨o3,q3,nf⟩:=(fr.mem (b:=b) hb).2;rw[q2]at q3;cases q3;obtain⟨Au,q4⟩:=up b _ q2 nf;exact⟨Au,q4⟩
end
structure HD where
 x:Str
 C:Addr
 k:Int
 np:Pos
 p1:Pos
 p2:Pos
 p3:Pos
 p4:Pos
 pos:Pos
noncomputable def HD.st(d:HD):Stmt:=.Return (some (.List [.UnaryOp .USub (.Constant (.int d.k) 0 d.p1) d.p2] d.p3)) d.p4
def HD.h(d:HD):ExceptHandler:=.ExceptHandler (some (.Name d.x d.np)) none [d.st] d.pos
noncomputable def gY(base:Heap)(C:Addr):Prop:=∃(nm q:Str)(N:Addr)(bs bm:List Value)(hdct:Bool)(sn:List Str)(sub:List Value)(ab:Bool)(col:Option Bool)(dd:Option Addr)(k0 k1 k2 k3 k5:Option Value)(mq:String),
 base.get? C=some (excClassObj nm q C N bs bm hdct sn sub ab col dd k0 k1 k2 k3 k5 mq)/\bm.contains (.type "BaseException")=true/\∀D,bm.contains (.ref D)=false
structure XG(X:Cx)(d:HD):Prop where
 bound:X.mg d.x=some (.ref d.C)
 gl:Gl X d.x
 cl:gY X.base d.C
 nd:(d.x==("__debug__" : Str))=false
section
variable {X:Cx}{jx:List (Addr×Obj)}{σ:L2.St}{H:Hp}{s:Shared}{e C:Addr}{Q:Flow->Shared->Prop}{E:Value->Shared->Prop}
theorem qY(I:Inv X jx σ H s)(hx:gY X.base C)(he:∃oe,s.heap.get? e=some oe/\oe.cls=.ref C):
  ∀(l:List HD),(∀d∈l,XG X d)->(∃d∈l,d.C=C) ->
   (∀d∈l,d.C=C->∀E',wpAny (model X.prog X.w) (X.A.mark (some (.ref e))) (setFlight (.ref e) none) (fun _ s1=>wpAny (model X.prog X.w) (X.A.mark (some (.ref e))) (execs [d.st] X.env) Q E' s1) E' s) ->
   wpAny (model X.prog X.w) X.A (handleBy (.ref e) X.env (l.map HD.h)) Q E s
 |[],_,wc,_=>by obtain⟨d,hd,_⟩:=wc;exact(nomatch hd)
 |d::r,hok,wc,kx=>by
  have ih:=qY I hx he r (fun d hd=>hok d (aq _ hd));obtain⟨oe,xi,qt⟩:=he;have D:=hok d bj;obtain⟨nm,q,N,bs,bm,hdct,sn,sub,ab,col,dd,k0,k1,k2,k3,k5,mq,hC,hb,hn⟩:=hx;obtain⟨nm',q',N',bs',bm',yk,sn',Bp,ab',Eh,Ao,l0,l1,l2,l3,l5,um,hC',sv,sh⟩:=D.cl;refine wpAny_handleBy_cons (codeAny_handlers_test (jH (DD (e:=.ref e) (xe:=fun _ _=>False) I) D.gl D.bound ?_ D.nd)) (by intro q;cases q);by_cases hdc:d.C=C
  ·have hC2:=I.bk _ _ hC';have ym:oe.cls=.ref d.C:=by rw[qt,hdc]
   exact wpAny_excMatches_sub_self (h:=s.heap) (g:=s.gens) hC2 xi ym sv (codeAny_handlers_suite (kx d bj hdc _))
  ·refine uI (h:=s.heap) (g:=s.gens) (I.bk _ _ hC) (I.bk _ _ hC') xi qt sv ?_ ?_
   ·rw[List.contains_cons,hn];simp[hdc]
   ·refine ih ?_ fun d hd=>kx d (aq _ hd)
    obtain⟨d2,h2,h3⟩:=wc;rcases ar.mp h2 with rfl|h2
    ·exact absurd h3 hdc
    ·exact⟨d2,h2,h3⟩
end
section
variable {P:Program}{w:World}{K:W.Frag}{mg:Str->Option Value}{base:Heap}
theorem LG{k:Nat}{f fl:Addr}{name qual:Str}{params:Arguments}{body:List Stmt}{scope:Scope}{dV kV mm pm kc ct oc:Value}{an od:Option Addr}{nv:Array (Option Value)}{A:Around}{outer:List Env}{s:Shared}{H:Hp}{Q:VK}{E:XK}{l:List HD}{d0:HD}{r0:List HD}{p1 p2 p3 p4:Pos}
  (lk:K.lookup f=some ⟨oc,od,.func (W.fnOf name qual params body scope dV kV mm pm an kc ct),nv⟩) (pf:W.codeIn K kc qual=true) (S:aM ["tell"] ["tell"] scope) (Ab:scope.names.lookup ("tell" : Str)=some NameKind.local)
  (mi:body=[.Try [.Return (some (.Call (.Name "tell" p1) [] [] p2)) p3] (l.map HD.h) [] [] p4]) (hl:l=d0::r0)
  (hr:cY (k+1) A) (e0:oZ P w K mg base A outer s H) (hb:BindsTo s (W.fnOf name qual params body scope dV kV mm pm an kc ct) ⟨[.ref fl],[]⟩ ([("tell" : Str)].zip [.ref fl])) (flat:Flat H)
  (hd:∀d∈l,mg d.x=some (.ref d.C)/\scope.names.lookup d.x=some .globalImplicit/\gY base d.C/\(d.x==("__debug__" : Str))=false)
  (Af:W.FnAt fl s.heap) (hH:H fl=none) (hno:fl∉frs outer)
  (Dt:∀(A1:Around)(rh:List Env)(s1:Shared),cY k A1->oZ P w K mg base A1 rh s1 H->(∀b o,s.heap.get? b=some o->H b=none->b∉frs outer->s1.heap.get? b=some o) ->
   codeAny (model P w) A1 (.call (.ref fl) ⟨[],[]⟩) (CR CXf rh P w H s1 Q (fun c _ _=>∃C,c=.ref C/\(∃d∈l,d.C=C)/\∀d∈l,d.C=C->∀p,H p=none->Q (.ref p) (upd H p (.lst [.int (-d.k)])))) s1):
  codeAny (model P w) A (.call (.ref f) ⟨[.ref fl],[]⟩) (CR CXf outer P w H s Q E) s:=by
 have KX:K.In s.heap:=e0.mod.kin.keeps fun b o e=>(e0.bs b o e).1
 have zi:s.heap.NoLimit:=e0.mod.nolimit.keeps fun b o e=>(e0.bs b o e).1
 have qo:∀y∈[("tell" : Str)].zip [Value.ref fl],scope.names.lookup y.1=some .local\/(scope.names.lookup y.1=some .cell/\((cellsFrom (s.heap.objs.size+1) scope.names []).lookup y.1).isSome=true):=fun⟨n,v⟩ hy=>by
  rcases S.par n (of_mem_zip hy).1 with q|q
  ·exact .inl q
  ·exact .inr ⟨q,W.cellsFrom_some _ _ _ (.inl q)⟩
 refine codeAny_call_function hr.depth (KX _ _ lk) rfl S.co S.gen rfl (W.codeRec_of KX pf) (hb _ _ _ _ ?_);refine wpAny_newFunctionEnv_cells S.kind qo fun env he s1 x=>?_
 subst he;refine⟨zi.keeps x.toInCall.keep,codeAny_func ?_⟩;have I:Inv (cxF P w K mg base ["tell"] qual scope f kc A outer s H E) [] (start ["tell"] [.ref fl]) H s1:=pU S hr.hd e0 rfl (.cons rfl .nil) x;have zt:=hr.deeper (envOfC qual scope s.heap.objs.size f kc);let X:=cxF P w K mg base ["tell"] qual scope f kc A outer s H E
 have main:wpAny (model P w) X.A (execs body X.env) (SP X [] {nx:=fun _ _=>False,rt:=Q}) X.xe s1:=by
  rw[mi,hl];have after:∀(f:Flow)(s1:Shared),SP X [] {nx:=fun _ _=>False,rt:=Q} f s1->(match f with| .next=>wpAny (model P w) X.A (execs [] X.env) (SP X [] {nx:=fun _ _=>False,rt:=Q}) X.xe s1|f=>SP X [] {nx:=fun _ _=>False,rt:=Q} f s1):=fun f s1 q=>by
   cases f with
   |next=>exact wpAny_execs_nil q
   |ret v=>exact q
   |brk=>exact q
   |cont=>exact q
  refine wpAny_execs_cons (wpAny_mono (wpAny_Try_except (Q:=SP X [] {nx:=fun _ _=>False,rt:=Q}) ?_) after fun _ _ q=>q);have hv:∀E',wpAny (model P w) X.A (eval (.Name "tell" p1) X.env) (EP (cxE X E') [] (start ["tell"] [.ref fl]) (fun v H'=>v=V.ref fl/\H'=H)) E' s1:=fun E'=>
   HB (X:=cxE X E') (i:=0) rfl (.inl Ab) (by decide) (by decide) [] s1 _ H (fun v H'=>v=V.ref fl/\H'=H) (KJ I) ⟨.ref fl,rfl,rfl,rfl⟩
  refine wpAny_execs_cons (wpAny_Return_some (wpAny_Call_Name_kw (thn (hv _) fun u s2 hu=>?_)));obtain⟨v,H',J,rv,rfl,rfl⟩:=hu;obtain rfl:u=.ref fl:=rv;have J:=BP J;have kp:∀b o,s.heap.get? b=some o->H' b=none->b∉frs outer->s2.heap.get? b=some o:=fun b o e1 e2 e3=>J.base.keep b o e1 e2 e3 (by intro z;exact(nomatch z))
  have fn2:W.FnAt fl s2.heap:=by obtain⟨a1,a2,a3,a4,a5⟩:=Af;exact⟨a1,a2,a3,a4,kp _ _ a5 hH hno⟩
  refine W.callWith_F0 fn2 (wpAny_call (codeAny_mono (Dt _ _ s2 zt J.J7 kp) fun r s' hq=>?_));cases r with
  |ok f1=>
   cases f1 with
   |ret u=>obtain⟨v,H3,J3,rv3,q3⟩:=J.after hq;exact⟨v,_,H3,J3,rv3,q3⟩
   |next=>exact False.elim hq
   |brk=>exact False.elim hq
   |cont=>exact False.elim hq
  |error e=>
   obtain⟨ae,C,rfl,⟨⟨a0,fly⟩,sl,os,bare⟩,C2,ym,wc,hE⟩:=hq;cases ym;refine wpAny_looks_onW J.ok.frames rfl fly fun h4 xj up4=>?_
   refine wpAny_landsW xj fun h5 xw up5=>?_
   have sl4:=sI fly.2.2.1 sl up4;have sl5:=sI xj.2.2.1 sl4 up5;have J5:Inv (cxF P w K mg base ["tell"] qual scope f kc A outer s H' E) [] _ H' {s' with heap:=h5}:=z5 J flat xw sl5 os bare;have hx:gY base C:=by obtain⟨d,h1,rfl⟩:=wc;exact(hd d h1).2.2.1
   have Dm:∃oe,h5.get? ae=some oe/\oe.cls=.ref C:=by obtain⟨oe,ws,a1,a2,_⟩:=xw.first;exact⟨oe,a1,a2⟩
   rw[<- bo (f:=HD.h),<- hl];refine qY (X:=cxF P w K mg base ["tell"] qual scope f kc A outer s H' E) J5 hx Dm l (fun d h1=>⟨(hd d h1).1,(hd d h1).2.1,(hd d h1).2.2.1,(hd d h1).2.2.2⟩) wc fun d h1 h2 E'=>?_
   refine lands_againW xw fun h6 fly6 up6=>?_
   have sl6:=sI xw.2.2.1 sl5 up6;have J6:Inv (cxF P w K mg base ["tell"] qual scope f kc A outer s H' E) [] _ H' {s' with heap:=h6}:=z5 J flat fly6 sl6 os bare;have hrun:=aE (X:=cxM (cxF P w K mg base ["tell"] qual scope f kc A outer s H' E) (.ref ae) fun _ _=>False) (aR (pos:=d.p4) (eZ (pos:=d.p3) (a7 (LN (pos:=d.p2) GD (aL (i:=d.k) (j:=0) (pos:=d.p1))) aD)))
    [] _ _ H' {nx:=fun _ _=>False,rt:=Q} (DD J6) ⟨d.k,rfl,(by show 1<=sizeLine;decide),fun p hp=>hE d h1 h2 p hp⟩
   refine wpAny_mono hrun (fun f s3 q=>?_) fun _ _ q=>q.elim
   cases f with
   |next=>obtain⟨_,_,_,q⟩:=q;exact q.elim
   |brk=>obtain⟨_,_,_,q⟩:=q;exact q.elim
   |cont=>obtain⟨_,_,_,q⟩:=q;exact q.elim
   |ret u=>obtain⟨v,σ',H3,J3,rv3,q3⟩:=q;exact⟨v,σ',H3,BO J6.ok J3,rv3,q3⟩
 refine wpAny_mono main (fun fl s' hs=>?_) fun e s' hs=>hs
 cases fl with
 |ret u=>obtain⟨v,σ',H',J,rv,q⟩:=hs;exact⟨v,H',J.os,J.bare,J.base,J.hok,rv,q⟩
 |next=>obtain⟨_,_,_,q⟩:=hs;exact False.elim q
 |brk=>obtain⟨_,_,_,q⟩:=hs;exact False.elim q
 |cont=>obtain⟨_,_,_,q⟩:=hs;exact False.elim q
end
noncomputable def NP(mg:Str->Option Value)(h:Heap):Prop:=∃bm ob,mg "__builtins__" =some (.ref bm)/\bm≠builtinsNs/\bm≠mainGlobals/\h.get? bm=some ob/\ob.cls=.type "module" /\ob.dict=some builtinsNs/\ob.data=.plain
noncomputable def XA(l:List HD)(H:Hp)(Q:VK):XK:=fun c _ _=>∃C,c=.ref C/\(∃d∈l,d.C=C)/\∀d∈l,d.C=C->∀p,H p=none->Q (.ref p) (upd H p (.lst [.int (-d.k)]))
def hT(H:Hp)(T:Addr)(ps:Array Value):Hp:=upd H T (.frz (W.tabObj ps) (.tbl ps))
noncomputable def TH(T:Addr)(l:List HD)(pos:Pos)(teL:XK->Hp->TE):TE:=fun σ H Q=>∃(vs:List V)(ps:Array Value),σ=vs.map some/\H T=some (.tbl ps)/\TriplesOk ps.toList/\codeAmong pos ps.toList=none/\
 (∀b,b≠T->H b=none\/∃o u,H b=some (.frz o u))/\∀more,teL (XA l (hT H T (ps++more)) (fun v H3=>H3 T=some (.frz (W.tabObj (ps++more)) (.tbl (ps++more)))->Q v (upd H3 T (.tbl (ps++more))))) (hT H T (ps++more)) (vs.map some) (hT H T (ps++more))
  (fun v H3=>H3 T=some (.frz (W.tabObj (ps++more)) (.tbl (ps++more)))->Q v (upd H3 T (.tbl (ps++more))))
section
variable {X:Cx}
theorem NJ{cells:List (Str×Addr)}{names:List (Str×NameKind)}(hf:∀y∈names,y.2=.free->∃c,cells.lookup y.1=some c){x:Str}{c:Addr}(h:(bJ cells names []).lookup x=some c):(x,NameKind.free)∈names/\cells.lookup x=some c:=by
 rcases fX (PySem.mem_of_lookup h)with h|⟨h1,h2⟩
 ·exact(nomatch h)
 ·obtain⟨c2,h3⟩:=hf _ h1 rfl;have h3:cells.lookup x=some c2:=h3;rw[h3]at h2;exact⟨h1,by rw[h3,h2];rfl⟩
theorem DT{cells:List (Str×Addr)}{names:List (Str×NameKind)}{x:Str}(h:names.lookup x=some .free):∃c,(bJ cells names []).lookup x=some c:=mem_lookup (iE (PySem.mem_of_lookup h))
theorem MH{k:Nat}{x:Str}{f:Addr}{name qual:Str}{params:Arguments}{body:List Stmt}{scope:Scope}{dV kV mm pm kc ct oc:Value}{an od:Option Addr}{nv:Array (Option Value)}{l:List HD}{d0:HD}{r0:List HD}{p1 p2 p3 p4 p Bs pos:Pos}
  {kn:Arguments}{my:Expr}{ka:Scope}{c T:Addr}{teL:XK->Hp->TE}
  (hm:X.mg x=some (.ref f)) (lk:X.K.lookup f=some ⟨oc,od,.func (W.fnOf name qual params body scope dV kV mm pm an kc ct),nv⟩) (pf:W.codeIn X.K kc qual=true) (hkp:W.keepIn X.K (.ref f)=true)
  (hb:Binds X.K (W.fnOf name qual params body scope dV kV mm pm an kc ct) ["tell"] []) (S:aM ["tell"] ["tell"] scope) (Ab:scope.names.lookup ("tell" : Str)=some NameKind.local)
  (mi:body=[.Try [.Return (some (.Call (.Name "tell" p1) [] [] p2)) p3] (l.map HD.h) [] [] p4]) (hl:l=d0::r0)
  (hd:∀d∈l,X.mg d.x=some (.ref d.C)/\scope.names.lookup d.x=some .globalImplicit/\gY X.base d.C/\(d.x==("__debug__" : Str))=false)
  (hg:Gl X x) (ve:(x==("__debug__" : Str))=false) (hr:cY (k+2) X.A) (Dj:∀y,X.fn y=true)
  (Dr:X.env.code=.ref c) (hC:W.CodeHd X.base c T) (hbm:NP X.mg X.base)
  (hdef:defaultsOf kn X.env=([],[])) (qu:∀(cl:List (Str×Addr))(pm cd ct:Value),bindArgs (W.kla_fn "<lambda>" (X.env.qual++ "<lambda>") kn my ka cl pm cd ct) ⟨[],[]⟩=pure [])
  (hkL:ka.kind=.function) (hcoL:ka.isCoroutine=false) (Di:ka.isGenerator=false) (hncL:∀y∈ka.names,y.2≠ .cell) (hnlL:∀y,ka.names.lookup y≠some .local)
  (xg:∀y∈ka.names,y.2=.free->X.env.kindOf y.1=some .cell)
  (Cr:∀(fl c':Addr)(cl:List (Str×Addr))(A:Around)(outer:List Env)(s:Shared)(H:Hp)(E:XK),cY k (A.deeper (W.envX (X.env.qual++ "<lambda>") ka s.heap.objs.size fl (.ref c') cl))->HOk X.prog X.w H s.heap ->
   PE (cxL X.prog X.w X.K X.mg X.base X.N (X.env.qual++ "<lambda>") ka fl (.ref c') cl A outer s H E) my (teL E H))
  (xa:starEach [.Lambda kn my ka pos] X.env=(false,eval (.Lambda kn my ka pos) X.env)::starEach [] X.env:=by rfl):
  PE X (.Call (.Name x p) [.Lambda kn my ka pos] [] Bs) (TH T l pos teL):=by
 intro jx s σ H Q I h;obtain⟨vs,ps,rfl,xq,htri,hnf,Dk,hL⟩:=h;have mh:∀y∈ka.names,y.2=.free->∃c,X.env.cells.lookup y.1=some c:=fun y hy e=>I.ok.has _ (.inl (xg y hy e))
 have yx:X.base.get? T=none:=by
  cases q:X.base.get? T with
  |none=>rfl
  |some o=>have:=(I.bs T o q).2;rw[xq]at this;cases this
 have hPt:s.heap.get? T=some (W.tabObj ps):=I.hok T _ xq;have hgs:=I.ok.mod.glob;have hgP:mainGlobals≠T:=fun q=>by obtain⟨o,es,ep,e,_⟩:=hgs;rw[q,yx]at e;cases e
 have hbmT:s.heap.BuiltinsAt X.mg T:=by obtain⟨bm,ob,b1,b2,b3,b4,b5,b6,b7⟩:=hbm;exact⟨bm,ob,b1,b2,b3,(fun q=>by rw[q,yx]at b4;cases b4),I.bk _ _ b4,b5,b6,b7⟩
 refine wpAny_Call_Name_kw (jH I hg hm ?_ ve);refine W.callWith_K (h₀:=X.base) I.ok.mod.kin hkp ?_ xa rfl;rw[xa];show wpAny _ _ (spliced ((false,eval (.Lambda kn my ka pos) X.env)::backTo Bs (starEach [] X.env))) _ _ s
 refine Calls.spliced_cons (W.kla_eval hdef (W.kla_makeFunction (mV mh) I.ok.glob (hgs.keeps I.bk) Dr (hC.keeps I.bk) hPt htri hnf hgP hbmT fun c' Bl h' tk hx Ae kh zr oj=>Calls.spliced_nil ?_));generalize ow:bJ X.env.cells ka.names []=cl;generalize hps:ps++#[rawInt pos.line,rawInt pos.col,Value.ref c']=ps' at oj;generalize vb:({s with heap:=h'.push (W.kla_obj "<lambda>" (X.env.qual++ "<lambda>") kn my ka cl ((X.mg "__name__").getD .none) c' Bl),toks:=tk}:Shared)=s2;have e2:s2.heap=h'.push (W.kla_obj "<lambda>" (X.env.qual++ "<lambda>") kn my ka cl ((X.mg "__name__").getD .none) c' Bl):=by rw[<- vb]
 have kp:∀b o,b≠T->s.heap.get? b=some o->s2.heap.get? b=some o:=fun b o n e=>by rw[e2];exact ao _ (hx b o n e)
 have wm:s2.heap.get? T=some (W.tabObj ps'):=by rw[e2];exact ao _ oj
 have szT:T<s.heap.objs.size:=bu hPt;have nT:∀b u,H b=some u->(∀q,u≠ .tbl q)->b≠T:=fun b u e n z=>by rw[z,xq]at e;cases e;exact n _ rfl
 have un1:Un X.fs [] H (upd H T (.tbl ps')) s.heap s2.heap:=
  ⟨fun b o e n _ _=>kp b o (fun z=>by rw[z,xq]at n;cases n) e,fun b o e n _ _=>⟨o.slots,kp b o (fun z=>by rw[z,xq]at n;cases n) e⟩,
   fun b o e n _=>by rw[aB (fun z=>by rw[z,xq]at n;cases n)];exact n,
   fun b o e _=>by
    by_cases z:b=T
    ·exact⟨_,z▸wm⟩
    ·exact⟨_,kp b o z e⟩,
   fun b xs e=>by rw[aB (nT b _ e fun q z=>nomatch z)];exact e,fun b o u e=>by rw[aB (nT b _ e fun q z=>nomatch z)];exact e,
   fun b q e=>by
    by_cases z:b=T
    ·rw[z,xq]at e;cases e;exact⟨_,by rw[z,a8,<- hps]⟩
    ·exact⟨#[],by rw[aB z,e];simp⟩⟩
 have yh:∀(H':Hp),(∀b,b≠T->H' b=H b)->∀a o,a≠T->H' a=some o->dG X.prog X.w H' s2.heap a o:=fun H' he a o na e=>by
  rw[he a na]at e;refine(I.hok a o e).nE (fun b u hb q=>?_) (fun b z=>?_) (fun b xs z=>?_)
  ·refine kp b u ?_ q;rcases hb with rfl|hb
   ·exact na
   ·exact nT b _ hb fun q z=>nomatch z
  ·rw[he b (nT b _ z fun q z=>nomatch z)];exact z
  ·rw[he b (nT b _ z fun q z=>nomatch z)];exact z
 have hok1:HOk X.prog X.w (upd H T (.tbl ps')) s2.heap:=fun a o e=>by
  by_cases z:a=T
  ·rw[z,a8]at e;cases e;subst z;exact wm
  ·exact yh _ (fun b n=>aB n) a o z e
 have I2:Inv X jx (vs.map some) (upd H T (.tbl ps')) s2:=by have:=I.un (t':=tk) (h':=s2.heap) un1 hok1;rw[<- vb]at this ⊢;exact this
 have hok2:HOk X.prog X.w (hT H T ps') s2.heap:=fun a o e=>by
  by_cases z:a=T
  ·unfold hT at e;rw[z,a8]at e;cases e;subst z;exact⟨wm,wm⟩
  ·exact yh _ (fun b n=>aB n) a o z e
 have hT_ne:∀b,b≠T->hT H T ps' b=upd H T (.tbl ps') b:=fun b n=>by unfold hT;rw[aB n,aB n]
 have none_ne:∀b,upd H T (.tbl ps') b=none->b≠T:=fun b e z=>by rw[z,a8]at e;cases e
 have E0:oZ X.prog X.w X.K X.mg X.base X.A X.stack s2 (hT H T ps'):=by have e:=I2.J7;exact⟨e.frames,e.mod,fun b o q=>⟨(e.bs b o q).1,by rw[hT_ne b (none_ne b (e.bs b o q).2)];exact(e.bs b o q).2⟩,e.bsz,e.kO,fun b hb=>by rw[hT_ne b (none_ne b (e.frf b hb))];exact e.frf b hb,hok2,e.bare⟩
 refine⟨I2.kIn,?_⟩;have Ed:Flat (hT H T ps'):=fun b=>by
  by_cases z:b=T
  ·exact .inr ⟨_,_,by unfold hT;rw[z,a8]⟩
  ·rw[hT_ne b z,aB z];exact Dk b z
 have qc:∀b,s.heap.objs.size<=b->hT H T ps' b=none:=fun b hb=>by
  have n:b≠T:=fun z=>absurd szT (by rw[<- z];exact not_lt.mpr hb)
  rw[hT_ne b n,aB n];exact I.hok.fresh hb
 have uk:∀b,s.heap.objs.size<=b->b∉frs X.stack:=fun b hb z=>by obtain⟨_,o,ho,_⟩:=I.stack.mem z;exact absurd (bu ho) (not_lt.mpr hb)
 have xh:s.heap.objs.size<=h'.objs.size:=le_of_lt (gk Ae kh);have flo:s2.heap.get? h'.objs.size=some (W.kla_obj "<lambda>" (X.env.qual++ "<lambda>") kn my ka cl ((X.mg "__name__").getD .none) c' Bl):=by rw[e2];exact bc _ rfl
 have Aq:∀y c,X.env.cells.lookup y=some c->c∉frs X.stack:=fun y c hy z=>by
  rcases ar.mp (I2.sF c z)with q|q
  ·exact I2.cne y c hy q
  ·obtain⟨_,o,ho,_⟩:=I2.ok.kO.mem q;exact absurd (bu ho) (not_lt.mpr (I2.ok.cab y c (Dj y) hy))
 have qw:∀y c,X.env.cells.lookup y=some c->hT H T ps' c=none:=fun y c hy=>by have q:=I2.iC y c hy;rw[hT_ne c (none_ne c q)];exact q
 have run:=LG (fl:=h'.objs.size) (E:=fun _ _ _=>False) (k:=k+1) lk pf S Ab mi hl hr E0 (hb s2 [.ref h'.objs.size] I2.kIn rfl) Ed hd ⟨_,_,_,_,flo⟩ (qc _ xh) (uk _ xh)
  (Q:=fun v H3=>H3 T=some (.frz (W.tabObj ps') (.tbl ps'))->Q v (upd H3 T (.tbl ps'))) fun A1 rh s1 zu e1 kp1=>?_
 ·refine wpAny_call (codeAny_mono run fun r s3 hq=>?_);cases r with
  |error e=>obtain⟨_,_,_,_,z⟩:=hq;exact z.elim
  |ok fl=>
   cases fl with
   |next=>exact False.elim hq
   |brk=>exact False.elim hq
   |cont=>exact False.elim hq
   |ret u=>
    obtain⟨v,H3,os,bare,un,Ct,rv,q⟩:=hq;have h3T:H3 T=some (.frz (W.tabObj ps') (.tbl ps')):=un.oH T _ _ (by unfold hT;rw[a8]);have n3:∀b u,H3 b=some u->(∀o q,u≠ .frz o q)->b≠T:=fun b u e n z=>by rw[z,h3T]at e;cases e;exact n _ _ rfl
    have fr2:∀b,upd H T (.tbl ps') b=none->hT H T ps' b=none:=fun b e=>by rw[hT_ne b (none_ne b e)];exact e
    have un4:Un (frs X.stack) [] (upd H T (.tbl ps')) (upd H3 T (.tbl ps')) s2.heap s3.heap:=
     ⟨fun b o e n hb hx=>un.keep b o e (fr2 b n) hb hx,fun b o e n hb hx=>un.slot b o e (fr2 b n) hb hx,fun b o e n hx=>by rw[aB (none_ne b n)];exact un.free b o e (fr2 b n) hx,un.there,
      fun b xs e=>by
       have n:b≠T:=fun z=>by rw[z,a8]at e;cases e
       rw[aB n];exact un.uF b xs (by rw[hT_ne b n];exact e),
      fun b o u e=>by
       have n:b≠T:=fun z=>by rw[z,a8]at e;cases e
       rw[aB n];exact un.oH b o u (by rw[hT_ne b n];exact e),
      fun b q e=>by
       by_cases z:b=T
       ·rw[z,a8]at e;cases e;exact⟨#[],by rw[z,a8];simp⟩
       ·rw[aB z];exact un.sD b q (by rw[hT_ne b z];exact e)⟩
    have hok4:HOk X.prog X.w (upd H3 T (.tbl ps')) s3.heap:=fun a o e=>by
     by_cases z:a=T
     ·rw[z,a8]at e;cases e;subst z;exact(Ct a _ h3T).1
     ·rw[aB z]at e;refine(Ct a o e).nE (fun b u _ q=>q) (fun b z=>?_) (fun b xs z=>?_)
      ·rw[aB (n3 b _ z fun _ _ z=>nomatch z)];exact z
      ·rw[aB (n3 b _ z fun _ _ z=>nomatch z)];exact z
    exact⟨v,upd H3 T (.tbl ps'),I2.DU os un4 hok4 bare (fun b z=>(nomatch z)),rv,q h3T⟩
 ·have c1:∀y c,cl.lookup y=some c->X.env.cells.lookup y=some c:=fun y c e=>by rw[<- ow]at e;exact(NJ mh e).2
  have cat:∀y c v,X.env.cells.lookup y=some c->s2.heap.IsCell c v->s1.heap.IsCell c v:=fun y c v hy ⟨o,e,q⟩=>⟨o,kp1 _ _ e (qw y c hy) (Aq y c hy),q⟩
  have km:vs.length=X.N.length:=by have:=I.len;rw[ag]at this;exact this
  refine KI (k:=k) (te:=teL (XA l (hT H T ps') fun v H3=>H3 T=some (.frz (W.tabObj ps') (.tbl ps'))->Q v (upd H3 T (.tbl ps'))) (hT H T ps')) (vs:=vs) (N:=X.N) zu e1 (kp1 _ _ flo (qc _ xh) (uk _ xh)) ?_ (qu _ _ _ _) hkL hcoL Di hncL hnlL km ?_ ?_ ?_ ?_ (fun a b=>Cr _ _ _ _ _ _ _ _ a b) (by rw[<- hps];exact hL _)
  ·obtain⟨c3,oc3,vs3,t3,h1,h2,h3,h4⟩:=zr;cases h1;exact⟨c',oc3,vs3,t3,rfl,kp1 _ _ (by rw[e2];exact ao _ h2) (qc _ Ae) (uk _ Ae),h3,h4⟩
  ·intro y z c h1 h2;exact I.ok.inj y z c (c1 y c h1) (c1 z c h2)
  ·intro y hy;rw[<- ow];exact DT hy
  ·intro y c h1;have h2:=c1 y c h1;obtain⟨v,h3⟩:=I2.cell y c h2;exact⟨qw y c h2,v,cat y c v h2 h3⟩
  ·intro i y v h1 h2 h3;have hk:=xg _ (PySem.mem_of_lookup h3) rfl;obtain⟨m,_,hlk⟩:=I2.loc;obtain⟨u,ru,lku⟩:=hlk i y v h1 (by rw[ax,h2];rfl) (.inr (.inl hk));obtain⟨c,hc⟩:=DT (cells:=X.env.cells) h3;rw[ow]at hc;refine⟨c,u,hc,ru,?_⟩;rcases lku with⟨vy,_⟩|⟨_,c2,ym,pz⟩
   ·rw[show X.env.kindOf y=some .cell from hk]at vy;cases vy
   ·have:=c1 y c hc;rw[this]at ym;cases ym;exact cat y c _ this pz
end
theorem uS{P:Params}{h:Heap}:∀{vs:List Value}{ns:List Int},W.WellAll P h vs (ns.map W.WData.int)->IntsAre vs ns
 |vs,[],h=>by cases h;exact .nil
 |vs,n::ns,h=>by
  cases h with
  |cons h r=>cases h with
   |int i t=>exact .cons n t (uS r)
theorem vS:∀{vs:List Value}{ns ms:List Int},IntsAre vs ns->IntsAre vs ms->ns=ms
 |_,_,_,.nil,h=>by cases h;rfl
 |_,_,_,.cons n t h,g=>by
  cases g with
  |cons m u g=>rw[vS h g]
theorem sQ{R:W.WRecords}{cl:Str->Option Addr}{h:Heap}:∀{ns:List Int}{its:List Value},Vals (ns.map V.int) its->W.ReadsAllW R cl h its (ns.map W.WData.int) []
 |[],_,.nil=>.nil
 |n::ns,_,.cons ⟨t,e⟩ r=>by subst e;exact .cons (as:=[]) (.int n t) (sQ r)
noncomputable def p9(tb:Addr)(H:Hp):Prop:=H tb=some (.tbl #[])/\∀b,b≠tb->H b=none\/∃o xs,H b=some (.frz o (.lst xs))
theorem p9.flat{tb:Addr}{H:Hp}(h:∀b,b≠tb->H b=none\/∃o xs,H b=some (.frz o (.lst xs)))(b:Addr)(n:b≠tb):H b=none\/∃o u,H b=some (.frz o u):=(h b n).imp (fun q=>q) fun⟨o,xs,q⟩=>⟨o,_,q⟩
abbrev IE(vs:List Value):Obj:={cls:=.type "list",data:=.seq vs.toArray}
noncomputable def xM(K:W.Frag)(tb:Addr)(LA:List (Addr×List Value×List Int)):Hp:=fun b=>if b=tb then some (.tbl #[])else
 match K.lookup b with
 |some _=>none
 |none=>(LA.lookup b).map fun p=>.frz (IE p.1) (.lst (p.2.map V.int))
theorem F2{P:Program}{w:World}{K:W.Frag}{mg mb:Str->Option Value}{k:Nat}{fa tb:Addr}{fd:FuncData}{ps:List Str}{sp:Sp}{s1:Shared}{nz:List Value}{vs:List V}{LA:List (Addr×List Value×List Int)}{R:List Int->Prop}
  (KX:K.In s1.heap) (hns:s1.heap.Ns mainGlobals mg) (hb:s1.heap.Ns builtinsNs mb) (hbb:∀x:Str,x≠ "__name__" ->mb x=bootBuiltins x) (hlim:s1.heap.NoLimit) (hg:s1.gens=#[])
  (Dw:∀p∈LA,s1.heap.get? p.1=some (IE p.2.1)/\IntsAre p.2.1 p.2.2/\p.2.2.length<=sizeLine)
  (oj:s1.heap.get? tb=some (W.tabObj #[])) (hct:isCodeTable s1.heap tb) (Dx:K.lookup tb=none) (hr:cY k callerA) (rv:Vals vs nz)
  (F:∀base:Heap,Mod K mg base->(∀b o,s1.heap.get? b=some o->o.cls≠ .type "list" ->b≠tb->base.get? b=some o)->bO P w K mg base CXf k fa fd ps sp)
  (qu:BindsTo s1 fd ⟨nz,[]⟩ (ps.zip nz))
  (uz:∀H:Hp,p9 tb H->(∀p∈LA,SqL K H p.1 (p.2.2.map V.int))->sp vs H (fun v H'=>∃p ns,v=.ref p/\H' p=some (.lst (ns.map V.int))/\R ns) fun _ _ _=>False):
  codeAny (model P w) callerA (.call (.ref fa) ⟨nz,[]⟩) (fun r s'=>(∃p its n ns,r=.ok (.ret (.ref p))/\s'.heap.get? p=some {cls:=.type "list",data:=.seq (List.toArray its) n}/\Vals (ns.map V.int) its/\R ns)/\OldK s1.heap s'.heap/\s'.os=s1.os/\AllBare s'.gens) s1:=by
 have find:∀{b:Addr}{x:List Value×List Int},LA.lookup b=some x->(b,x)∈LA:=fun{b x} e=>by
  have:∀l:List (Addr×List Value×List Int),l.lookup b=some x->(b,x)∈l:=by
   intro l;induction l with
   |nil=>intro e;cases e
   |cons y r ih=>
    intro e;rw[gp]at e;cases q:b==y.1 with
    |true=>rw[q]at e;cases e;rw[eq_of_beq q];exact bj
    |false=>rw[q]at e;exact aq _ (ih e)
  exact this LA e
 generalize hH:xM K tb LA=H;have Htb:H tb=some (.tbl #[]):=by rw[<- hH];unfold xM;rw[ah rfl]
 have cases_H:∀b,b≠tb->H b=none\/∃x,K.lookup b=none/\(b,x)∈LA/\H b=some (.frz (IE x.1) (.lst (x.2.map V.int))):=fun b n=>by
  rw[<- hH];unfold xM;rw[af n];cases e:K.lookup b with
  |some o=>exact .inl rfl
  |none=>
   cases q:LA.lookup b with
   |none=>exact .inl rfl
   |some x=>exact .inr ⟨x,rfl,find q,rfl⟩
 have hAt:p9 tb H:=⟨Htb,fun b n=>by
  rcases cases_H b n with q|⟨x,_,_,q⟩
  ·exact .inl q
  ·exact .inr ⟨_,_,q⟩⟩
 have hS:∀p∈LA,SqL K H p.1 (p.2.2.map V.int):=fun p hp=>by
  obtain⟨h1,h2,h3⟩:=Dw p hp;have n:p.1≠tb:=fun z=>by rw[z,oj]at h1;cases h1
  cases e:K.lookup p.1 with
  |some o=>have q:=KX _ _ e;rw[h1]at q;cases q;exact .inr ⟨_,p.2.1.toArray,_,e,rfl,rfl,rfl,by rw[bg,h2.length];exact h3,by simpa using pA h2⟩
  |none=>
   have q:∃x,LA.lookup p.1=some x:=by
    have:∀l:List (Addr×List Value×List Int),p∈l->∃x,l.lookup p.1=some x:=by
     intro l;induction l with
     |nil=>intro e;cases e
     |cons y r ih=>
      intro e;rw[gp];cases q:p.1==y.1 with
      |true=>exact⟨_,rfl⟩
      |false=>
       rcases ar.mp e with e|e
       ·rw[e]at q;simp at q
       ·exact ih e
    exact this LA hp
   obtain⟨x,q⟩:=q;obtain⟨g1,g2,g3⟩:=Dw _ (find q);have e1:p.2.1=x.1:=by
    rw[h1]at g1;have:=Option.some.inj g1;injection this with _ _ z _
    injection z with z _
    simpa using congrArg Array.toList z
   have e2:p.2.2=x.2:=vS h2 (e1▸g2);refine .inl (.inr ⟨IE x.1,?_⟩);rw[<- hH];unfold xM;rw[af n,e,q,e2];rfl
 have hok:HOk P w H s1.heap:=fun b o e=>by
  by_cases z:b=tb
  ·rw[z,Htb]at e;cases e;rw[z];exact oj
  ·rcases cases_H b z with q|⟨x,_,hm,q⟩
   ·rw[q]at e;cases e
   ·rw[q]at e;cases e;obtain⟨g1,g2,g3⟩:=Dw _ hm;exact⟨g1,by rw[ag];exact g3,x.1,_,pA g2,g1⟩
 have base_of:∀{b:Addr}{o:Obj},s1.heap.get? b=some o->H b=none->(xE s1.heap H).get? b=some o:=fun e n=>IW e n
 have notl:∀b o,s1.heap.get? b=some o->o.cls≠ .type "list" ->b≠tb->H b=none:=fun b o e hc n=>by
  rcases cases_H b n with q|⟨x,_,hm,q⟩
  ·exact q
  ·have:=(Dw _ hm).1;rw[e]at this;cases this;exact absurd rfl hc
 have nsK:∀{b:Addr}{m:Str->Option Value},s1.heap.Ns b m->(xE s1.heap H).Ns b m:=fun{b m} ⟨o,es,ep,e,d,r⟩=>⟨o,es,ep,base_of e (by
  by_cases z:b=tb
  ·rw[z,oj]at e;cases e;cases d
  ·rcases cases_H b z with q|⟨x,_,hm,q⟩
   ·exact q
   ·have:=(Dw _ hm).1;rw[e]at this;cases this;cases d),d,r⟩
 have hKb:K.In (xE s1.heap H):=fun b o e=>base_of (KX b o e) (by
  by_cases z:b=tb
  ·rw[z,Dx]at e;cases e
  ·rcases cases_H b z with q|⟨x,hk,hm,q⟩
   ·exact q
   ·rw[hk]at e;cases e)
 have hM:Mod K mg (xE s1.heap H):=⟨hKb,nsK hns,⟨mb,nsK hb,hbb⟩,let⟨mc,h1,h2⟩:=hlim;⟨mc,nsK h1,h2⟩⟩;have e0:oZ P w K mg (xE s1.heap H) callerA [] s1 H:=⟨rfl,hM,fun b o e=>K7 e,ie (F7 _ _),trivial,fun b hb=>absurd (show b∈([]:List Addr)from hb) (by simp),hok,.of_eq hg⟩;refine codeAny_mono ((F _ hM (fun b o e hc n=>base_of e (notl b o e hc n))).run callerA [] s1 H ⟨nz,[]⟩ nz vs _ _ hr e0 qu rv (uz H hAt hS)) fun r s' h=>?_
 cases r with
 |error e=>obtain⟨_,_,_,_,z⟩:=h;exact z.elim
 |ok fl=>
  cases fl with
  |next=>exact False.elim h
  |brk=>exact False.elim h
  |cont=>exact False.elim h
  |ret u=>
   obtain⟨v,H',os,bare,un,zz,r',p,ns,hv,hp,hR⟩:=h;subst hv;obtain rfl:u=Value.ref p:=r';obtain⟨_,its,n,pr,Ad⟩:=zz p _ hp;refine⟨⟨p,its,n,ns,rfl,Ad,pr,hR⟩,?_,os,bare⟩;have kept:∀b o,b≠tb->s1.heap.get? b=some o->s'.heap.get? b=some o:=fun b o n e=>by
    rcases cases_H b n with q|⟨x,_,hm,q⟩
    ·exact un.keep b o e q (by intro z;exact absurd (show b∈([]:List Addr)from z) (by simp)) (by simp)
    ·obtain⟨e1,_⟩:=hok b _ q;obtain⟨e2,_⟩:=zz b _ (un.oH b _ _ q);rw[e]at e1;cases e1;exact e2
   obtain⟨more,Dc⟩:=un.sD tb _ Htb;have t2:s'.heap.get? tb=some (W.tabObj (#[]++more)):=zz tb _ Dc;refine⟨fun b o e=>?_,fun b o e=>?_⟩
   ·by_cases z:b=tb
    ·subst z;rw[oj]at e;cases e;exact .inr (.inl ⟨hct,rfl,#[],more,rfl,t2⟩)
    ·exact .inl (kept b o z e)
   ·by_cases z:b=tb
    ·exact⟨_,z▸t2⟩
    ·exact⟨_,kept b o z e⟩
structure aG(K:W.Frag)(x:Str)(st:Stmt):Prop where
 ex:∃f fd,W.nsIn K mainGlobals x=some (some (.ref f))/\Fun K x x st f fd
theorem ND{K:W.Frag}{x:Str}{st:Stmt}{f:Addr}{oc:Value}{od an:Option Addr}{nv:Array (Option Value)}{kV mm pm kc ct:Value}(a:W.nsIn K mainGlobals x=some (some (.ref f)))
  (l:K.lookup f=some ⟨oc,od,.func (W.fnOf x x (iD st) (fB st) (aI st) .none kV mm pm an kc ct),nv⟩) (c:W.codeIn K kc x=true) (k:W.keepIn K (.ref f)=true):aG K x st:=⟨f,_,a,BV l c k⟩
theorem aG.ok{P:Program}{w:World}{K:W.Frag}{mg:Str->Option Value}{base:Heap}{CX:CXT}{k:Nat}{x:Str}{st:Stmt}{ps:List Str}{sp:Sp}(D:aG K x st)(M:Mod K mg base)
  (h:∀f fd,Fun K x x st f fd->bO P w K mg base CX k f fd ps sp)
  (hb:∀(kV mm pm:Value)(an:Option Addr)(kc ct:Value)(us:List Value),us.length=ps.length->bindArgs (W.fnOf x x (iD st) (fB st) (aI st) .none kV mm pm an kc ct) ⟨us,[]⟩=pure (ps.zip us)):aQ P w K mg base CX k x ps sp:=by
 obtain⟨f,fd,a,F⟩:=D.ex;exact⟨⟨f,fd,h f fd F,W.mg_of M.kin M.glob a,F.kp,F.binds hb⟩⟩
noncomputable def B2(K:W.Frag)(v:Value)(p:Int×Int):Bool:=match v with
 | .ref b=>(match K.lookup b with
  |some ⟨.type "tuple",_,.seq its _,_⟩=>(match its.toList with
   |[.int x _,.int y _]=>x==p.1&& y==p.2
   |_=>false)
  |_=>false)
 |_=>false
noncomputable def rK(K:W.Frag):List Value->List (Int×Int)->Bool
 |[],[]=>true
 |v::vs,p::ps=>B2 K v p&& rK K vs ps
 |_,_=>false
noncomputable def u5(K:W.Frag)(a:Addr)(ps:List (Int×Int)):Bool:=match K.lookup a with
 |some ⟨.type "tuple",_,.seq its _,_⟩=>rK K its.toList ps&& decide (its.size<=1000)
 |_=>false
theorem K4{K:W.Frag}{v:Value}{p:Int×Int}(h:B2 K v p=true):∃b,v=.ref b/\∀H,C2 K H (.ref b) p:=by
 unfold B2 at h;split at h
 ·rename_i b;split at h
  ·rename_i its n sl hk;split at h
   ·rename_i x t y u hi;rw[dm,beq_iff_eq,beq_iff_eq]at h;refine⟨b,rfl,fun H=>⟨b,rfl,.inr ⟨_,its,n,hk,rfl,rfl,?_,?_⟩⟩⟩
    ·rw[<- dq,hi];show 2<=sizeLine
     decide
    ·rw[hi];exact .cons ⟨t,by rw[h.1]⟩ (.cons ⟨u,by rw[h.2]⟩ .nil)
   ·cases h
  ·cases h
 ·cases h
theorem yJ{K:W.Frag}:∀{vs:List Value}{ps:List (Int×Int)},rK K vs ps=true->∃xs:List V,Vals xs vs/\Paired (fun v p=>∀H,C2 K H v p) xs ps
 |[],[],_=>⟨[],.nil,.nil⟩
 |v::vs,p::ps,h=>by unfold rK at h;rw[dm]at h;obtain⟨b,rfl,hb⟩:=K4 h.1;obtain⟨xs,h1,h2⟩:=yJ h.2;exact⟨.ref b::xs,.cons rfl h1,.cons hb h2⟩
 |[],_::_,h=>by cases h
 |_::_,[],h=>by cases h
theorem tZ{K:W.Frag}{a:Addr}{ps:List (Int×Int)}(h:u5 K a ps=true):CT2 K a ps:=by
 unfold u5 at h;split at h
 ·rename_i its n sl hk;rw[dm]at h;obtain⟨xs,h1,h2⟩:=yJ h.1;exact⟨xs,fun H=>.inr ⟨_,its,n,hk,rfl,rfl,df (bb h.2) (by decide),h1⟩,h2⟩
 ·cases h
noncomputable def wU(K:W.Frag)(a:Addr):Bool:=match K.lookup a with
 |some ⟨.type "tuple",_,.seq its _,_⟩=>(match its.toList with
  |[.int 0 _,.int 1 _,.int 2 _,.int 3 _]=>true
  |_=>false)
 |_=>false
theorem GO{K:W.Frag}{a:Addr}(h:wU K a=true)(H:Hp):SqT K H a [.int 0,.int 1,.int 2,.int 3]:=by
 unfold wU at h;split at h
 ·rename_i its n sl hk;split at h
  ·rename_i t0 t1 t2 t3 hi;refine .inr ⟨_,its,n,hk,rfl,rfl,?_,?_⟩
   ·rw[<- dq,hi];show 4<=sizeLine
    decide
   ·rw[hi];exact .cons ⟨t0,rfl⟩ (.cons ⟨t1,rfl⟩ (.cons ⟨t2,rfl⟩ (.cons ⟨t3,rfl⟩ .nil)))
  ·cases h
 ·cases h
theorem oP{K:W.Frag}{h:Heap}{C:Addr}{nm q:Str}{N:Addr}{bs:List Value}{hdct:Bool}{sn:List Str}{sub:List Value}{ab:Bool}{col:Option Bool}{dd:Option Addr}{k0 k1 k2 k3 k5:Option Value}{mq:String}
  (X:K.In h) (l:K.lookup C=some (excClassObj nm q C N bs [.type "Exception",.type "BaseException",.type "object"] hdct sn sub ab col dd k0 k1 k2 k3 k5 mq)):gY h C:=
 ⟨nm,q,N,bs,_,hdct,sn,sub,ab,col,dd,k0,k1,k2,k3,k5,mq,X _ _ l,by decide,fun D=>by rfl⟩
theorem LZ{K:W.Frag}{x:Str}{f c tb:Addr}{oc oc2:Value}{od od2:Option Addr}{fd:FuncData}{nv uh:Array (Option Value)}{vs:Array Value}(a:W.nsIn K mainGlobals x=some (some (.ref f)))
  (l:K.lookup f=some ⟨oc,od,.func fd,nv⟩) (hc:fd.code=.ref c) (l2:K.lookup c=some ⟨oc2,od2,.fields vs,uh⟩) (hv:vs[11]? =some (.ref tb)):W.tabIn K x=some (c,tb):=by
 unfold W.tabIn;rw[a];dsimp only;rw[l];dsimp only;rw[hc];dsimp only;rw[l2];dsimp only;rw[hv]
theorem zX{h base:Heap}{c tb:Addr}(C:W.CodeHd h c tb)(k:∀b o,h.get? b=some o->o.cls≠ .type "list" ->b≠tb->base.get? b=some o):W.CodeHd base c tb:=by obtain⟨o,vs,Ee,tf,yt,tg,inF,text,tt,e,ow,r⟩:=C;have kb:c≠tb:=r.2.2.2.2.2.2.2;exact⟨o,vs,Ee,tf,yt,tg,inF,text,tt,k c o e (by rw[ow];intro z;injection z with z;exact absurd z (by decide)) kb,ow,r⟩
theorem FW{h:Heap}{c tb:Addr}(C:W.CodeHd h c tb):isCodeTable h tb:=by obtain⟨o,vs,Ee,tf,yt,tg,inF,text,tt,e,ow,hd,hv,_⟩:=C;exact⟨c,o,vs,e,ow,hd,hv⟩
theorem L9{p:Program}{loose:List Str}{zh:ExcName->Option Value}{mg mb:Str->Option Value}{h base:Heap}{tb:Addr}(T:Top p loose zh mg mb h)(ht:h.get? tb=some (W.tabObj #[]))
  (k:∀b o,h.get? b=some o->o.cls≠ .type "list" ->b≠tb->base.get? b=some o):NP mg base:=by
 obtain⟨bm,ob,b1,b2,b3,b4,b5,b6⟩:=T.bmain;refine⟨bm,ob,b1,b2,fun q=>?_,k bm ob b3 (by rw[b4];intro z;injection z with z;exact absurd z (by decide)) (fun q=>?_),b4,b5,b6⟩
 ·obtain⟨o,es,ep,e,hd,_⟩:=T.g;rw[q,e]at b3;cases b3;rw[hd]at b6;cases b6
 ·rw[q,ht]at b3;cases b3;cases b4
theorem CW{X:Cx}{K:W.Frag}{e:Expr}{f:Str}{pos:Pos}{ta:TE}(he:PE X e ta)(hb:attributeBase e f X.env (eval e X.env)=eval e X.env)(hK:X.K=K):PE X (.Attribute e f pos) (NZ K ta f):=hK▸gP he hb
noncomputable def OA(K:W.Frag):V->V->Hp->VK->Prop:=fun x y H Q=>∃(p:Addr)(xs:List V)(i:Int)(v:V),x=.ref p/\y=.int i/\SqL K H p xs/\0<=i/\xs[i.toNat]? =some v/\Q v H
theorem J0{X:Cx}:SU X (OA X.K):=by intro jx s σ H o i ov iv Q I ro ri h;obtain⟨p,xs,k,v,rfl,rfl,hq,h0,hv,q⟩:=h;cases ro;obtain⟨t,rfl⟩:=ri;obtain⟨its,r,pl,hz⟩:=I.list hq;obtain⟨w,ew,rf⟩:=r.get hv;have hl:=(ak.mp hv).1;have hn:=mP;exact wpAny_getItem_list pl.isList h0 (by omega) (by simpa using ew) ⟨v,H,I,rf,q⟩
theorem t7{α β:Type}{R R':α->β->Prop}:∀{l:List α}{m:List β},Paired R l m->(∀(i:Nat) a b,l[i]? =some a->m[i]? =some b->R a b->R' a b)->Paired R' l m
 |[],_,.nil,_=>.nil
 |a::l,b::m,.cons r t,h=>.cons (h 0 a b rfl rfl r) (t7 t fun i a b e1 e2 z=>h (i+1) a b e1 e2 z)
theorem sX{α β:Type}{R R':α->β->Prop}:∀{l:List α}{m:List β}{k:Nat}{y:β},Paired R l m->(∀i a b,l[i]? =some a->m[i]? =some b->i≠k->R a b->R' a b)->(∀a,l[k]? =some a->R' a y)->Paired R' l (m.set k y)
 |[],_,k,y,.nil,_,_=>.nil
 |a::l,b::m,0,y,.cons r t,h,hk=>.cons (hk a rfl) (t7 t fun i a b e1 e2 z=>h (i+1) a b e1 e2 (by omega) z)
 |a::l,b::m,k+1,y,.cons r t,h,hk=>.cons (h 0 a b rfl rfl (by omega) r) (sX t (fun i a b e1 e2 n z=>h (i+1) a b e1 e2 (by omega) z) fun a e=>hk a e)
theorem HY{α:Type}{l:List α}(nd:l.Nodup){i j:Nat}{a b:α}(h1:l[i]? =some a)(h2:l[j]? =some b)(n:i≠j):a≠b:=by
 intro e;subst e;obtain⟨hi,e1⟩:=ak.mp h1;obtain⟨hj,e2⟩:=ak.mp h2;have pw:=ju.mp nd;rcases Nat.lt_or_gt_of_ne n with q|q
 ·exact pw i j hi hj q (e1.trans e2.symm)
 ·exact pw j i hj hi q (e2.trans e1.symm)
theorem sZ{α β γ:Type}{R:γ->β->Prop}{f:α->γ}:∀{l:List α}{m:List β},Paired (fun a b=>R (f a) b) l m->Paired R (l.map f) m
 |[],_,.nil=>.nil
 |_::_,_::_,.cons r t=>.cons r (sZ t)
end L3
namespace RT
open PySem L2 L3
noncomputable def top(i:Nat):Stmt:=PySem.Challenge.pw_rooftold_s05_walls.main.body.getD i (.Pass ⟨0,0,0,0⟩)
structure Adr where
 cH:Addr
 cK:Addr
 fQ:Addr
 iO:Addr
 iN:Addr
 Roof:Addr
abbrev bmE:List Value:=[.type "Exception",.type "BaseException",.type "object"]
structure Txt(K:W.Frag)(mg:Str->Option Value)(base:Heap)(d:Adr):Prop where
 bC:∃a,mg "ALL_SIDES" =some (.ref a)/\∀H,SqT K H a [.int 0,.int 1,.int 2,.int 3]
 xF:∃a,mg "STEPS" =some (.ref a)/\CT2 K a [(0,-1),(1,0),(0,1),(-1,0)]
 iL:∃a,mg "SIDE_STARTS" =some (.ref a)/\CT2 K a [(0,0),(1,0),(1,1),(0,1)]
 mT:∃a,mg "QUARTERS" =some (.ref a)/\CT2 K a [(0,0),(1,0),(0,1),(1,1)]
 gW:∃a,mg "HALVES_ABOUT" =some (.ref a)/\CT2 K a [(-1,-1),(0,-1),(1,-1),(-1,0),(1,0),(-1,1),(0,1),(1,1)]
 e6:∃a,mg "HALVES_AT_A_POINT" =some (.ref a)/\CT2 K a [(-1,-1),(0,-1),(-1,0),(0,0)]
 zH:qI mg "LINE_FEED" 10
 KU:qI mg "BLANK" 32
 KR:qI mg "COMMA" 44
 jO:qI mg "DIGIT_ZERO" 48
 xH:qI mg "DIGIT_NINE" 57
 oE:qI mg "GREATEST_NUMBER" 64
 uM:qI mg "MOST_DIGITS" 2
 pY:qI mg "FEWEST_CORNERS" 4
 j2:qI mg "CELLS_IN_A_ROW" 64
 xG:qI mg "MOST_CELLS" 256
 len:mg "len" =none
 min:mg "min" =none
 max:mg "max" =none
 any:mg "any" =none
 list:mg "list" =none
 dict:mg "dict" =none
 sorted:mg "sorted" =none
 range:mg "range" =none
 enumerate:mg "enumerate" =none
 eV:PyProof.Rows.OwnCls "NoHouse" d.cH bmE "Exception.__new__" mg base
 MW:mg "Roof" =some (.ref d.Roof)
 cQ:Cls K d.Roof
 D1:g9 K d.Roof "cells"
 nV:g9 K d.Roof "depths"
 lR:g9 K d.Roof "heights"
 j0:g9 K d.Roof "facings"
 vO:g9 K d.Roof "numbers"
 K8:g9 K d.Roof "faces"
 FC:qI mg "AT_EAVE" 0
 qZ:qI mg "AT_CORNER" 1
variable {P:Program}{w:World}{K:W.Frag}{mg:Str->Option Value}{base:Heap}{d:Adr}{f:Addr}{fd:FuncData}
theorem hm{k n:Nat}{A:Around}(h:cY n A)(e:k<=n:=by decide):cY k A:=h.mono e
theorem fS{N ps:List Str}{sc:Scope}(h:aM N ps sc:=by exact⟨rfl,rfl,rfl,by decide+kernel,rfl,by decide+kernel,by decide+kernel⟩):aM N ps sc:=h
theorem dI{K:W.Frag}{n:Str}{s:Stmt}(h:aG K n s:=by dsimp only[L2.KOf];refine' L3.ND ?a ?l ?c ?k;case a|l|c|k=>k_is):aG K n s:=h
theorem pgN{X:Cx}{pos:Pos}{i:Nat}{x:Str}(hN:X.N.Nodup)(hi:X.N[i]? =some x:=by rfl)(hx:Loc X.env.scope x:=by exact Or.inl rfl)(hf:X.fn x=true\/X.env.scope.names.lookup x=some .local:=by first|exact .inl rfl|exact .inr rfl|assumption):PG X (.Name x pos) (iB i):=K0 hN hi hx hf
theorem psN{X:Cx}{pos lj:Pos}{i:Nat}{x:Str}{e:Expr}{te:TE}(hN:X.N.Nodup)(he:PE X e te)(hi:X.N[i]? =some x:=by rfl)(hx:Loc X.env.scope x:=by exact Or.inl rfl)(hs:swapsWith e (some (.Name x lj)) pos.line X.env=pure false:=by rfl)(hf:X.fn x=true\/X.env.scope.names.lookup x=some .local:=by first|exact .inl rfl|exact .inr rfl|assumption):PS X (.Assign [.Name x lj] e pos) (AL te (iB i)):=GY hN hi hx he hs hf
abbrev s_lo:Stmt:=(top 4)
theorem sc_lo:aM ["direction"] ["direction"] (aI s_lo):=fS
noncomputable def sp_lo(K:W.Frag)(d:Adr):Sp:=fun vs H Q _=>∃x:Int,vs=[.int x]/\Q (.int ((x+1)%4)) H
theorem ok_lo(F:Fun K "left_of" "left_of" s_lo f fd)(T:Txt K mg base d):bO P w K mg base CX0 1 f fd ["direction"] (sp_lo K d):=by refine F.ok sc_lo (fun vs H Q E h=>by obtain⟨x,rfl,_⟩:=h;rfl) (fun _ _ _ _ H _ Q E hr h=>?_);have hu:=bK hr;obtain⟨x,rfl,k⟩:=h;refine⟨_,(aE (aR (dE wY (dE kI (pv 0) aL) aL))),?_⟩;exact⟨_,rfl,_,_,rfl,rfl,_,_,rfl,rfl,(by show(0:Int)<4;decide),k⟩
abbrev s_o:Stmt:=(top 5)
theorem sc_o:aM ["direction"] ["direction"] (aI s_o):=fS
noncomputable def sp_o(K:W.Frag)(d:Adr):Sp:=fun vs H Q _=>∃x:Int,vs=[.int x]/\Q (.int ((x+2)%4)) H
theorem ok_o(F:Fun K "opposite" "opposite" s_o f fd)(T:Txt K mg base d):bO P w K mg base CX0 1 f fd ["direction"] (sp_o K d):=by refine F.ok sc_o (fun vs H Q E h=>by obtain⟨x,rfl,_⟩:=h;rfl) (fun _ _ _ _ H _ Q E hr h=>?_);have hu:=bK hr;obtain⟨x,rfl,k⟩:=h;refine⟨_,(aE (aR (dE wY (dE kI (pv 0) aL) aL))),?_⟩;exact⟨_,rfl,_,_,rfl,rfl,_,_,rfl,rfl,(by show(0:Int)<4;decide),k⟩
abbrev s_ro:Stmt:=(top 6)
theorem sc_ro:aM ["direction"] ["direction"] (aI s_ro):=fS
noncomputable def sp_ro(K:W.Frag)(d:Adr):Sp:=fun vs H Q _=>∃x:Int,vs=[.int x]/\Q (.int ((x+3)%4)) H
theorem ok_ro(F:Fun K "right_of" "right_of" s_ro f fd)(T:Txt K mg base d):bO P w K mg base CX0 1 f fd ["direction"] (sp_ro K d):=by refine F.ok sc_ro (fun vs H Q E h=>by obtain⟨x,rfl,_⟩:=h;rfl) (fun _ _ _ _ H _ Q E hr h=>?_);have hu:=bK hr;obtain⟨x,rfl,k⟩:=h;refine⟨_,(aE (aR (dE wY (dE kI (pv 0) aL) aL))),?_⟩;exact⟨_,rfl,_,_,rfl,rfl,_,_,rfl,rfl,(by show(0:Int)<4;decide),k⟩
abbrev s_m:Stmt:=(top 7)
theorem sc_m:aM ["place","step"] ["place","step"] (aI s_m):=fS
noncomputable def sp_m(K:W.Frag)(d:Adr):Sp:=fun vs H Q _=>∃(v u:V)(p q:PI),vs=[v,u]/\C2 K H v p/\C2 K H u q/\∀r H',a9 H H'->T2 H' r (p.1+q.1,p.2+q.2)->Q r H'
theorem ok_m(F:Fun K "moved" "moved" s_m f fd)(T:Txt K mg base d):bO P w K mg base CX0 1 f fd ["place","step"] (sp_m K d):=by refine F.ok sc_m (fun vs H Q E h=>by obtain⟨v,u,p,q,rfl,_⟩:=h;rfl) (fun _ _ _ _ H _ Q E hr h=>?_);have hu:=bK hr;obtain⟨v,u,p,q,rfl,⟨a,rfl,ha⟩,⟨b,rfl,hb⟩,k⟩:=h;refine⟨_,(aE (aR (d4 (a7 (dE kI (bG bB (pv 0) aL (fun _ _=>rfl)) (bG bB (pv 1) aL (fun _ _=>rfl))) (a7 (dE kI (bG bB (pv 0) aL (fun _ _=>rfl)) (bG bB (pv 1) aL (fun _ _=>rfl))) aD))))),?_⟩;refine⟨_,rfl,a,_,_,_,rfl,rfl,ha,aU (by decide) rfl,_,rfl,b,_,_,_,rfl,rfl,hb,aU (by decide) rfl,_,_,rfl,rfl,_,rfl,a,_,_,_,rfl,rfl,ha,aU (by decide) rfl,_,rfl,b,_,_,_,rfl,rfl,hb,aU (by decide) rfl,_,_,rfl,rfl,(by show 2<=sizeLine;decide),fun t ht=>?_⟩;exact k _ _ (a9.upd ht) ⟨t,rfl,a8⟩
abbrev s_b:Stmt:=(top 8)
theorem sc_b:aM ["place","direction"] ["place","direction"] (aI s_b):=fS
noncomputable def sp_b(K:W.Frag)(d:Adr):Sp:=fun vs H Q _=>∃(v:V)(p:PI)(s:Nat),vs=[v,.int s]/\C2 K H v p/\s<4/\∀r H',a9 H H'->T2 H' r (RM.aK p s)->Q r H'
theorem ok_b(F:Fun K "beyond" "beyond" s_b f fd)(T:Txt K mg base d)(D_m:aQ P w K mg base CX0 1 "moved" ["place","step"] (sp_m K d)):bO P w K mg base CX0 2 f fd ["place","direction"] (sp_b K d):=by
 refine F.ok sc_b (fun vs H Q E h=>by obtain⟨v,p,s,rfl,_⟩:=h;rfl) (fun _ _ _ _ H _ Q E hr h=>?_);have hu:=bK hr;obtain⟨aSTEPS,xF,c_STEPS⟩:=T.xF;obtain⟨v,p,s,rfl,hv,hs,k⟩:=h;obtain⟨xs,hx,pr⟩:=c_STEPS;obtain⟨q,hq,e⟩:∃q:PI,([(0,-1),(1,0),(0,1),(-1,0)]:List PI)[s]? =some q/\((p.1+q.1,p.2+q.2):PI)=RM.aK p s:=by
  have cs:s=0\/s=1\/s=2\/s=3:=by omega
  rcases cs with rfl|rfl|rfl|rfl
  ·exact⟨_,rfl,by simp[RM.aK];omega⟩
  ·exact⟨_,rfl,by simp[RM.aK]⟩
  ·exact⟨_,rfl,by simp[RM.aK]⟩
  ·exact⟨_,rfl,by simp[RM.aK];omega⟩
 obtain⟨u,qx,ru⟩:=gS pr hq;refine⟨_,(aE (aR (aT D_m (hm hr) aX rfl (a7 (pv 0) (a7 (bG bB (f6 xF rfl) (pv 1) (fun _ _=>rfl)) aD))))),?_⟩;exact⟨_,rfl,_,rfl,_,_,_,_,rfl,rfl,hx _,aU (by omega) (by simpa using qx),v,u,p,q,rfl,hv,ru _,fun r H' sm t=>k r H' sm (by rw[<- e];exact t)⟩
abbrev s_ss:Stmt:=(top 9)
theorem sc_ss:aM ["square","side"] ["square","side"] (aI s_ss):=fS
noncomputable def sp_ss(K:W.Frag)(d:Adr):Sp:=fun vs H Q _=>∃(v:V)(p:PI)(s:Nat),vs=[v,.int s]/\C2 K H v p/\s<4/\∀r H',a9 H H'->T2 H' r (RM.aC p s)->Q r H'
theorem ok_ss(F:Fun K "side_start" "side_start" s_ss f fd)(T:Txt K mg base d)(D_m:aQ P w K mg base CX0 1 "moved" ["place","step"] (sp_m K d)):bO P w K mg base CX0 2 f fd ["square","side"] (sp_ss K d):=by
 refine F.ok sc_ss (fun vs H Q E h=>by obtain⟨v,p,s,rfl,_⟩:=h;rfl) (fun _ _ _ _ H _ Q E hr h=>?_);have hu:=bK hr;obtain⟨aSIDE_STARTS,iL,c_SIDE_STARTS⟩:=T.iL;obtain⟨v,p,s,rfl,hv,hs,k⟩:=h;obtain⟨xs,hx,pr⟩:=c_SIDE_STARTS;obtain⟨q,hq,e⟩:∃q:PI,([(0,0),(1,0),(1,1),(0,1)]:List PI)[s]? =some q/\((p.1+q.1,p.2+q.2):PI)=RM.aC p s:=by
  have cs:s=0\/s=1\/s=2\/s=3:=by omega
  rcases cs with rfl|rfl|rfl|rfl<;>exact⟨_,rfl,by simp[RM.aC]⟩
 obtain⟨u,qx,ru⟩:=gS pr hq;refine⟨_,(aE (aR (aT D_m (hm hr) aX rfl (a7 (pv 0) (a7 (bG bB (f6 iL rfl) (pv 1) (fun _ _=>rfl)) aD))))),?_⟩;exact⟨_,rfl,_,rfl,_,_,_,_,rfl,rfl,hx _,aU (by omega) (by simpa using qx),v,u,p,q,rfl,hv,ru _,fun r H' sm t=>k r H' sm (by rw[<- e];exact t)⟩
abbrev s_se:Stmt:=(top 10)
theorem sc_se:aM ["square","side"] ["square","side"] (aI s_se):=fS
noncomputable def sp_se(K:W.Frag)(d:Adr):Sp:=fun vs H Q _=>∃(v:V)(p:PI)(s:Nat),vs=[v,.int s]/\C2 K H v p/\s<4/\∀r H',a9 H H'->T2 H' r (RM.aC p (s+1))->Q r H'
theorem ok_se(F:Fun K "side_end" "side_end" s_se f fd)(T:Txt K mg base d)(D_ss:aQ P w K mg base CX0 2 "side_start" ["square","side"] (sp_ss K d))(D_lo:aQ P w K mg base CX0 1 "left_of" ["direction"] (sp_lo K d)):bO P w K mg base CX0 3 f fd ["square","side"] (sp_se K d):=by
 refine F.ok sc_se (fun vs H Q E h=>by obtain⟨v,p,s,rfl,_⟩:=h;rfl) (fun _ _ _ _ H _ Q E hr h=>?_);have hu:=bK hr;obtain⟨v,p,s,rfl,hv,hs,k⟩:=h;refine⟨_,(aE (aR (aT D_ss (hm hr) aX rfl (a7 (pv 0) (a7 (aT D_lo (hm hr) aX rfl (a7 (pv 1) aD)) aD))))),?_⟩;refine⟨_,rfl,_,rfl,_,rfl,v,p,(s+1)%4,?_,hv,by omega,fun r H' sm t=>k r H' sm ?_⟩
 ·simp
 ·have e:RM.aC p ((s+1)%4)=RM.aC p (s+1):=by unfold RM.aC;rw[mod_mod]
  rw[<- e];exact t
abbrev s_br:Stmt:=(top 11)
theorem sc_br:aM ["place"] ["place"] (aI s_br):=fS
noncomputable def sp_br(K:W.Frag)(d:Adr):Sp:=fun vs H Q _=>∃(v:V)(p:PI),vs=[v]/\C2 K H v p/\∀r H',a9 H H'->T2 H' r (p.2,p.1)->Q r H'
theorem ok_br(F:Fun K "by_row" "by_row" s_br f fd)(T:Txt K mg base d):bO P w K mg base CX0 1 f fd ["place"] (sp_br K d):=by refine F.ok sc_br (fun vs H Q E h=>by obtain⟨v,p,rfl,_⟩:=h;rfl) (fun _ _ _ _ H _ Q E hr h=>?_);have hu:=bK hr;obtain⟨v,p,rfl,⟨a,rfl,ha⟩,k⟩:=h;refine⟨_,(aE (aR (d4 (a7 (bG bB (pv 0) aL (fun _ _=>rfl)) (a7 (bG bB (pv 0) aL (fun _ _=>rfl)) aD))))),?_⟩;refine⟨_,rfl,a,_,_,_,rfl,rfl,ha,aU (by decide) rfl,_,rfl,a,_,_,_,rfl,rfl,ha,aU (by decide) rfl,(by show 2<=sizeLine;decide),fun t ht=>?_⟩;exact k _ _ (a9.upd ht) ⟨t,rfl,a8⟩
abbrev s_pb:Stmt:=(top 28)
theorem sc_pb:aM ["row","mark","parts","part","value"] ["row","mark"] (aI s_pb):=fS
theorem DE{ns:List Int}{i:Nat}{y:V}(h:(ns.map V.int)[i]? =some y):∃z,ns[i]? =some z/\y=V.int z:=by
 rw[ax]at h;cases e:ns[i]? with
 |none=>rw[e]at h;cases h
 |some z=>rw[e]at h;exact⟨z,rfl,(Option.some.inj h).symm⟩
theorem few{n m:Nat}(h:n<=m)(hm:m<=100000:=by omega):n<sizeLine:=gk (df h hm) (by decide)
noncomputable def sp_pb(K:W.Frag)(d:Adr):Sp:=fun vs H Q _=>∃(a:Addr)(ns:List Int)(m:Int),vs=[.ref a,.int m]/\SqL K H a (ns.map V.int)/\ns.length<=4096/\∀p H',a9 H H'->H p=none->LLI H' p (RM.parts m ns)->Q (.ref p) H'
theorem ok_pb(F:Fun K "parts_between" "parts_between" s_pb f fd)(T:Txt K mg base d):bO P w K mg base CX0 1 f fd ["row","mark"] (sp_pb K d):=by
 refine F.ok sc_pb (fun vs H Q E h=>by obtain⟨a,ns,m,rfl,_⟩:=h;rfl) (fun _ _ _ _ H _ Q E hr h=>?_);have hu:=bK hr;obtain⟨a,ns,m,rfl,hS,km,k⟩:=h;refine⟨_,(aA (psN (i:=2) sc_pb.nd (eZ aD))
   (aA (psN (i:=3) sc_pb.nd (eZ aD))
   (aA (bY PassesOwn.never rfl (d8 (pv 0)) (pgN (i:=4) sc_pb.nd) (aE (cI (bU hV (pv 4) (pv 1) (c7 _)) (aA (cZ (gQ PySem.F.plainAttrs_list PySem.F.slot_list_append PySem.F.type_list_append cC (pv 2) (a7 (pv 3) aD)))
   (aE (psN (i:=3) sc_pb.nd (eZ aD)))) (aE (cZ (gQ PySem.F.plainAttrs_list PySem.F.slot_list_append PySem.F.type_list_append cC (pv 3) (a7 (pv 4) aD)))))))
   (aA (cZ (gQ PySem.F.plainAttrs_list PySem.F.slot_list_append PySem.F.type_list_append cC (pv 2) (a7 (pv 3) aD)))
   (aE (aR (pv 2))))))),?_⟩
 refine⟨cj _,fun p hp=>?_⟩;refine⟨cj _,fun q hq=>?_⟩;have wx:p≠q:=aH a8 hq;refine⟨_,rfl,a,rfl,⟨_,(a9.trans (a9.upd hp) (a9.upd hq)).seq hS⟩,fW (K:=K) (a:=a) (xs:=ns.map V.int) (fun i σ H2=>∃(q:Addr)(done:List (List Int))(cur:List Int)(xs:List V)(v:Option V),
  σ=[some (.ref a),some (.int m),some (.ref p),some (.ref q),v]/\a9 H H2/\H q=none/\H2 p=some (.lst xs)/\H2 q=some (.lst (cur.map V.int))/\p≠q/\
  Paired (fun v r=>∃b,v=V.ref b/\b≠p/\b≠q/\H2 b=some (.lst (r.map V.int))) xs done/\done++RM.partsFrom m cur (ns.drop i)=RM.parts m ns/\done.length<=i/\cur.length<=i)
  ⟨q,[],[],[],none,rfl,a9.trans (a9.upd hp) (a9.upd hq),(a9.upd hp).free hq,by rw[aB wx,a8],a8,wx,.nil,RM.iI m ns,ay _,ay _⟩
  (fun i σ H2 _ ⟨_,_,_,_,_,_,s2,_⟩=>s2.seq hS) ?_ ?_⟩
 ·rintro i y σ H2 hi ⟨q,done,cur,xs,v,rfl,s2,fq,h1,h2,wx,pr,hd,l1,l2⟩;obtain⟨z,hz,rfl⟩:=DE hi;have sj:i<ns.length:=(ak.mp hz).1;have lx:=pairs_len pr;rw[RM.drop_cons hz]at hd;refine⟨_,rfl,_,rfl,rfl,_,rfl,?_⟩;refine cB (fun c=>?_) (fun c=>?_)
  ·have e:z=m:=by simpa using c
   refine⟨_,rfl,.inl ⟨rfl,_,SqL.of h1⟩,_,rfl,p,xs,.ref q,rfl,rfl,h1,few (m:=4096) (by omega),?_⟩;refine⟨cj _,fun q' qg=>?_⟩;have hp':(upd H2 p (.lst (xs++[.ref q]))) p=some (.lst (xs++[.ref q])):=a8;have hq2:(upd H2 p (.lst (xs++[.ref q]))) q=some (.lst (cur.map V.int)):=by rw[aB wx.symm];exact h2
   have n1:p≠q':=aH hp' qg;have n2:q≠q':=aH hq2 qg;have s3:a9 H (upd H2 p (.lst (xs++[.ref q]))):=a9.put s2 hp;refine⟨q',done++[cur],[],xs++[.ref q],_,rfl,a9.trans s3 (a9.upd qg),s3.free qg,by rw[aB n1,a8],a8,n1,?_,?_,by rw[aj];simp;omega,cj _⟩
   ·refine aY ⟨q,rfl,wx.symm,n2,by rw[aB n2];exact hq2⟩ (aJ (fun v r ⟨b,e1,e2,e3,e4⟩=>?_) pr);have e5:(upd H2 p (.lst (xs++[.ref q]))) b=some (.lst (r.map V.int)):=by rw[aB e2];exact e4
    have n3:b≠q':=aH e5 qg;exact⟨b,e1,e2,n3,by rw[aB n3];exact e5⟩
   ·rw[RM.iJ e]at hd;rw[<- hd];simp
  ·have e:¬z=m:=by simpa using c
   refine⟨_,rfl,.inl ⟨rfl,_,SqL.of h2⟩,_,rfl,q,_,.int z,rfl,rfl,h2,by rw[ag];exact few (m:=4096) (by omega),?_⟩;refine⟨q,done,cur++[z],xs,_,rfl,a9.put s2 fq,fq,by rw[aB wx];exact h1,by rw[a8,cg];rfl,wx,aJ (fun v r ⟨b,e1,e2,e3,e4⟩=>⟨b,e1,e2,e3,by rw[aB e3];exact e4⟩) pr,?_,by omega,by rw[aj];simp;omega⟩;rw[RM.gR e]at hd;exact hd
 ·rintro σ H2 ⟨q,done,cur,xs,v,rfl,s2,fq,h1,h2,wx,pr,hd,l1,l2⟩;have lx:=pairs_len pr;rw[ag]at hd l1;rw[List.drop_eq_nil_of_le (ay _)]at hd;have hd:done++[cur]=RM.parts m ns:=hd;refine⟨_,rfl,.inl ⟨rfl,_,SqL.of h1⟩,_,rfl,p,xs,.ref q,rfl,rfl,h1,few (m:=4096) (by omega),?_⟩;refine⟨_,rfl,k p _ (a9.put s2 hp) hp ⟨_,a8,?_⟩⟩;rw[<- hd];refine aY ⟨q,rfl,by rw[aB wx.symm];exact h2⟩ (aJ (fun v r ⟨b,e1,e2,e3,e4⟩=>⟨b,e1,by rw[aB e2];exact e4⟩) pr)
abbrev s_dt:Stmt:=(top 29)
theorem sc_dt:aM ["value"] ["value"] (aI s_dt):=fS
noncomputable def sp_dt(K:W.Frag)(d:Adr):Sp:=fun vs H Q E=>∃n:Int,vs=[.int n]/\(∀z,RM.kY n=some z->Q (.int z) H)/\(RM.kY n=none->E (.ref d.cH) none H)
theorem ok_dt(F:Fun K "digit_told" "digit_told" s_dt f fd)(T:Txt K mg base d):bO P w K mg base CXf 1 f fd ["value"] (sp_dt K d):=by
 refine okX F sc_dt (fun vs H Q E h=>by obtain⟨n,rfl,_⟩:=h;rfl) (fun _ _ _ _ H _ Q E hr hok h=>?_);have hu:=bK hr;obtain⟨n,rfl,k1,k2⟩:=h;refine⟨_,(aA (cI (PW.pt (yE (bU HR (pv 0) (d3 T.jO rfl) (c7 _)) (sU (bU vL (pv 0) (d3 T.xH rfl) (c7 _))))) (aE (eU hok PySem.F.excBase_Exception T.eV rfl)) bH)
   (aE (aR (dE pO (pv 0) (d3 T.jO rfl))))),?_⟩
 refine⟨_,rfl,_,_,rfl,rfl,_,rfl,?_⟩;refine cB (fun c=>?_) (fun c=>?_)
 ·have c:n<48:=by simpa using c
  exact F6 (k2 (by unfold RM.kY;rw[ah (.inl c)]))
 ·have c:¬n<48:=by simpa using c
  refine⟨_,rfl,_,_,rfl,rfl,_,rfl,?_⟩;refine cB (fun c2=>?_) (fun c2=>?_)
  ·have c2:57<n:=by simpa using c2
   exact k2 (by unfold RM.kY;rw[ah (.inr c2)])
  ·have c2:¬57<n:=by simpa using c2
   exact⟨_,rfl,_,_,rfl,rfl,k1 _ (by unfold RM.kY;rw[af (by omega)])⟩
abbrev s_nt:Stmt:=(top 30)
theorem sc_nt:aM ["row","number","value"] ["row"] (aI s_nt):=fS
noncomputable def sp_nt(K:W.Frag)(d:Adr):Sp:=fun vs H Q E=>∃(v:V)(ns:List Int),vs=[v]/\LI H v ns/\ns.length<=4096/\(∀z,RM.dJ ns=some z->Q (.int z) H)/\(RM.dJ ns=none->E (.ref d.cH) none H)
theorem ok_nt(F:Fun K "number_told" "number_told" s_nt f fd)(T:Txt K mg base d)(D_dt:aQ P w K mg base CXf 1 "digit_told" ["value"] (sp_dt K d)):bO P w K mg base CXf 2 f fd ["row"] (sp_nt K d):=by
 refine okX F sc_nt (fun vs H Q E h=>by obtain⟨v,ns,rfl,_⟩:=h;rfl) (fun _ _ _ _ H _ Q E hr hok h=>?_);have hu:=bK hr;obtain⟨v,ns,rfl,⟨a,rfl,ha⟩,hl,k1,k2⟩:=h;have hS:SqL K H a (ns.map V.int):=SqL.of ha;have el:(ns.map V.int).length=ns.length:=ag ..;refine⟨_,(aA (cI (PW.pt (yE (bU hV (bR bP (by rfl) T.len PySem.boot_len (a7 (pv 0) aD)) aL (c7 _)) (sU (bU vL (bR bP (by rfl) T.len PySem.boot_len (a7 (pv 0) aD)) (d3 T.uM rfl) (c7 _))))) (aE (eU hok PySem.F.excBase_Exception T.eV rfl)) bH)
   (aA (cI (PW.pt (pJ (bU vL (bR bP (by rfl) T.len PySem.boot_len (a7 (pv 0) aD)) aL (c7 _)) (nH (bU hV (bG iA (pv 0) aL (fun _ _=>rfl)) (d3 T.jO rfl) (c7 _))))) (aE (eU hok PySem.F.excBase_Exception T.eV rfl)) bH)
   (aA (psN (i:=1) sc_nt.nd aL)
   (aA (bY PassesOwn.leaving rfl (d8 (pv 0)) (pgN (i:=2) sc_nt.nd) (aE (psN (i:=1) sc_nt.nd (dE kI (dE t9 (pv 1) aL) (aT D_dt (hm hr) (HK hok) rfl (a7 (pv 2) aD))))))
   (aA (cI (bU vL (pv 1) (d3 T.oE rfl) (c7 _)) (aE (eU hok PySem.F.excBase_Exception T.eV rfl)) bH)
   (aE (aR (pv 1)))))))),?_⟩
 refine⟨_,rfl,a,_,rfl,.inl hS,rfl,_,rfl,?_⟩;refine cB (fun c=>?_) (fun c=>?_)
 ·have c:ns.length=0:=by simpa using c
  exact F6 (k2 (by unfold RM.dJ;rw[ah (.inl c)]))
 have c:¬ns.length=0:=by simpa using c
 refine⟨_,rfl,a,_,rfl,.inl hS,_,_,rfl,rfl,_,rfl,?_⟩;refine cB (fun c2=>?_) (fun c2=>?_)
 ·have c2:2<ns.length:=by have:=bb c2;rw[el]at this;omega
  exact k2 (by unfold RM.dJ;rw[ah (.inr c2)])
 have c2:¬2<ns.length:=by intro z;exact c2 (decide_eq_true (by rw[el];omega))
 have n1:¬(ns.length=0\/2<ns.length):=by omega
 refine(fun(rest:¬(1<ns.length/\ns.head?=some 48)->?R)=>?main) ?hr;case main=>
  refine⟨_,rfl,a,_,rfl,.inl hS,_,_,rfl,rfl,_,rfl,?_⟩;refine cB (fun c3=>?_) (fun c3=>?_)
  ·have c3:1<ns.length:=by have:=bb c3;rw[el]at this;omega
   obtain⟨y,hy⟩:∃y,ns[0]? =some y:=⟨ns[0],bf (by omega)⟩
   refine⟨_,rfl,a,_,_,_,rfl,rfl,hS,aU (v:=V.int y) (by decide) (by rw[ax];show ns[0]?.map V.int=_;rw[hy];rfl),rfl,_,rfl,?_⟩;have hh:ns.head?=some y:=by rw[List.head?_eq_getElem?];exact hy
   refine cB (fun c4=>?_) (fun c4=>?_)
   ·have c4:y=48:=by simpa using c4
    exact k2 (by unfold RM.dJ;rw[af n1,ah ⟨c3,by rw[hh,c4]⟩])
   ·have c4:¬y=48:=by simpa using c4
    exact rest fun z=>c4 (by have:=z.2;rw[hh]at this;exact Option.some.inj this)
  ·have c3:¬1<ns.length:=by intro z;exact c3 (decide_eq_true (by rw[el];omega))
   exact IP (rest fun z=>c3 z.1)
 case hr=>
  intro c3;have nb:∀o,ns.foldlM RM.hY 0=o->RM.dJ ns=o.bind fun n=>if 64<n then none else some n:=fun o e=>by unfold RM.dJ;rw[af n1,af c3,e]
  refine⟨_,rfl,a,rfl,⟨_,hS⟩,fW (K:=K) (a:=a) (xs:=ns.map V.int) (fun i σ H2=>H2=H/\∃(n:Int)(v:Option V),σ=[some (.ref a),some (.int n),v]/\(ns.take i).foldlM RM.hY 0=some n)
   ⟨rfl,0,none,rfl,rfl⟩ (fun i σ H2 _ ⟨e,_⟩=>by rw[e];exact hS) ?_ ?_⟩
  ·rintro i y σ H2 hi ⟨rfl,n,v,rfl,hn⟩;obtain⟨z,hz,rfl⟩:=DE hi;refine⟨_,rfl,_,_,rfl,rfl,.inr ⟨by decide,by decide⟩,_,rfl,z,rfl,fun q hq=>⟨_,_,rfl,rfl,rfl,_,_,rfl,?_⟩,fun hq=>?_⟩
   ·rw[RM.r9 hn hz];unfold RM.hY;rw[hq];rfl
   ·refine k2 ?_;have e:RM.hY n z=none:=by unfold RM.hY;rw[hq];rfl
    rw[nb _ (RM.zL hn hz e)];rfl
  ·rintro σ H2 ⟨rfl,n,v,rfl,hn⟩;rw[el,br (ay _)]at hn;refine⟨_,rfl,_,_,rfl,rfl,_,rfl,?_⟩;refine cB (fun c4=>?_) (fun c4=>?_)
   ·have c4:64<n:=by simpa using c4
    exact k2 (by rw[nb _ hn];show(if 64<n then none else some n)=none;rw[ah c4])
   ·have c4:¬64<n:=by simpa using c4
    exact⟨_,rfl,k1 n (by rw[nb _ hn];show(if 64<n then none else some n)=some n;rw[af c4])⟩
abbrev s_ct:Stmt:=(top 31)
theorem sc_ct:aM ["row","numbers","part"] ["row"] (aI s_ct):=fS
def NQ:List Int->Option (Int×Int)
 |[a,b]=>some (a,b)
 |_=>none
noncomputable def sp_ct(K:W.Frag)(d:Adr):Sp:=fun vs H Q E=>∃(v:V)(ns:List Int),vs=[v]/\LI H v ns/\ns.length<=4096/\(∀z,RM.dN ns=some z->∀r H',a9 H H'->T2 H' r z->Q r H')/\(RM.dN ns=none->E (.ref d.cH) none H)
theorem ok_ct(F:Fun K "corner_told" "corner_told" s_ct f fd)(T:Txt K mg base d)(D_pb:aQ P w K mg base CX0 1 "parts_between" ["row","mark"] (sp_pb K d))(D_nt:aQ P w K mg base CXf 2 "number_told" ["row"] (sp_nt K d)):bO P w K mg base CXf 3 f fd ["row"] (sp_ct K d):=by
 refine okX F sc_ct (fun vs H Q E h=>by obtain⟨v,ns,rfl,_⟩:=h;rfl) (fun _ _ _ _ H _ Q E hr hok h=>?_);have hu:=bK hr;obtain⟨v,ns,rfl,⟨a,rfl,ha⟩,hl,k1,k2⟩:=h;refine⟨_,(aA (vD hok (i:=1) (own:=[("part",2)]) rfl sc_ct.nd rfl rfl (by exact lJ rfl rfl rfl rfl) (d8 (aT D_pb (hm hr) aX rfl (a7 (pv 0) (a7 (d3 T.KR rfl) aD)))) (eG (by first|decide+kernel|kernel_rfl)) (fun _ _ _ _ _=>(pgN (i:=2) sc_ct.nd)) (fun _ _ _ _ _ hk=>(aT D_nt (hm hr) (HL (E':=fun c=>E c none H) hk) rfl (a7 (pv 2) aD))))
   (aA (cI (bU LO (bR bP (by rfl) T.len PySem.boot_len (a7 (pv 1) aD)) aL (c7 _)) (aE (eU hok PySem.F.excBase_Exception T.eV rfl)) bH)
   (aE (aR (d4 (a7 (bG iA (pv 1) aL (fun _ _=>rfl)) (a7 (bG iA (pv 1) aL (fun _ _=>rfl)) aD))))))),?_⟩
 refine⟨_,rfl,a,ns,44,rfl,SqL.of ha,hl,fun p H1 sm fp ⟨xs,hp,pr⟩=>⟨p,rfl,⟨_,SqL.of hp⟩,fun D hD=>jI (K:=K) (a:=p) (xs:=xs)
  (fun i H2=>a9 H1 H2/\∃zs,H2 D=some (.lst (zs.map V.int))/\((RM.parts 44 ns).take i).mapM RM.dJ=some zs) ⟨a9.upd hD,[],a8,rfl⟩ (fun i H2 _ ⟨s2,_⟩=>s2.seq (SqL.of hp)) ?_ ?_⟩⟩
 ·rintro i x H2 hx ⟨s2,zs,h2,hz⟩;obtain⟨row,qk,uo⟩:=pairs_at pr hx;have hm:=az qk;have l1:zs.length<=4097:=by have:=RM.tG hz;have h3:=RM.pN 44 ns;rw[bw]at this;omega
  refine⟨rfl,?_⟩;refine⟨_,rfl,x,row,rfl,uo.mono s2,df (RM.iH hm) hl,fun z Ay=>⟨_,h2,by rw[ag];exact few l1,a9.put s2 hD,zs++[z],by rw[a8,cg];rfl,RM.pP hz qk Ay⟩,fun hn=>k2 ?_⟩;unfold RM.dN;rw[RM.pQ hm hn];rfl
 ·rintro H2 ⟨s2,zs,h2,hz⟩;rw[pairs_len pr,br (ay _)]at hz;refine⟨_,rfl,D,_,rfl,.inl (SqL.of h2),rfl,_,rfl,?_⟩;have hc:RM.dN ns=NQ zs:=by
   unfold RM.dN;rw[hz];match zs with
   |[]=>rfl
   |[_]=>rfl
   |[_,_]=>rfl
   |_::_::_::_=>rfl
  refine cB (fun c=>k2 ?_) (fun c=>?_)
  ·rw[hc];match zs,c with
   |[],_=>rfl
   |[_],_=>rfl
   |[_,_],c=>simp at c
   |_::_::_::_,_=>rfl
  ·match zs,c,hc,h2 with
   |[],c,_,_=>simp at c
   |[_],c,_,_=>simp at c
   |_::_::_::_,c,_,_=>simp at c;omega
   |[x,y],_,hc,h2=>refine⟨_,rfl,D,_,_,_,rfl,rfl,SqL.of h2,aU (v:=V.int x) (by decide) rfl,_,rfl,D,_,_,_,rfl,rfl,SqL.of h2,aU (v:=V.int y) (by decide) rfl,(by show 2<=sizeLine;decide),fun t ht=>?_⟩;exact k1 (x,y) hc _ _ (a9.trans sm (a9.trans s2 (a9.upd ht))) ⟨t,rfl,a8⟩
abbrev s_wt:Stmt:=(top 32)
theorem sc_wt:aM ["row","corners","part"] ["row"] (aI s_wt):=fS
noncomputable def sp_wt(K:W.Frag)(d:Adr):Sp:=fun vs H Q E=>∃(v:V)(ns:List Int),vs=[v]/\LI H v ns/\ns.length<=4096/\(∀z,RM.iT ns=some z->∀r H',a9 H H'->H r=none->LT H' (.ref r) z->Q (.ref r) H')/\(RM.iT ns=none->E (.ref d.cH) none H)
theorem ok_wt(F:Fun K "walk_told" "walk_told" s_wt f fd)(T:Txt K mg base d)(D_pb:aQ P w K mg base CX0 1 "parts_between" ["row","mark"] (sp_pb K d))(D_ct:aQ P w K mg base CXf 3 "corner_told" ["row"] (sp_ct K d)):bO P w K mg base CXf 4 f fd ["row"] (sp_wt K d):=by
 refine okX F sc_wt (fun vs H Q E h=>by obtain⟨v,ns,rfl,_⟩:=h;rfl) (fun _ _ _ _ H _ Q E hr hok h=>?_);have hu:=bK hr;obtain⟨v,ns,rfl,⟨a,rfl,ha⟩,hl,k1,k2⟩:=h;refine⟨_,(aA (vD hok (i:=1) (own:=[("part",2)]) rfl sc_wt.nd rfl rfl (by exact lJ rfl rfl rfl rfl) (d8 (aT D_pb (hm hr) aX rfl (a7 (pv 0) (a7 (d3 T.KU rfl) aD)))) (eG (by first|decide+kernel|kernel_rfl)) (fun _ _ _ _ _=>(pgN (i:=2) sc_wt.nd)) (fun _ _ _ _ _ hk=>(aT D_ct (hm hr) (HL (E':=fun c=>E c none H) hk) rfl (a7 (pv 2) aD))))
   (aA (cI (bU HR (bR bP (by rfl) T.len PySem.boot_len (a7 (pv 1) aD)) (d3 T.pY rfl) (c7 _)) (aE (eU hok PySem.F.excBase_Exception T.eV rfl)) bH)
   (aE (aR (pv 1))))),?_⟩
 refine⟨_,rfl,a,ns,32,rfl,SqL.of ha,hl,fun p H1 sm fp ⟨xs,hp,pr⟩=>⟨p,rfl,⟨_,SqL.of hp⟩,fun D hD=>jI (K:=K) (a:=p) (xs:=xs)
  (fun i H2=>a9 H1 H2/\∃ys zs,H2 D=some (.lst ys)/\Paired (T2 H2) ys zs/\((RM.parts 32 ns).take i).mapM RM.dN=some zs) ⟨a9.upd hD,[],[],a8,.nil,rfl⟩ (fun i H2 _ ⟨s2,_⟩=>s2.seq (SqL.of hp)) ?_ ?_⟩⟩
 ·rintro i x H2 hx ⟨s2,ys,zs,h2,py,hz⟩;obtain⟨row,qk,uo⟩:=pairs_at pr hx;have hm:=az qk;have l1:ys.length<=4097:=by have:=RM.tG hz;have h3:=RM.pN 32 ns;rw[bw]at this;have:=pairs_len py;omega
  refine⟨rfl,?_⟩;refine⟨_,rfl,x,row,rfl,uo.mono s2,df (RM.iH hm) hl,fun z Ay r H3 s3 t3=>?_,fun hn=>k2 ?_⟩
  ·have h3:=s3 _ _ h2;refine⟨ys,h3,few l1,a9.put (a9.trans s2 s3) hD,ys++[r],zs++[z],a8,aY (t3.upd h3) (aJ (fun _ _ q=>(q.mono s3).upd h3) py),RM.pP hz qk Ay⟩
  ·unfold RM.iT;rw[RM.pQ hm hn];rfl
 ·rintro H2 ⟨s2,ys,zs,h2,py,hz⟩;rw[pairs_len pr,br (ay _)]at hz;have hc:RM.iT ns=(if zs.length<4 then none else some zs):=by unfold RM.iT;rw[hz];rfl
  have ly:=pairs_len py;refine⟨_,rfl,D,_,rfl,.inl (SqL.of h2),_,_,rfl,rfl,_,rfl,?_⟩;refine cB (fun c=>k2 ?_) (fun c=>?_)
  ·have c:=bb c;rw[hc,ah (by omega)]
  ·have c:¬zs.length<4:=fun z=>c (decide_eq_true (by omega))
   exact⟨_,rfl,k1 zs (by rw[hc,af c]) D H2 (a9.trans sm s2) (sm.free hD) ⟨D,ys,rfl,h2,py⟩⟩
abbrev s_wt2:Stmt:=(top 33)
theorem sc_wt2:aM ["t","rows","rest","row"] ["t"] (aI s_wt2):=fS
noncomputable def sp_wt2(K:W.Frag)(d:Adr):Sp:=fun vs H Q E=>∃(a:Addr)(ns:List Int),vs=[.ref a]/\SqL K H a (ns.map V.int)/\ns.length<=4096/\(∀z,RM.eQ ns=some z->∀r H',a9 H H'->LLT H' r z->Q r H')/\(RM.eQ ns=none->E (.ref d.cH) none H)
theorem ok_wt2(F:Fun K "walks_told" "walks_told" s_wt2 f fd)(T:Txt K mg base d)(D_pb:aQ P w K mg base CX0 1 "parts_between" ["row","mark"] (sp_pb K d))(D_wt:aQ P w K mg base CXf 4 "walk_told" ["row"] (sp_wt K d)):bO P w K mg base CXf 5 f fd ["t"] (sp_wt2 K d):=by
 refine okX F sc_wt2 (fun vs H Q E h=>by obtain⟨a,ns,rfl,_⟩:=h;rfl) (fun _ _ _ _ H _ Q E hr hok h=>?_);have hu:=bK hr;obtain⟨a,ns,rfl,hS,hl,k1,k2⟩:=h;refine⟨_,(aA (psN (i:=1) sc_wt2.nd (aT D_pb (hm hr) aX rfl (a7 (pv 0) (a7 (d3 T.zH rfl) aD))))
   (aA (psN (i:=2) sc_wt2.nd (AZ PySem.F.plainAttrs_list PySem.F.slot_list_pop PySem.F.type_list_pop B9 (pv 1)))
   (aA (cI (PW.pt (yE (bU vL (bR bP (by rfl) T.len PySem.boot_len (a7 (pv 2) aD)) aL (c7 _)) (sU (bU hV (bR bP (by rfl) T.len PySem.boot_len (a7 (pv 1) aD)) aL (c7 _))))) (aE (eU hok PySem.F.excBase_Exception T.eV rfl)) bH)
   (aE (aR (MG hok (own:=[("row",3)]) rfl sc_wt2.nd (d8 (pv 1)) (eG (by first|decide+kernel|kernel_rfl)) (fun _ _ _ _ _=>(pgN (i:=3) sc_wt2.nd)) (fun _ _ _ _ _ hk=>(aT D_wt (hm hr) (HL (E':=fun c=>E c none H) hk) rfl (a7 (pv 3) aD))))))))),?_⟩
 refine⟨_,rfl,a,ns,10,rfl,hS,hl,fun p H1 sm fp ⟨xs,hp,pr⟩=>?_⟩;have lp:=RM.pN 10 ns;have lx:=pairs_len pr;have kb:RM.parts 10 ns≠[]:=RM.yH 10 ns;have l0:0<(RM.parts 10 ns).length:=gr.mpr kb;obtain⟨last,yi⟩:∃last,(RM.parts 10 ns)[(RM.parts 10 ns).length - 1]? =some last:=⟨_,bf (by omega)⟩
 obtain⟨y,hy,ly⟩:=gS pr yi;have hgl:(RM.parts 10 ns).getLast?=some last:=by rw[List.getLast?_eq_getElem?];exact yi
 obtain⟨b,rfl,nb,hb⟩:=LLI.apart hp (az hy) ly;refine⟨_,rfl,.inl ⟨rfl,_,SqL.of hp⟩,p,xs,.ref b,rfl,rfl,hp,by rw[lx];exact hy,?_⟩;have Bg:(upd H1 p (.lst xs.dropLast)) b=some (.lst (last.map V.int)):=by rw[aB nb];exact hb
 have hp2:(upd H1 p (.lst xs.dropLast)) p=some (.lst xs.dropLast):=a8;have s2:a9 H (upd H1 p (.lst xs.dropLast)):=a9.put sm fp;have pr2:Paired (LI (upd H1 p (.lst xs.dropLast))) xs.dropLast (RM.parts 10 ns).dropLast:=by refine aJ (fun v r ⟨h1,h2,h3⟩=>?_) (f7 (lQ pr));obtain⟨c,rfl,nc,hc⟩:=LLI.apart hp h1 h3;exact⟨c,rfl,by rw[aB nc];exact hc⟩
 have ld:xs.dropLast.length=(RM.parts 10 ns).dropLast.length:=pairs_len pr2;refine⟨_,rfl,b,_,rfl,.inl (SqL.of Bg),_,_,rfl,rfl,_,rfl,?_⟩;refine cB (fun c=>?_) (fun c=>?_)
 ·have c:0<last.length:=by have:=bb c;rw[ag]at this;omega
  have hx:(RM.parts 10 ns).getLast?≠some []:=by rw[hgl];intro z;cases z;simp at c
  refine F6 (k2 ?_);unfold RM.eQ;rw[ah (.inl hx)]
 have c:last=[]:=by
  apply fx;have:¬((0:Int)<((last.map V.int).length:Int)):=fun z=>c (decide_eq_true z)
  rw[ag]at this;omega
 refine⟨_,rfl,p,_,rfl,.inl (SqL.of hp2),rfl,_,rfl,?_⟩;refine cB (fun c2=>k2 ?_) (fun c2=>?_)
 ·have c2:xs.dropLast.length=0:=by have:=bb c2;simpa using this
  unfold RM.eQ;rw[ah (.inr (fx (by omega)))]
 have c2:¬(RM.parts 10 ns).dropLast=[]:=fun z=>c2 (decide_eq_true (by rw[ld,z];rfl))
 have hw:RM.eQ ns=(RM.parts 10 ns).dropLast.mapM RM.iT:=by unfold RM.eQ;rw[af (by rintro(z|z);exact z (by rw[hgl,c]);exact c2 z)]
 refine⟨_,rfl,p,rfl,⟨_,SqL.of hp2⟩,fun D hD=>jI (K:=K) (a:=p) (xs:=xs.dropLast)
  (fun i H2=>a9 (upd H1 p (.lst xs.dropLast)) H2/\∃ys zs,H2 D=some (.lst ys)/\Paired (fun v z=>∃b,v=.ref b/\b≠D/\LT H2 (.ref b) z) ys zs/\((RM.parts 10 ns).dropLast.take i).mapM RM.iT=some zs) ⟨a9.upd hD,[],[],a8,.nil,rfl⟩ (fun i H2 _ ⟨s2,_⟩=>s2.seq (SqL.of hp2)) ?_ ?_⟩
 ·rintro i x H2 hx ⟨s3,ys,zs,h2,py,hz⟩;obtain⟨row,qk,uo⟩:=pairs_at pr2 hx;have hm:=az qk;have l1:ys.length<=4097:=by
   have:=RM.tG hz;rw[bw]at this;have:=pairs_len py;have:(RM.parts 10 ns).dropLast.length<=(RM.parts 10 ns).length:=by rw[gy];omega
   omega
  refine⟨rfl,?_⟩;refine⟨_,rfl,x,row,rfl,uo.mono s3,df (RM.iH (nW hm)) hl,fun z Ay r H3 s4 fr t3=>?_,fun hn=>k2 ?_⟩
  ·have h3:=s4 _ _ h2;have nr:r≠D:=fun z=>by rw[z,h2]at fr;cases fr
   refine⟨ys,h3,few l1,a9.put (a9.trans s3 s4) hD,ys++[.ref r],zs++[z],a8,aY ⟨r,rfl,nr,t3.upd h3 nr⟩ (aJ (fun _ _ ⟨b,e,n,q⟩=>⟨b,e,n,(q.mono s4).upd h3 n⟩) py),RM.pP hz qk Ay⟩
  ·rw[hw];exact RM.pQ hm hn
 ·rintro H2 ⟨s3,ys,zs,h2,py,hz⟩;rw[ld,br (ay _)]at hz;exact k1 zs (by rw[hw,hz]) _ H2 (a9.trans s2 s3) ⟨D,ys,rfl,h2,aJ (fun _ _ ⟨b,e,n,q⟩=>by rw[e];exact q) py⟩
abbrev s_far:Stmt:=(top 37)
theorem sc_far:aM ["walks","feet","walk","number","corner","before","y"] ["walks"] (aI s_far):=fS
noncomputable def sp_far(K:W.Frag)(d:Adr):Sp:=fun vs H Q _=>∃(v:V)(W:List Roof.Walk),vs=[v]/\LLT H v (RM.iWs W)/\RM.tD W/\∀a kvs H',a9 H H'->H a=none->D2 H' a kvs->(∀x y:Nat,((((x:Int),(y:Int)):PI)∈kvs.map (·.1))↔RM.dR W x y=true)->Q (.ref a) H'
theorem ok_far(F:Fun K "feet_across_rows" "feet_across_rows" s_far f fd)(T:Txt K mg base d):bO P w K mg base CX0 1 f fd ["walks"] (sp_far K d):=by
 refine F.ok sc_far (fun vs H Q E h=>by obtain⟨v,W,rfl,_⟩:=h;rfl) (fun _ _ _ _ H _ Q E hr h=>?_);have hu:=bK hr;obtain⟨v,W,rfl,⟨a,xs,rfl,ha,pr⟩,ok,k⟩:=h;have ku:=RM.K5 ok;refine⟨_,(aA (psN (i:=1) sc_far.nd eB)
   (aA (bY PassesOwn.never rfl (d8 (pv 0)) (pgN (i:=2) sc_far.nd) (aE (bY PassesOwn.never rfl (wW rfl T.enumerate (a7 (pv 2) aD)) (kG rfl (bW (pgN (i:=3) sc_far.nd) (bW (pgN (i:=4) sc_far.nd) hO))) (aA (psN (i:=5) sc_far.nd (bG iA (pv 2) (dE pO (pv 3) aL) (fun _ _=>rfl)))
   (aE (cI (bU hV (bG bB (pv 4) aL (fun _ _=>rfl)) (bG bB (pv 5) aL (fun _ _=>rfl)) (c7 _)) (aE (bY PassesOwn.never rfl (ES rfl T.range (a7 (bR (FZ rfl) (by rfl) T.min (by rfl) (a7 (bG bB (pv 4) aL (fun _ _=>rfl)) (a7 (bG bB (pv 5) aL (fun _ _=>rfl)) aD))) (a7 (bR (G0 rfl) (by rfl) T.max (by rfl) (a7 (bG bB (pv 4) aL (fun _ _=>rfl)) (a7 (bG bB (pv 5) aL (fun _ _=>rfl)) aD))) aD))) (pgN (i:=6) sc_far.nd) (aE (fM hu (pv 1) (d4 (a7 (bG bB (pv 4) aL (fun _ _=>rfl)) (a7 (pv 6) aD))) iX rfl)))) bH))))))
   (aE (aR (pv 1))))),?_⟩
 refine fun p hp=>?_
 have s1:a9 H (upd H p (.dT [])):=a9.upd hp;refine⟨_,rfl,a,rfl,⟨_,s1.seq (SqL.of ha)⟩,fW (K:=K) (a:=a) (xs:=xs) (fun i σ H2=>∃(kvs:List (PI×V))(v2 v3 v4 v5 v6:Option V),σ=[some (.ref a),some (.ref p),v2,v3,v4,v5,v6]/\a9 H H2/\D2 H2 p kvs/\RM.Tbl kvs (RM.jQ (RM.iWs W) i))
  ⟨[],none,none,none,none,none,rfl,s1,a8,RM.Tbl.nil.iff fun q=>(RM.zI _ q).symm⟩ (fun i σ H2 _ ⟨_,_,_,_,_,_,_,s2,_⟩=>s2.seq (SqL.of ha)) ?_ ?_⟩
 ·rintro i y σ H2 hi ⟨kvs,v2,v3,v4,v5,v6,rfl,s2,hD,tb⟩;obtain⟨w,hw,b,ys,rfl,hb,wq⟩:=pairs_at pr hi;have hwm:=az hw;have lw:=pairs_len wq;refine⟨_,rfl,b,ys,rfl,s2.seq (SqL.of hb),tR (K:=K) (a:=b) (xs:=ys) (fun k σ H3=>∃(kvs:List (PI×V))(v3 v4 v5 v6:Option V),σ=[some (.ref a),some (.ref p),some (.ref b),v3,v4,v5,v6]/\a9 H H3/\D2 H3 p kvs/\RM.Tbl kvs (RM.mG (RM.iWs W) i w k))
   ⟨kvs,v3,v4,v5,v6,rfl,s2,hD,tb.iff fun q=>(RM.BZ _ _ _ q).symm⟩ (fun i σ H2 _ ⟨_,_,_,_,_,_,s2,_⟩=>s2.seq (SqL.of hb)) ?_ ?_⟩
  ·rintro j z σ H3 Tt hj ⟨kvs,v3,v4,v5,v6,rfl,s3,hD,tb⟩ hT;obtain⟨c,hc,ca,rfl,Bf⟩:=pairs_at wq hj;have hjl:j<ys.length:=(ak.mp hj).1;have uc:RM.nK w.length j<w.length:=by unfold RM.nK;split<;>omega
   obtain⟨e,he⟩:∃e,w[RM.nK w.length j]? =some e:=⟨_,bf uc⟩
   obtain⟨ye,hye,ea,rfl,Dm⟩:=gS wq he;have s4:a9 H (upd H3 Tt (.tup [.int (j:Nat),.ref ca])):=a9.trans s3 (a9.upd hT);have o1:=ku w hwm c (az hc);have o2:=ku w hwm e (az he);have nT:p≠Tt:=aH hD hT;have lu:D2 (upd H3 Tt (.tup [.int (j:Nat),.ref ca])) p kvs:=by unfold D2;rw[aB nT];exact hD
   refine⟨Tt,_,rfl,SqT.of a8,rfl,_,_,rfl,_,_,rfl,rfl,_,rfl,_,rfl,_,_,rfl,rfl,b,_,_,_,rfl,rfl,s4.seq (SqL.of hb),JE hjl (by unfold RM.nK at hye;rw[lw];exact hye),?_⟩;generalize (upd H3 Tt (.tup [.int (j:Nat),.ref ca]))=H4 at s4 lu ⊢;refine⟨_,rfl,ca,_,_,_,rfl,rfl,SqT.of (s4 _ _ Bf),aU (by decide) rfl,_,rfl,ea,_,_,_,rfl,rfl,SqT.of (s4 _ _ Dm),aU (by decide) rfl,rfl,_,rfl,?_⟩;refine cB (fun cq=>?_) (fun cq=>?_)
   ·have cq:c.1=e.1:=by simpa using cq
    refine⟨_,rfl,ca,_,_,_,rfl,rfl,SqT.of (s4 _ _ Bf),aU (by decide) rfl,_,rfl,ea,_,_,_,rfl,rfl,SqT.of (s4 _ _ Dm),aU (by decide) rfl,_,_,rfl,_,rfl,ca,_,_,_,rfl,rfl,SqT.of (s4 _ _ Bf),aU (by decide) rfl,_,rfl,ea,_,_,_,rfl,rfl,SqT.of (s4 _ _ Dm),aU (by decide) rfl,_,_,rfl,_,_,rfl,⟨by split<;>omega,by split<;>omega,by split<;>omega,by split<;>omega⟩,?_⟩;have emin:(if e.2<c.2 then e.2 else c.2)=min c.2 e.2:=by split<;>omega
    have emax:(if e.2>c.2 then e.2 else c.2)=max c.2 e.2:=by split<;>omega
    rw[emin,emax];refine pZ (lo:=min c.2 e.2) (n:=(max c.2 e.2 - min c.2 e.2).toNat) (fun m σ H5=>∃(kvs:List (PI×V))(v6:Option V),σ=[some (.ref a),some (.ref p),some (.ref b),some (.int (j:Nat)),some (.ref ca),some (.ref ea),v6]/\a9 H H5/\D2 H5 p kvs/\RM.Tbl kvs (fun q=>RM.mG (RM.iWs W) i w j q\/(q.1=c.1/\min c.2 e.2<=q.2/\q.2<min c.2 e.2+m)))
     ⟨kvs,v6,rfl,s4,lu,tb.iff fun q=>⟨.inl,fun z=>z.elim id fun z=>by omega⟩⟩ ?_ ?_
    ·rintro m σ H5 hm ⟨kvs,v6,rfl,s5,mw,tb⟩;refine⟨_,rfl,_,rfl,ca,_,_,_,rfl,rfl,SqT.of (s5 _ _ Bf),aU (by decide) rfl,_,rfl,(by show 2<=sizeLine;decide),fun t ht=>?_⟩;have nt:p≠t:=aH mw ht;have hD6:D2 (upd H5 t (.tup [.int c.1,.int (min c.2 e.2+m)])) p kvs:=by unfold D2;rw[aB nt];exact mw
     have hl:kvs.length<=4225:=by
      rw[<- RM.L8];refine tb.len fun q z=>?_
      rcases z with z|z
      ·exact RM.FD ku hwm z
      ·exact RM.DV (by omega) (by omega) (by omega) (by omega)
     refine⟨p,_,rfl,D2.put (p:=(c.1,min c.2 e.2+m)) hD6 a8 (.bl true) (few hl),RM.dO kvs (c.1,min c.2 e.2+m) (.bl true),_,rfl,a9.put (a9.trans s5 (a9.upd ht)) hp,a8,(tb.put _ _).iff fun q=>?_⟩;constructor
     ·rintro((z|z)|z)
      ·exact .inl z
      ·exact .inr (by omega)
      ·subst z;exact .inr ⟨rfl,by simp only;omega,by simp only;omega⟩
     ·rintro(z|⟨z1,z2,z3⟩)
      ·exact .inl (.inl z)
      ·by_cases hq:q.2=min c.2 e.2+m
       ·exact .inr (Prod.ext z1 hq)
       ·exact .inl (.inr ⟨z1,z2,by omega⟩)
    ·rintro σ H5 ⟨kvs,v6,rfl,s5,mw,tb⟩;refine⟨kvs,_,_,_,_,rfl,s5,mw,tb.iff fun q=>?_⟩;rw[RM.tT];constructor
     ·rintro(z|⟨z1,z2,z3⟩)
      ·exact .inl z
      ·exact .inr ⟨c,e,hc,he,cq,z1.symm,z2,by omega⟩
     ·rintro(z|⟨c',e',h1,h2,z0,z1,z2,z3⟩)
      ·exact .inl z
      ·rw[hc]at h1;rw[he]at h2;cases h1;cases h2;exact .inr ⟨z1.symm,z2,by omega⟩
   ·have cq:¬c.1=e.1:=by simpa using cq
    refine⟨kvs,_,_,_,_,rfl,s4,lu,tb.iff fun q=>?_⟩;rw[RM.tT];constructor
    ·exact .inl
    ·rintro(z|⟨c',e',h1,h2,z0,z1,z2,z3⟩)
     ·exact z
     ·rw[hc]at h1;rw[he]at h2;cases h1;cases h2;exact absurd z0 cq
  ·rintro σ H3 ⟨kvs,v3,v4,v5,v6,rfl,s3,hD,tb⟩;refine⟨kvs,_,_,_,_,_,rfl,s3,hD,tb.iff fun q=>?_⟩;rw[lw];exact RM.FE hw q
 ·rintro σ H2 ⟨kvs,v2,v3,v4,v5,v6,rfl,s2,hD,tb⟩;refine⟨_,rfl,k p kvs H2 s2 hp hD fun x y=>?_⟩;rw[tb.2,pairs_len pr];exact RM.BY W x y
abbrev s_cw:Stmt:=(top 38)
theorem sc_cw:aM ["walks","feet","cells","y","inside","x"] ["walks"] (aI s_cw):=fS
noncomputable def sp_cw(K:W.Frag)(d:Adr):Sp:=fun vs H Q _=>∃(v:V)(W:List Roof.Walk),vs=[v]/\LLT H v (RM.iWs W)/\RM.tD W/\∀a H',a9 H H'->H a=none->D2 H' a (CS (RM.aV (RM.dR W)))->Q (.ref a) H'
theorem ok_cw(F:Fun K "cells_within" "cells_within" s_cw f fd)(T:Txt K mg base d)(D_far:aQ P w K mg base CX0 1 "feet_across_rows" ["walks"] (sp_far K d)):bO P w K mg base CX0 2 f fd ["walks"] (sp_cw K d):=by
 refine F.ok sc_cw (fun vs H Q E h=>by obtain⟨v,W,rfl,_⟩:=h;rfl) (fun _ _ _ _ H _ Q E hr h=>?_);have hu:=bK hr;obtain⟨v,W,rfl,hW,ok,k⟩:=h;refine⟨_,(aA (psN (i:=1) sc_cw.nd (aT D_far (hm hr) aX rfl (a7 (pv 0) aD)))
   (aA (psN (i:=2) sc_cw.nd eB)
   (aA (bY PassesOwn.never rfl (vE rfl T.range (a7 (d3 T.j2 rfl) aD)) (pgN (i:=3) sc_cw.nd) (aA (psN (i:=4) sc_cw.nd iX)
   (aE (bY PassesOwn.never rfl (vE rfl T.range (a7 (d3 T.j2 rfl) aD)) (pgN (i:=5) sc_cw.nd) (aA (cI (eS (B0 hu (d4 (a7 (pv 5) (a7 (pv 3) aD))) (pv 1))) (aE (psN (i:=4) sc_cw.nd (MF (pv 4)))) bH)
   (aE (cI (jB (pv 4) (fun _=>rfl)) (aE (fM hu (pv 2) (d4 (a7 (pv 5) (a7 (pv 3) aD))) iX rfl)) bH)))))))
   (aE (aR (pv 2)))))),?_⟩
 refine⟨_,rfl,v,W,rfl,hW,ok,fun f kvs H1 s1 hf hF Cd p hp=>?_⟩;generalize hFd:RM.dR W=F at Cd k;have s2:a9 H1 (upd H1 p (.dT [])):=a9.upd hp;refine⟨_,rfl,by decide,by decide,pZ (lo:=0) (n:=64) (fun y σ H2=>∃(v3 v4 v5:Option V),σ=[some v,some (.ref f),some (.ref p),v3,v4,v5]/\a9 H1 H2/\D2 H2 p (CS (RM.iU F y)))
  ⟨none,none,none,rfl,s2,a8⟩ ?_ ?_⟩
 ·rintro y σ H2 hy ⟨v3,v4,v5,rfl,s3,hD⟩;refine⟨_,rfl,by decide,by decide,pZ (lo:=0) (n:=64) (fun x σ H3=>∃(v5:Option V),σ=[some v,some (.ref f),some (.ref p),some (.int (0+(y:Nat))),some (.bl (if x=0 then false else RM.c9 F y (x - 1))),v5]/\a9 H1 H3/\D2 H3 p (CS (RM.iU F y++RM.mM F y x)))
   ⟨v5,rfl,s3,by rw[show RM.mM F y 0=[]from rfl,dc];exact hD⟩ ?_ ?_⟩
  ·rintro x σ H3 hx ⟨v5,rfl,s3,hD⟩;refine⟨_,rfl,_,rfl,(by show 2<=sizeLine;decide),fun t ht=>?_⟩;have nt:p≠t:=aH hD ht;have s4:a9 H1 (upd H3 t (.tup [.int (0+(x:Nat)),.int (0+(y:Nat))])):=a9.trans s3 (a9.upd ht);have lu:D2 (upd H3 t (.tup [.int (0+(x:Nat)),.int (0+(y:Nat))])) p (CS (RM.iU F y++RM.mM F y x)):=by unfold D2;rw[aB nt];exact hD
   refine⟨_,rfl,f,_,rfl,R2.get (p:=((0+(x:Int),0+(y:Int)):PI)) (D2.rd (s4 _ _ hF)) a8,_,rfl,?_⟩;generalize (upd H3 t (.tup [.int (0+(x:Nat)),.int (0+(y:Nat))]))=H4 at s4 lu ⊢;have hk:(RM.aN kvs ((0+(x:Int),0+(y:Int)):PI)).isSome=true↔F x y=true:=by rw[RM.aW,zero_add,zero_add];exact Cd x y
   have Aa:=RM.z7 F y x;refine cB (fun c=>?_) (fun c=>?_)
   ·have c:=hk.mp c;refine⟨_,rfl,_,rfl,?_⟩;have eI:(!(if x=0 then false else RM.c9 F y (x - 1)))=RM.c9 F y x:=by rw[Aa,c];simp
    rw[eI];refine⟨_,rfl,_,rfl,?_⟩;refine cB (fun ci=>?_) (fun ci=>?_)
    ·refine⟨_,rfl,_,rfl,_,rfl,(by show 2<=sizeLine;decide),fun t ht=>?_⟩;have nt:p≠t:=aH lu ht;have mw:D2 (upd H4 t (.tup [.int (0+(x:Nat)),.int (0+(y:Nat))])) p (CS (RM.iU F y++RM.mM F y x)):=by unfold D2;rw[aB nt];exact lu
     refine⟨p,_,rfl,D2.put (p:=((0+(x:Int),0+(y:Int)):PI)) mw a8 (.bl true) ?_,some (.int (0+(x:Nat))),by simp,a9.put (a9.trans s4 (a9.upd ht)) hp,?_⟩
     ·rw[qJ,aj];have h1:=RM.pI F y;have h2:=RM.sN F y x;exact few (m:=5000) (by omega)
     ·unfold D2;rw[a8,zero_add,zero_add,show(((x:Int),(y:Int)):PI)=RM.iP (x,y)from rfl,E5,RM.lM,ah ci,dv];intro z;rcases aw.mp z with z|z
      ·have:=RM.v7 z;simp at this
      ·have:=RM.sM z;simp at this
    ·refine⟨some (.int (0+(x:Nat))),by simp,s4,?_⟩;rw[RM.lM,af ci];exact lu
   ·have c:F x y=false:=by
     have c:¬F x y=true:=fun z=>c (hk.mpr z)
     simpa using c
    have eI:(if x=0 then false else RM.c9 F y (x - 1))=RM.c9 F y x:=by rw[Aa,c];simp
    rw[eI];refine⟨_,rfl,_,rfl,?_⟩;refine cB (fun ci=>?_) (fun ci=>?_)
    ·refine⟨_,rfl,_,rfl,_,rfl,(by show 2<=sizeLine;decide),fun t ht=>?_⟩;have nt:p≠t:=aH lu ht;have mw:D2 (upd H4 t (.tup [.int (0+(x:Nat)),.int (0+(y:Nat))])) p (CS (RM.iU F y++RM.mM F y x)):=by unfold D2;rw[aB nt];exact lu
     refine⟨p,_,rfl,D2.put (p:=((0+(x:Int),0+(y:Int)):PI)) mw a8 (.bl true) ?_,some (.int (0+(x:Nat))),by simp,a9.put (a9.trans s4 (a9.upd ht)) hp,?_⟩
     ·rw[qJ,aj];have h1:=RM.pI F y;have h2:=RM.sN F y x;exact few (m:=5000) (by omega)
     ·unfold D2;rw[a8,zero_add,zero_add,show(((x:Int),(y:Int)):PI)=RM.iP (x,y)from rfl,E5,RM.lM,ah ci,dv];intro z;rcases aw.mp z with z|z
      ·have:=RM.v7 z;simp at this
      ·have:=RM.sM z;simp at this
    ·refine⟨some (.int (0+(x:Nat))),by simp,s4,?_⟩;rw[RM.lM,af ci];exact lu
  ·rintro σ H3 ⟨v5,rfl,s3,hD⟩;refine⟨_,_,_,rfl,s3,?_⟩;rw[RM.sJ];exact hD
 ·rintro σ H2 ⟨v3,v4,v5,rfl,s3,hD⟩;exact⟨_,rfl,k p H2 (a9.trans s1 s3) (s1.free hp) hD⟩
abbrev s_miap:Stmt:=(top 40)
theorem sc_miap:aM ["cell","cells","side","near","far"] ["cell","cells"] (aI s_miap):=fS
noncomputable def sp_miap(K:W.Frag)(d:Adr):Sp:=fun vs H Q _=>∃(v:V)(p:PI)(c:Addr)(C:List (Nat×Nat)),vs=[v,.ref c]/\T2 H v p/\R2 H c (CS C)/\∀H',a9 H H'->Q (.bl (RM.bD C p 0||(RM.bD C p 1||(RM.bD C p 2||RM.bD C p 3)))) H'
theorem ok_miap(F:Fun K "meets_in_a_point" "meets_in_a_point" s_miap f fd)(T:Txt K mg base d)(D_b:aQ P w K mg base CX0 2 "beyond" ["place","direction"] (sp_b K d))(D_lo:aQ P w K mg base CX0 1 "left_of" ["direction"] (sp_lo K d)):bO P w K mg base CX0 3 f fd ["cell","cells"] (sp_miap K d):=by
 refine F.ok sc_miap (fun vs H Q E h=>by obtain⟨v,p,c,C,rfl,_⟩:=h;rfl) (fun _ _ _ _ H _ Q E hr h=>?_);have hu:=bK hr;obtain⟨aALL_SIDES,bC,c_ALL_SIDES⟩:=T.bC;obtain⟨v,p,c,C,rfl,hv,hC,k⟩:=h;have yes:∀i,i<4->RM.bD C p i=true->(RM.bD C p 0||(RM.bD C p 1||(RM.bD C p 2||RM.bD C p 3)))=true:=by
  intro i hi e;have cs:i=0\/i=1\/i=2\/i=3:=by omega
  rcases cs with rfl|rfl|rfl|rfl<;>simp[e]
 refine⟨_,(aA (bY PassesOwn.never rfl (jD (f6 bC rfl)) (pgN (i:=2) sc_miap.nd) (aA (psN (i:=3) sc_miap.nd (aT D_b (hm hr) aX rfl (a7 (pv 0) (a7 (pv 2) aD))))
   (aA (psN (i:=4) sc_miap.nd (aT D_b (hm hr) aX rfl (a7 (pv 0) (a7 (aT D_lo (hm hr) aX rfl (a7 (pv 2) aD)) aD))))
   (aE (cI (PW.pt (pJ (eS (d5 hu (pv 3) (pv 1))) (pJ (eS (d5 hu (pv 4) (pv 1))) (nH (eS (B0 hu (aT D_b (hm hr) aX rfl (a7 (pv 3) (a7 (aT D_lo (hm hr) aX rfl (a7 (pv 2) aD)) aD))) (pv 1))))))) (aE (aR iX)) bH)))))
   (aE (aR iX))),?_⟩
 refine⟨_,rfl,⟨_,c_ALL_SIDES _⟩,jP (K:=K) (a:=aALL_SIDES) (xs:=[.int 0,.int 1,.int 2,.int 3]) (fun i σ H2=>∃(v2 v3 v4:Option V),σ=[some v,some (.ref c),v2,v3,v4]/\a9 H H2/\∀j,j<i->RM.bD C p j=false)
  ⟨none,none,none,rfl,(a9.refl _),by intro j hj;omega⟩ (fun i σ H2 _ _=>c_ALL_SIDES H2) ?_ ?_⟩
 ·rintro i x σ H2 hx ⟨v2,v3,v4,rfl,s2,old⟩;obtain⟨hi,rfl⟩:=j9 hx;have Bv:RM.bD C p i=false->∀j,j<i+1->RM.bD C p j=false:=fun e j hj=>by
   by_cases h:j=i
   ·rw[h];exact e
   ·exact old j (by omega)
  refine⟨_,rfl,_,rfl,v,p,i,rfl,(hv.mono s2).c,hi,fun n H3 s3 t3=>?_⟩;refine⟨_,rfl,_,rfl,_,rfl,v,p,(i+1)%4,by simp,(hv.mono (a9.trans s2 s3)).c,by omega,fun f H4 s4 t4=>?_⟩;have zc:a9 H H4:=a9.trans s2 (a9.trans s3 s4);obtain⟨na,rfl,ot⟩:=t3.mono s4;obtain⟨fa,rfl,Bd⟩:=t4;refine⟨_,rfl,_,rfl,c,_,rfl,R2.get (p:=RM.aK p i) (hC.mono zc) ot,_,rfl,?_⟩;rw[A7];refine cB (fun c1=>?_) (fun c1=>IP ?_)
  ·refine⟨_,rfl,_,rfl,c,_,rfl,R2.get (p:=RM.aK p ((i+1)%4)) (hC.mono zc) Bd,_,rfl,?_⟩;rw[A7];refine cB (fun c2=>?_) (fun c2=>IP ?_)
   ·refine⟨_,rfl,_,rfl,_,rfl,.ref na,RM.aK p i,(i+1)%4,by simp,T2.c ⟨na,rfl,ot⟩,by omega,fun g H5 s5 t5=>?_⟩;obtain⟨ga,rfl,hga⟩:=t5;refine⟨_,rfl,c,_,rfl,R2.get (p:=RM.aK (RM.aK p i) ((i+1)%4)) (hC.mono (a9.trans zc s5)) hga,_,rfl,?_⟩;rw[A7];refine cB (fun c3=>?_) (fun c3=>?_)
    ·have e:RM.bD C p i=true:=by unfold RM.bD;rw[c1,c2,c3];rfl
     have h:=k H5 (a9.trans zc s5);rw[yes i hi e]at h;exact h
    ·exact⟨_,_,_,rfl,a9.trans zc s5,Bv (by unfold RM.bD;rw[not_true c3];simp)⟩
   ·exact⟨_,_,_,rfl,zc,Bv (by unfold RM.bD;rw[not_true c2];simp)⟩
  ·exact⟨_,_,_,rfl,zc,Bv (by unfold RM.bD;rw[not_true c1];simp)⟩
 ·rintro σ H2 ⟨v2,v3,v4,rfl,s2,old⟩;have h:=k H2 s2;rw[old 0 (by decide),old 1 (by decide),old 2 (by decide),old 3 (by decide)]at h;exact h
abbrev s_ij:Stmt:=(top 39)
theorem sc_ij:aM ["cells","waiting","reached","cell","side"] ["cells"] (aI s_ij):=fS
noncomputable def sp_ij(K:W.Frag)(d:Adr):Sp:=fun vs H Q _=>∃(c:Addr)(C:List (Nat×Nat))(c0:Nat×Nat)(r:List (Nat×Nat)),vs=[.ref c]/\R2 H c (CS C)/\C=c0::r/\C.Nodup/\C.length<=256/\∀H',a9 H H'->Q (.bl ((Roof.reach C C.length [c0] [c0]).length==C.length)) H'
theorem ok_ij(F:Fun K "is_joined" "is_joined" s_ij f fd)(T:Txt K mg base d)(D_b:aQ P w K mg base CX0 2 "beyond" ["place","direction"] (sp_b K d)):bO P w K mg base CX0 3 f fd ["cells"] (sp_ij K d):=by
 refine F.ok sc_ij (fun vs H Q E h=>by obtain⟨c,C,c0,r,rfl,_⟩:=h;rfl) (fun _ _ _ _ H _ Q E hr h=>?_);have hu:=bK hr;obtain⟨aALL_SIDES,bC,c_ALL_SIDES⟩:=T.bC;obtain⟨c,C,c0,r,rfl,hC,eC,nd,hl,k⟩:=h;have hc0:c0∈C:=by rw[eC];exact bj
 have cl:(CS C).length=C.length:=qJ C;refine⟨_,(aA (psN (i:=1) sc_ij.nd (HF JS (vH (C9 rfl) (by rfl) T.list (by rfl) (a7 (pv 0) aD)) JZ (JY aL)))
   (aA (psN (i:=2) sc_ij.nd eB)
   (aA (iV PassesOwn.never (sW (pv 1) (fun _=>rfl)) (aA (psN (i:=3) sc_ij.nd (AZ PySem.F.plainAttrs_list PySem.F.slot_list_pop PySem.F.type_list_pop B9 (pv 1)))
   (aE (cI (PW.pt (pJ (eS (B0 hu (pv 3) (pv 0))) (nH (eS (d5 hu (pv 3) (pv 2)))))) (aA (fM hu (pv 2) (pv 3) iX rfl)
   (aE (bY PassesOwn.never rfl (jD (f6 bC rfl)) (pgN (i:=4) sc_ij.nd) (aE (cZ (gQ PySem.F.plainAttrs_list PySem.F.slot_list_append PySem.F.type_list_append cC (pv 1) (a7 (aT D_b (hm hr) aX rfl (a7 (pv 3) (a7 (pv 4) aD))) aD))))))) bH))))
   (aE (aR (wX hV (bR m4 (by rfl) T.len PySem.boot_len (a7 (pv 2) aD)) (bR m4 (by rfl) T.len PySem.boot_len (a7 (pv 0) aD)) (c7 _))))))),?_⟩
 refine⟨_,rfl,c,_,rfl,hC,fun l qs rq hk=>⟨_,rfl,l,qs,rfl,SqL.of a8,fun p hp=>?_⟩⟩;have hk:=yY hk;obtain⟨q0,qr,rfl,t0⟩:∃q0 qr,qs=q0::qr/\T2 H q0 (RM.iP c0):=by
  rw[m6,eC,bo]at hk;cases hk with
  |cons t0 _=>exact⟨_,_,rfl,t0⟩
 rw[FT];have s1:a9 H (upd H l (.lst (q0::qr))):=a9.upd rq;have s2:a9 H (upd (upd H l (.lst (q0::qr))) p (.lst ((q0::qr).take 1))):=a9.trans s1 (a9.upd hp);have hp2:(upd (upd H l (.lst (q0::qr))) p (.lst ((q0::qr).take 1))) p=some (.lst [q0]):=a8;have fp:H p=none:=s1.free hp;generalize (upd (upd H l (.lst (q0::qr))) p (.lst ((q0::qr).take 1)))=H1 at s2 hp2 ⊢;refine fun rd zt=>?_
 have npr:p≠rd:=aH hp2 zt;have frd:H rd=none:=s2.free zt;dsimp only[iB,AK];refine iS (fun σ H2=>∃(xs:List V)(ws:List PI)(kvs:List (PI×V))(v3 v4:Option V),σ=[some (.ref c),some (.ref p),some (.ref rd),v3,v4]/\a9 H H2/\H2 p=some (.lst xs)/\Paired (T2 H2) xs ws/\D2 H2 rd kvs/\RM.Dfs C c0 (kvs.map (·.1)) ws/\xs.length<=1+4*kvs.length)
  (fun _ H2=>nX H2 p+5*(C.length+1 - m8 H2 rd))
  ⟨[q0],[RM.iP c0],[],none,none,rfl,a9.trans s2 (a9.upd zt),by rw[aB npr];exact hp2,.cons (t0.mono (a9.trans s2 (a9.upd zt))) .nil,a8,RM.Dfs.first,by simp⟩ ?_ (fun _ _ _ _ f ⟨v,e,k,t,q⟩=>⟨v,e,k,t,f _ _ q⟩)
 rintro σ H2 ⟨xs,ws,kvs,v3,v4,rfl,s3,h1,pr,hD,dfs,len⟩;have hlr:=dfs.len;rw[ag]at hlr;refine⟨_,rfl,_,.inl ⟨_,SqL.of h1,rfl⟩,?_⟩;refine cB (fun cq=>?_) (fun cq=>?_)
 ·have kb:xs≠[]:=by intro z;rw[z]at cq;cases cq
  have hpos:0<xs.length:=gr.mpr kb;obtain⟨y,hy⟩:∃y,xs[xs.length - 1]? =some y:=⟨_,bf (by omega)⟩
  obtain⟨q,hq,ty⟩:=pairs_at pr hy;have lxw:=pairs_len pr;have ews:ws=ws.dropLast++[q]:=by
   have:ws≠[]:=by intro z;rw[z]at hq;cases hq
   have e:=(jg this).symm;rw[List.getLast_eq_getElem]at e;have e2:ws[ws.length - 1]'(by omega)=q:=by have:=(ak.mp (by rw[<- lxw];exact hq:ws[ws.length - 1]? =some q)).2;exact this
   rw[e2]at e;exact e
  refine⟨_,rfl,.inl ⟨rfl,_,SqL.of h1⟩,p,xs,y,rfl,rfl,h1,hy,?_⟩;have s4:a9 H (upd H2 p (.lst xs.dropLast)):=a9.put s3 fp;have wt:Paired (T2 (upd H2 p (.lst xs.dropLast))) xs.dropLast ws.dropLast:=aJ (fun _ _ z=>z.upd h1) (f7 pr);have lu:D2 (upd H2 p (.lst xs.dropLast)) rd kvs:=by unfold D2;rw[aB npr.symm];exact hD
  have Bn:T2 (upd H2 p (.lst xs.dropLast)) y q:=ty.upd h1;have h14:(upd H2 p (.lst xs.dropLast)) p=some (.lst xs.dropLast):=a8;have ml:nX H2 p=xs.length:=lU h1;have mt:m8 H2 rd=kvs.length:=yT hD;generalize (upd H2 p (.lst xs.dropLast))=H4 at s4 wt lu Bn h14 ⊢;rw[ews]at dfs;obtain⟨ya,rfl,uw⟩:=Bn;have ld:xs.dropLast.length=xs.length - 1:=gy ..;have skip:(q∉RM.iW C\/q∈kvs.map (·.1))->∃(rb:List V)(ws:List PI)(zj:List (PI×V))(v3 v4':Option V),([some (.ref c),some (.ref p),some (.ref rd),some (.ref ya),v4]:List (Option V))=[some (.ref c),some (.ref p),some (.ref rd),v3,v4']/\a9 H H4/\H4 p=some (.lst rb)/\Paired (T2 H4) rb ws/\D2 H4 rd zj/\RM.Dfs C c0 (zj.map (·.1)) ws/\rb.length<=1+4*zj.length:=
   fun z=>⟨xs.dropLast,ws.dropLast,kvs,some (.ref ya),v4,rfl,s4,h14,wt,lu,dfs.skip hc0 z,by omega⟩
  have less:nX H4 p+5*(C.length+1 - m8 H4 rd)<nX H2 p+5*(C.length+1 - m8 H2 rd):=by rw[ml,mt,lU h14,yT lu,ld];omega
  refine⟨_,rfl,_,rfl,c,_,rfl,R2.get (p:=q) (hC.mono s4) uw,_,rfl,?_⟩;rw[A7];refine cB (fun c1=>?_) (fun c1=>IP ⟨skip (.inl (by simpa using c1)),less⟩);have c1:q∈RM.iW C:=by simpa using c1
  refine⟨_,rfl,_,rfl,rd,_,rfl,R2.get (p:=q) lu.rd uw,_,rfl,?_⟩;refine cB (fun c2=>?_) (fun c2=>?_)
  ·have c2:q∉kvs.map (·.1):=fun z=>by rw[(RM.aW q kvs).mpr z]at c2;cases c2
   refine⟨_,rfl,_,rfl,rd,_,rfl,D2.put lu uw (.bl true) (few (m:=256) (by omega)),?_⟩;rw[RM.fY _ c2];have hd5:=dfs.take c1 c2;have xr:H4 rd=some (.dT (kvF k2 kvs)):=lu;refine⟨_,rfl,⟨_,c_ALL_SIDES _⟩,jP (K:=K) (a:=aALL_SIDES) (xs:=[.int 0,.int 1,.int 2,.int 3]) (fun i σ H2=>∃(rb:List V)(v4:Option V),σ=[some (.ref c),some (.ref p),some (.ref rd),some (.ref ya),v4]/\a9 H H2/\H2 p=some (.lst rb)/\Paired (T2 H2) rb (ws.dropLast++([RM.aK q 0,RM.aK q 1,RM.aK q 2,RM.aK q 3].take i))/\D2 H2 rd (kvs++[(q,V.bl true)])/\T2 H2 (.ref ya) q)
    ⟨xs.dropLast,v4,rfl,a9.put s4 frd,by rw[aB npr];exact h14,by rw[take_zero,dc];exact aJ (fun _ _ z=>z.rG xr (by intro _ z;cases z)) wt,a8,T2.rG ⟨ya,rfl,uw⟩ xr (by intro _ z;cases z)⟩ (fun i σ H2 _ _=>c_ALL_SIDES H2) ?_ ?_⟩
   ·rintro i x σ H5 hx ⟨rb,v4,rfl,s5,h5,yb,mw,t5⟩;obtain⟨hi,rfl⟩:=j9 hx;have l5:=pairs_len yb;rw[aj,bw,gy]at l5;refine⟨_,rfl,.inl ⟨rfl,_,SqL.of h5⟩,_,rfl,_,rfl,.ref ya,q,i,rfl,t5.c,hi,fun n H6 s6 t6=>?_⟩;have h6:=s6 _ _ h5;refine⟨p,rb,n,rfl,rfl,h6,few (m:=2000) (by omega),rb++[n],_,rfl,a9.put (a9.trans s5 s6) fp,a8,?_,by unfold D2;rw[aB npr.symm];exact s6 _ _ mw,(t5.mono s6).upd h6⟩;have e4:[RM.aK q 0,RM.aK q 1,RM.aK q 2,RM.aK q 3].take (i+1)=[RM.aK q 0,RM.aK q 1,RM.aK q 2,RM.aK q 3].take i++[RM.aK q i]:=by
     have cs:i=0\/i=1\/i=2\/i=3:=by omega
     rcases cs with rfl|rfl|rfl|rfl<;>rfl
    rw[e4,<- dv];exact aY (t6.upd h6) (aJ (fun _ _ z=>(z.mono s6).upd h6) yb)
   ·rintro σ H5 ⟨rb,v4,rfl,s5,h5,yb,mw,t5⟩;have l5:=pairs_len yb;rw[aj,bw,gy]at l5;have l6:([RM.aK q 0,RM.aK q 1,RM.aK q 2,RM.aK q 3].length)=4:=rfl;have l7:([V.int 0,V.int 1,V.int 2,V.int 3].length)=4:=rfl;have Df:=hd5.len;rw[aj,ag]at Df;simp only[bq,fg]at Df l5;refine⟨⟨rb,_,kvs++[(q,V.bl true)],_,_,rfl,s5,h5,yb,mw,by rw[cg];exact hd5,by rw[aj];simp only[bq,fg];omega⟩,?_⟩;rw[ml,mt,lU h5,yT mw,aj];simp only[bq,fg];omega
  ·have c2:q∈kvs.map (·.1):=by
    refine(RM.aW q kvs).mp ?_;cases e:(RM.aN kvs q).isSome with
    |true=>rfl
    |false=>rw[e]at c2;exact absurd rfl c2
   exact⟨skip (.inr c2),less⟩
 ·have e:xs=[]:=by
   cases xs with
   |nil=>rfl
   |cons _ _=>exact absurd rfl cq
  subst e;cases pr;refine⟨_,rfl,rd,_,rfl,hD.rd,_,rfl,c,_,rfl,hC.mono s3,rfl,?_⟩;have h:=k H2 s3;have e2:=dfs.done nd hc0;rw[ag]at e2;rw[<- e2]at h;refine cast (congrArg (fun b=>Q (V.bl b) H2) ?_) h;rw[f9,f9,cl,di,decide_eq_true_iff,decide_eq_true_iff];constructor
  ·intro z;rw[z]
  ·intro z;have:=V.int.inj z;omega
abbrev s_ih:Stmt:=(top 41)
theorem sc_ih:aM ["cells","cell"] ["cells"] (aI s_ih):=fS
theorem FY(F:Nat->Nat->Bool):(RM.aV F).length<=4096:=by have:=RM.pI F 64;rw[RM.EL]at this;omega
theorem rB(F:Nat->Nat->Bool):(RM.aV F).Nodup:=(RM.mI F).imp fun{a b} h e=>by rw[e,RM.cX]at h;omega
noncomputable def sp_ih(K:W.Frag)(d:Adr):Sp:=fun vs H Q _=>∃(c:Addr)(F:Nat->Nat->Bool),vs=[.ref c]/\D2 H c (CS (RM.aV F))/\∀H',a9 H H'->Q (.bl (Roof.isHouse (RM.aV F))) H'
theorem ok_ih(F:Fun K "is_house" "is_house" s_ih f fd)(T:Txt K mg base d)(D_miap:aQ P w K mg base CX0 3 "meets_in_a_point" ["cell","cells"] (sp_miap K d))(D_ij:aQ P w K mg base CX0 3 "is_joined" ["cells"] (sp_ij K d)):bO P w K mg base CX0 4 f fd ["cells"] (sp_ih K d):=by
 refine F.ok sc_ih (fun vs H Q E h=>by obtain⟨c,F,rfl,_⟩:=h;rfl) (fun _ _ _ _ H _ Q E hr h=>?_);have hu:=bK hr;obtain⟨c,F,rfl,hC,k⟩:=h;have km:=FY F;have rp:=rB F;have Cr:=RM.AX (l:=RM.aV F);have wa:=@RM.tL F;generalize RM.aV F=C at*;have ekl:(kvF k2 (CS C)).length=C.length:=by rw[f9,qJ]
 refine⟨_,(aA (cI (PW.pt (yE (bU HR (bR m4 (by rfl) T.len PySem.boot_len (a7 (pv 0) aD)) aL (c7 _)) (sU (bU vL (bR m4 (by rfl) T.len PySem.boot_len (a7 (pv 0) aD)) (d3 T.xG rfl) (c7 _))))) (aE (aR iX)) bH)
   (aA (cI (jB (bR (NI rfl) (by rfl) T.any (by rfl) (a7 (K2 (HH (own:=[("cell",1)]) rfl sc_ih.nd (lO (pv 0)) (eG (by first|decide+kernel|kernel_rfl)) (fun _ _ _ _ _=>(pgN (i:=1) sc_ih.nd)) (fun _ _ _ _ _=>nI) (fun _ _ _ _ _=>(aT D_miap (hm hr) aX rfl (a7 (pv 1) (a7 (pv 0) aD)))))) aD)) (fun _=>rfl)) (aE (aR iX)) bH)
   (aE (aR (aT D_ij (hm hr) aX rfl (a7 (pv 0) aD)))))),?_⟩
 refine⟨_,rfl,c,_,rfl,hC.rd,_,_,rfl,rfl,_,rfl,?_⟩;rw[ekl];refine cB (fun c1=>F6 ?_) (fun c1=>?_)
 ·have c1:C=[]:=fx (by have:=bb c1;omega);have h:=k H (a9.refl _);rw[c1,RM.z4]at h;exact h
 have c1:¬C.length<1:=fun z=>c1 (decide_eq_true (by omega))
 obtain⟨c0,r,eC⟩:∃c0 r,C=c0::r:=by
  cases C with
  |nil=>simp at c1
  |cons c0 r=>exact⟨c0,r,rfl⟩
 have wa:=wa eC;refine⟨_,rfl,c,_,rfl,hC.rd,_,_,rfl,rfl,_,rfl,?_⟩;rw[ekl];refine cB (fun c2=>?_) (fun c2=>?_)
 ·have c2:256<C.length:=by have:=bb c2;omega
  have h:=k H (a9.refl _);rw[wa,decide_eq_false (by omega)]at h;exact h
 have c2:C.length<=256:=by apply Nat.le_of_not_lt;intro z;exact c2 (decide_eq_true (by omega))
 refine⟨c,_,hC,trivial,fun od=>⟨_,rfl,c,od,rfl,.inr ⟨_,a8,fun D hD=>KG (d:=c) (od:=od) (kvs:=kvF k2 (CS C))
  (fun i H2=>a9 (upd H c (.frz od (.dT (kvF k2 (CS C))))) H2/\H2 D=some (.lst ((((RM.iW C).take i).map fun p=>RM.bD C p 0||(RM.bD C p 1||(RM.bD C p 2||RM.bD C p 3))).map V.bl))) ⟨a9.upd hD,a8⟩ (fun i H2 ⟨s2,_⟩=>s2 _ _ a8) ?_ ?_⟩⟩⟩
 ·rintro i kk vv q H2 hi hq ⟨s2,h2⟩;obtain⟨p,hp,rfl⟩:=tI hi;have hp2:(RM.iW C)[i]? =some p:=by have:=congrArg (Option.map Prod.fst) hp;rw[<- ax,m6]at this;exact this
  have sj:i<C.length:=by have:=(ak.mp hp2).1;simpa[RM.iW]using this
  refine⟨rfl,_,rfl,_,rfl,.ref q,p,c,C,rfl,⟨q,rfl,hq⟩,.inr ⟨od,s2 _ _ a8⟩,fun H3 s3=>⟨_,s3 _ _ h2,?_,a9.put (a9.trans s2 s3) hD,?_⟩⟩
  ·rw[ag,ag,bw];exact few (m:=256) (by omega)
  ·rw[a8,RM.take_snoc hp2];simp
 ·rintro H2 ⟨s2,h2⟩;have nD:D≠c:=(aH (H:=upd H c (.frz od (.dT (kvF k2 (CS C))))) a8 hD).symm;refine⟨s2 _ _ a8,D,_,rfl,SqL.of (by rw[aB nD];exact h2),_,rfl,?_⟩;have s3:a9 H (upd H2 c (.dT (kvF k2 (CS C)))):=a9.unlock hC s2;have el:(kvF k2 (CS C)).length=(RM.iW C).length:=by rw[ekl];simp[RM.iW]
  rw[el,br (ay _)];have ea:(((RM.iW C).map fun p=>RM.bD C p 0||(RM.bD C p 1||(RM.bD C p 2||RM.bD C p 3))).any id)=Roof.pinched C:=by rw[Cr,any_map];rfl
  rw[ea];refine cB (fun c3=>?_) (fun c3=>?_)
  ·have h:=k _ s3;rw[wa,c3]at h;simp at h;exact h
  ·refine⟨_,rfl,c,C,c0,r,rfl,.inl a8,eC,rp,c2,fun H3 s4=>?_⟩;have h:=k _ (a9.trans s3 s4);rw[wa,not_true c3,decide_eq_true c2]at h;simpa using h
abbrev s_haw:Stmt:=(top 42)
theorem sc_haw:aM ["cells","headings","cell","side"] ["cells"] (aI s_haw):=fS
noncomputable def sp_haw(K:W.Frag)(d:Adr):Sp:=fun vs H Q _=>∃(c:Addr)(C:List (Nat×Nat)),vs=[.ref c]/\D2 H c (CS C)/\C.length<=256/\∀h H',a9 H H'->H h=none->D2 H' h (IV (RM.cT (RM.iW C)))->Q (.ref h) H'
theorem ok_haw(F:Fun K "headings_along_walls" "headings_along_walls" s_haw f fd)(T:Txt K mg base d)(D_b:aQ P w K mg base CX0 2 "beyond" ["place","direction"] (sp_b K d))(D_ss:aQ P w K mg base CX0 2 "side_start" ["square","side"] (sp_ss K d))(D_lo:aQ P w K mg base CX0 1 "left_of" ["direction"] (sp_lo K d)):bO P w K mg base CX0 3 f fd ["cells"] (sp_haw K d):=by
 refine F.ok sc_haw (fun vs H Q E h=>by obtain⟨c,C,rfl,_⟩:=h;rfl) (fun _ _ _ _ H _ Q E hr h=>?_);have hu:=bK hr;obtain⟨aALL_SIDES,bC,c_ALL_SIDES⟩:=T.bC;obtain⟨c,C,rfl,hC,hl,k⟩:=h;refine⟨_,(aA (psN (i:=1) sc_haw.nd eB)
   (aA (jC (bY PassesOwn.never rfl (lO (pv 0)) (pgN (i:=2) sc_haw.nd) (aE (bY PassesOwn.never rfl (jD (f6 bC rfl)) (pgN (i:=3) sc_haw.nd) (aE (cI (eS (d5 hu (aT D_b (hm hr) aX rfl (a7 (pv 2) (a7 (pv 3) aD))) (pv 0))) (aE (fM hu (pv 1) (aT D_ss (hm hr) aX rfl (a7 (pv 2) (a7 (pv 3) aD))) (aT D_lo (hm hr) aX rfl (a7 (pv 3) aD)) rfl)) bH))))))
   (aE (aR (pv 1))))),?_⟩
 refine fun h hh=>?_
 have nc:c≠h:=aH hC hh;have me:∀od,(upd H c (.frz od (.dT (kvF k2 (CS C))))) h=none:=fun od=>fH hC hh
 refine⟨c,.dT (kvF k2 (CS C)),by rw[aB nc];exact hC,trivial,fun od=>⟨_,rfl,c,od,rfl,.inr ⟨_,a8,kP (d:=c) (od:=od) (kvs:=kvF k2 (CS C))
  (fun i σ H2=>∃(v2 v3:Option V),σ=[some (.ref c),some (.ref h),v2,v3]/\a9 (upd H c (.frz od (.dT (kvF k2 (CS C))))) H2/\D2 H2 h (IV (RM.cS [] (RM.dM (RM.iW C) i))))
  ⟨none,none,rfl,a9.both (a9.upd hh),by unfold D2;rw[aB nc.symm,a8];rfl⟩ (fun i σ H2 ⟨_,_,_,s2,_⟩=>s2 _ _ a8) ?_ ?_⟩⟩⟩
 ·rintro i kk vv q σ H2 hi hq ⟨v2,v3,rfl,s2,hD⟩;obtain⟨p,hp,rfl⟩:=tI hi;have hp2:(RM.iW C)[i]? =some p:=by have:=congrArg (Option.map Prod.fst) hp;rw[<- ax,m6]at this;exact this
  have sj:i<C.length:=by have:=(ak.mp hp2).1;simpa[RM.iW]using this
  refine⟨_,rfl,⟨_,c_ALL_SIDES _⟩,jP (K:=K) (a:=aALL_SIDES) (xs:=[.int 0,.int 1,.int 2,.int 3]) (fun j σ H3=>∃(v3:Option V),σ=[some (.ref c),some (.ref h),some (.ref q),v3]/\a9 (upd H c (.frz od (.dT (kvF k2 (CS C))))) H3/\T2 H3 (.ref q) p/\D2 H3 h (IV (RM.cS [] (RM.dM (RM.iW C) i++RM.cW (RM.iW C) p j))))
   ⟨v3,rfl,s2,⟨q,rfl,hq⟩,by rw[show RM.cW (RM.iW C) p 0=[]from rfl,dc];exact hD⟩ (fun i σ H2 _ _=>c_ALL_SIDES H2) ?_ ?_⟩
  ·rintro j x σ H3 hx ⟨v3,rfl,s3,tq,hD⟩;obtain⟨hj,rfl⟩:=j9 hx;refine⟨_,rfl,_,rfl,.ref q,p,j,rfl,tq.c,hj,fun n H4 s4 t4=>?_⟩;obtain⟨na,rfl,ot⟩:=t4;refine⟨_,rfl,c,_,rfl,R2.get (kvs:=CS C) (p:=RM.aK p j) (.inr ⟨od,(a9.trans s3 s4) _ _ a8⟩) ot,_,rfl,?_⟩;rw[A7];have Aa:=RM.rJ (RM.iW C) p hj;refine cB (fun c1=>?_) (fun c1=>?_)
   ·have c1:¬RM.aK p j∈RM.iW C:=by simpa using c1
    rw[af c1]at Aa;refine⟨_,rfl,_,rfl,_,rfl,_,rfl,_,rfl,.ref q,p,j,rfl,(tq.mono s4).c,hj,fun n H5 s5 t5=>?_⟩;obtain⟨ma,rfl,hma⟩:=t5;have mw:D2 H5 h (IV (RM.cS [] (RM.dM (RM.iW C) i++RM.cW (RM.iW C) p j))):=s5 _ _ (s4 _ _ hD);refine⟨h,_,rfl,D2.put mw hma _ ?_,_,rfl,a9.put (a9.trans s3 (a9.trans s4 s5)) (me od),T2.rG (tq.mono (a9.trans s4 s5)) mw (by intro _ z;cases z),?_⟩
    ·rw[fD];have h1:=RM.gH (RM.dM (RM.iW C) i++RM.cW (RM.iW C) p j) [];have h2:=RM.zB (RM.iW C) i;have h3:=RM.l8 (RM.iW C) p j;rw[aj]at h1;simp only[fg]at h1;exact few (m:=2000) (by omega)
    ·unfold D2;rw[a8,qH,Aa,<- dv,RM.u7];rfl
   ·have c1:RM.aK p j∈RM.iW C:=by simpa using c1
    rw[ah c1,dc]at Aa;exact⟨_,rfl,a9.trans s3 s4,tq.mono s4,by rw[Aa];exact s4 _ _ hD⟩
  ·rintro σ H3 ⟨v3,rfl,s3,tq,hD⟩;refine⟨_,_,rfl,s3,?_⟩;rw[RM.nZ hp2];exact hD
 ·rintro σ H2 ⟨v2,v3,rfl,s2,hD⟩;have el:(kvF k2 (CS C)).length=(RM.iW C).length:=by rw[f9,qJ];simp[RM.iW]
  rw[el,RM.zC]at hD;exact⟨s2 _ _ a8,_,rfl,k h _ (a9.unlock hC s2) hh (by unfold D2;rw[aB nc.symm];exact hD)⟩
abbrev s_wf:Stmt:=(top 43)
theorem sc_wf:aM ["start","headings","walked","corners","point","came","heading"] ["start","headings","walked"] (aI s_wf):=fS
noncomputable def sp_wf(K:W.Frag)(d:Adr):Sp:=fun vs H Q _=>∃(v:V)(hA wA:Addr)(hs:List (PI×Int))(wk:List PI)(s0:PI)(f:List (PI×Int)),vs=[v,.ref hA,.ref wA]/\T2 H v s0/\R2 H hA (IV hs)/\D2 H wA (KS wk)/\hA≠wA/\RM.mJ (RM.aN hs) s0 f s0/\f≠[]/\(f.map (·.1)).Nodup/\(∀y∈f.map (·.1),y∉wk)/\wk.length+f.length<=5000/\∀r H',But wA H H'->H r=none->LT H' (.ref r) (RM.bN none f)->D2 H' wA (KS (wk++f.map (·.1)))->Q (.ref r) H'
theorem ok_wf(F:Fun K "walk_from" "walk_from" s_wf f fd)(T:Txt K mg base d)(D_b:aQ P w K mg base CX0 2 "beyond" ["place","direction"] (sp_b K d)):bO P w K mg base CX0 3 f fd ["start","headings","walked"] (sp_wf K d):=by
 refine F.ok sc_wf (fun vs H Q E h=>by obtain⟨v,hA,wA,hs,wk,s0,f,rfl,_⟩:=h;rfl) (fun _ _ _ _ H _ Q E hr h=>?_);have hu:=bK hr;obtain⟨v,hA,wA,hs,wk,s0,f,rfl,tv,hH,hW,nHW,Bt,fne,fnd,fnew,Ec,k⟩:=h;have hHb:∀H',But wA H H'->R2 H' hA (IV hs):=fun H' e=>by
  rcases hH with h|⟨o,h⟩
  ·exact .inl (e _ _ nHW h)
  ·exact .inr ⟨o,e _ _ nHW h⟩
 refine⟨_,(aA (psN (i:=3) sc_wf.nd (eZ aD))
   (aA (psN (i:=4) sc_wf.nd (pv 0))
   (aA (psN (i:=5) sc_wf.nd HG)
   (aA (iV PassesOwn.never (eS (d5 hu (pv 4) (pv 2))) (aA (fM hu (pv 2) (pv 4) iX rfl)
   (aA (psN (i:=6) sc_wf.nd (fN hu (pv 1) (pv 4) (fun _ _=>rfl)))
   (aA (cI (bU LO (pv 6) (pv 5) (c7 _)) (aE (cZ (gQ PySem.F.plainAttrs_list PySem.F.slot_list_append PySem.F.type_list_append cC (pv 3) (a7 (pv 4) aD)))) bH)
   (aA (psN (i:=5) sc_wf.nd (pv 6))
   (aE (psN (i:=4) sc_wf.nd (aT D_b (hm hr) aX rfl (a7 (pv 4) (a7 (pv 6) aD))))))))))
   (aE (aR (pv 3))))))),?_⟩
 refine⟨cj _,fun r qy=>⟨_,rfl,?_⟩⟩;have wu:r≠wA:=(aH hW qy).symm;dsimp only[iB,AK];refine iS (fun σ H2=>∃(g rest:List (PI×Int))(q:PI)(vq:V)(came:Option Int)(xs:List V)(cs:List PI)(v6:Option V),σ=[some v,some (.ref hA),some (.ref wA),some (.ref r),some vq,some (match came with|none=>V.non|some h=>V.int h),v6]/\f=g++rest/\RM.mJ (RM.aN hs) q rest s0/\T2 H2 vq q/\But wA H H2/\H2 r=some (.lst xs)/\Paired (T2 H2) xs cs/\cs++RM.bN came rest=RM.bN none f/\cs.length<=g.length/\D2 H2 wA (KS (wk++g.map (·.1))))
  (fun _ H2=>10000 - m8 H2 wA)
  ⟨[],f,s0,v,none,[],[],none,rfl,rfl,Bt,tv.mono (a9.upd qy),a9.but (a9.upd qy),a8,.nil,rfl,ay _,by unfold D2;rw[aB wu.symm,ja,dc];exact hW⟩ ?_ (fun _ _ _ _ f ⟨v,e,w,e2,a,o,ex,g,b,eb,q⟩=>⟨v,e,w,e2,a,o,ex,g,b,eb,f _ _ q⟩)
 rintro σ H2 ⟨g,rest,q,vq,came,xs,cs,v6,rfl,hf,pq,⟨qa,rfl,rj⟩,b2,h2,pr,Be,lcs,hD⟩;refine⟨_,rfl,_,rfl,wA,_,rfl,R2.get (p:=q) hD.rd rj,_,rfl,?_⟩;rw[JJ];cases pq with
 |nil=>
  have ku:s0∈wk++g.map (·.1):=by
   rw[dc]at hf;subst hf;refine bh _ ?_;cases Bt with
   |nil=>exact absurd rfl fne
   |cons _ _ _ _=>simp
  refine cB (fun c1=>?_) (fun c1=>?_)
  ·exact absurd ku (rM c1)
  ·rw[dc]at hf;subst hf;have Be:cs=RM.bN none f:=by rw[<- Be];simp[RM.bN]
   subst Be;exact⟨_,rfl,k r H2 b2 qy ⟨r,xs,rfl,h2,pr⟩ hD⟩
 | @cons _ _ hd rest' hq h0 h4 pn=>
  have rm:q∉wk++g.map (·.1):=by
   intro z;rcases aw.mp z with z|z
   ·exact fnew q (by rw[hf];simp) z
   ·rw[hf,cg,cv]at fnd;exact fnd.2.2 q z q (by simp) rfl
  refine cB (fun c1=>?_) (fun c1=>absurd (nU c1) rm);have km:(wk++g.map (·.1)).length<=5000:=by rw[hf]at Ec;simp only[aj,bq,ag]at Ec ⊢;omega
  refine⟨_,rfl,_,rfl,wA,_,rfl,D2.put hD rj (.bl true) (by rw[CG];exact few km),?_⟩;rw[LK rm];have Ea:H2 wA=some (.dT (kvF k2 (KS (wk++g.map (·.1))))):=hD;have Ar:T2 (upd H2 wA (.dT (kvF k2 (KS (wk++g.map (·.1)++[q]))))) (.ref qa) q:=T2.rG ⟨qa,rfl,rj⟩ Ea (by intro _ z;cases z);have b3:But wA H (upd H2 wA (.dT (kvF k2 (KS (wk++g.map (·.1)++[q]))))):=b2.here;have h3:(upd H2 wA (.dT (kvF k2 (KS (wk++g.map (·.1)++[q]))))) r=some (.lst xs):=by rw[aB wu];exact h2
  have oq:Paired (T2 (upd H2 wA (.dT (kvF k2 (KS (wk++g.map (·.1)++[q])))))) xs cs:=aJ (fun _ _ z=>z.rG Ea (by intro _ z;cases z)) pr;have mx:D2 (upd H2 wA (.dT (kvF k2 (KS (wk++g.map (·.1)++[q]))))) wA (KS (wk++(g++[(q,hd)]).map (·.1))):=by unfold D2;rw[a8];simp
  have m2:m8 H2 wA=(wk++g.map (·.1)).length:=by rw[yT hD,CG]
  generalize (upd H2 wA (.dT (kvF k2 (KS (wk++g.map (·.1)++[q])))))=H3 at Ar b3 h3 oq mx ⊢;obtain⟨_,e,rj⟩:=Ar;cases e;have dg:lG H3 hA (.ref qa) (some (.int hd)):=by have dg:=(hHb H3 b3).get (p:=q) rj;rw[fE,hq]at dg;exact dg
  refine⟨_,rfl,_,rfl,hA,_,rfl,dg,?_⟩;have Cp:f=g++[(q,hd)]++rest':=by rw[hf];simp
  have fin:∀(xs:List V)(cs:List PI)(H4:Hp),But wA H H4->H4 r=some (.lst xs)->Paired (T2 H4) xs cs->T2 H4 (.ref qa) q->D2 H4 wA (KS (wk++(g++[(q,hd)]).map (·.1)))->cs++RM.bN (some hd) rest'=RM.bN none f->cs.length<=g.length+1->∀(vn:V)(H5:Hp),a9 H4 H5->T2 H5 vn (RM.aK q hd.toNat) ->
   (∃(g rest:List (PI×Int))(q:PI)(vq:V)(came:Option Int)(xs:List V)(cs:List PI)(v6:Option V),([some v,some (.ref hA),some (.ref wA),some (.ref r),some vn,some (.int hd),some (.int hd)]:List (Option V))=[some v,some (.ref hA),some (.ref wA),some (.ref r),some vq,some (match came with|none=>V.non|some h=>V.int h),v6]/\f=g++rest/\RM.mJ (RM.aN hs) q rest s0/\T2 H5 vq q/\But wA H H5/\H5 r=some (.lst xs)/\Paired (T2 H5) xs cs/\cs++RM.bN came rest=RM.bN none f/\cs.length<=g.length/\D2 H5 wA (KS (wk++g.map (·.1))))/\10000 - m8 H5 wA<10000 - m8 H2 wA:=by
   intro xs cs H4 b4 h4 wt t4 lu e4 l4 vn H5 s5 t5;refine⟨⟨g++[(q,hd)],rest',_,vn,some hd,xs,cs,_,rfl,Cp,pn,t5,b4.trans (a9.but s5),s5 _ _ h4,aJ (fun _ _ z=>z.mono s5) wt,e4,by rw[aj];exact l4,s5 _ _ lu⟩,?_⟩;have mw:D2 H5 wA (KS (wk++(g++[(q,hd)]).map (·.1))):=s5 _ _ lu;rw[m2,yT mw,CG];simp only[aj,ag,bq,fg]at km ⊢;omega
  have lcs5:cs.length<=5000:=by rw[aj,ag]at km;omega
  have lx:=pairs_len oq;cases came with
  |none=>refine⟨_,rfl,_,rfl,rfl,_,rfl,F6 ?_⟩;refine⟨_,rfl,.inl ⟨rfl,_,SqL.of h3⟩,_,rfl,r,xs,.ref qa,rfl,rfl,h3,few (m:=5000) (by omega),?_⟩;refine⟨_,rfl,_,rfl,_,rfl,.ref qa,q,hd.toNat,congrArg (fun z=>[V.ref qa,V.int z]) (fj h0).symm,T2.c ((T2.upd (D:=r) ⟨qa,rfl,rj⟩ h3)),by omega,fun vn H5 s5 t5=>?_⟩;refine fin (xs++[.ref qa]) (cs++[q]) _ (b3.put qy) a8 (aY (T2.upd (D:=r) ⟨qa,rfl,rj⟩ h3) (aJ (fun _ _ z=>z.upd h3) oq)) (T2.upd (D:=r) ⟨qa,rfl,rj⟩ h3) (by unfold D2;rw[aB wu.symm];exact mx) ?_ (by rw[aj];simp;omega) vn H5 s5 t5;rw[<- Be];simp[RM.bN]
  |some cm=>
   refine⟨_,rfl,_,rfl,rfl,_,rfl,?_⟩;refine cB (fun c2=>?_) (fun c2=>?_)
   ·have c2:¬hd=cm:=by intro z;rw[z]at c2;simp at c2
    refine⟨_,rfl,.inl ⟨rfl,_,SqL.of h3⟩,_,rfl,r,xs,.ref qa,rfl,rfl,h3,few (m:=5000) (by omega),?_⟩;refine⟨_,rfl,_,rfl,_,rfl,.ref qa,q,hd.toNat,congrArg (fun z=>[V.ref qa,V.int z]) (fj h0).symm,T2.c ((T2.upd (D:=r) ⟨qa,rfl,rj⟩ h3)),by omega,fun vn H5 s5 t5=>?_⟩;refine fin (xs++[.ref qa]) (cs++[q]) _ (b3.put qy) a8 (aY (T2.upd (D:=r) ⟨qa,rfl,rj⟩ h3) (aJ (fun _ _ z=>z.upd h3) oq)) (T2.upd (D:=r) ⟨qa,rfl,rj⟩ h3) (by unfold D2;rw[aB wu.symm];exact mx) ?_ (by rw[aj];simp;omega) vn H5 s5 t5;rw[<- Be];simp[RM.bN,c2]
   ·have c2:hd=cm:=by
     have:decide (V.int hd=V.int cm)=true:=by
      cases e:decide (V.int hd=V.int cm)with
      |true=>rfl
      |false=>rw[e]at c2;exact absurd rfl c2
     exact V.int.inj (bb this)
    subst c2;refine⟨_,rfl,_,rfl,_,rfl,.ref qa,q,hd.toNat,congrArg (fun z=>[V.ref qa,V.int z]) (fj h0).symm,T2.c ⟨qa,rfl,rj⟩,by omega,fun vn H5 s5 t5=>?_⟩;refine fin xs cs _ b3 h3 oq ⟨qa,rfl,rj⟩ mx ?_ (by omega) vn H5 s5 t5;rw[<- Be];simp[RM.bN]
abbrev s_wr:Stmt:=(top 44)
theorem sc_wr:aM ["cells","headings","walks","walked","point"] ["cells"] (aI s_wr):=fS
theorem xU{K:W.Frag}{d:Adr}{H:Hp}{as:List Addr}{ps:List PI}(h:Paired (T2 H) (as.map V.ref) ps):∀a∈as,∀H2,a9 H H2->sp_br K d [.ref a] H2 (fun r H3=>a9 H2 H3/\∃b,r=.ref b/\H3 b=some (.tup ((iG H a).map V.int))) E0:=by intro a ha H2 s2;have t:=(yI h a ha).mono s2;refine⟨.ref a,pairOf H a,rfl,t.c,fun r H3 s3 ⟨b,e,hb⟩=>⟨s3,b,e,hb⟩⟩
noncomputable def sp_wr(K:W.Frag)(d:Adr):Sp:=fun vs H Q _=>∃(c:Addr)(C:List (Nat×Nat)),vs=[.ref c]/\D2 H c (CS C)/\C.length<=256/\Roof.pinched C=false/\∀r H',a9 H H'->LLT H' (.ref r) (RM.iWs (Roof.walksOf C))->Q (.ref r) H'
theorem ok_wr(F:Fun K "walks_round" "walks_round" s_wr f fd)(T:Txt K mg base d)(D_haw:aQ P w K mg base CX0 3 "headings_along_walls" ["cells"] (sp_haw K d))(D_br:aQ P w K mg base CX0 1 "by_row" ["place"] (sp_br K d))(D_wf:aQ P w K mg base CX0 3 "walk_from" ["start","headings","walked"] (sp_wf K d)):bO P w K mg base CX0 5 f fd ["cells"] (sp_wr K d):=by
 refine F.ok sc_wr (fun vs H Q E h=>by obtain⟨c,C,rfl,_⟩:=h;rfl) (fun _ _ _ _ H _ Q E hr h=>?_);have hu:=bK hr;obtain⟨c,C,rfl,hC,hl,sq,k⟩:=h;refine⟨_,(aA (psN (i:=1) sc_wr.nd (aT D_haw (hm hr) aX rfl (a7 (pv 0) aD)))
   (aA (psN (i:=2) sc_wr.nd (eZ aD))
   (aA (psN (i:=3) sc_wr.nd eB)
   (aA (bY PassesOwn.never rfl (d8 (HE rfl D_br (hm hr) rfl T.sorted rfl (a7 (pv 1) aD))) (pgN (i:=4) sc_wr.nd) (aE (cI (eS (d5 hu (pv 4) (pv 3))) (aE (cZ (gQ PySem.F.plainAttrs_list PySem.F.slot_list_append PySem.F.type_list_append cC (pv 2) (a7 (aT D_wf (hm hr) aX rfl (a7 (pv 4) (a7 (pv 1) (a7 (pv 3) aD)))) aD)))) bH)))
   (aE (aR (pv 2))))))),?_⟩
 refine⟨_,rfl,c,C,rfl,hC,hl,fun h H1 s1 hh hH=>?_⟩;refine⟨cj _,fun w hw=>fun wk Ba=>?_⟩;have Aw:w≠wk:=aH a8 Ba;have fwk:H1 wk=none:=(a9.upd hw).free Ba;have s2:a9 H1 (upd (upd H1 w (.lst [])) wk (.dT [])):=a9.trans (a9.upd hw) (a9.upd Ba);refine⟨_,rfl,h,_,rfl,R2.mono s2 hH.rd,fun as hk=>?_⟩;have vy:=yY hk;rw[rQ]at vy;refine⟨iG (upd (upd H1 w (.lst [])) wk (.dT [])),fun a _=>by unfold iG;exact cons_ne_nil _ _,xU vy,fun L out H2 hL pm pw s3 h2=>?_⟩;obtain⟨ys,pr,yp,yr⟩:=qM vy pm pw;have ey:=RM.uG sq yp yr;subst ey;have nLw:L≠w:=(aH (by rw[aB Aw,a8]) hL).symm;have nLk:L≠wk:=(aH a8 hL).symm;have prT:∀{i:Nat}{v:V},(out.map V.ref)[i]? =some v->∃q,(RM.cF C)[i]? =some q/\T2 H1 v (RM.iP q)\/(RM.cF C)[i]? =some q/\T2 (upd (upd H1 w (.lst [])) wk (.dT [])) v (RM.iP q):=fun{i v} hv=>by
  obtain⟨z,hz,t⟩:=pairs_at pr hv;unfold RM.iW at hz;rw[ax]at hz;cases e:(RM.cF C)[i]? with
  |none=>rw[e]at hz;cases hz
  |some q=>rw[e]at hz;cases hz;exact⟨q,.inr ⟨rfl,t⟩⟩
 have w2:(upd (upd H1 w (.lst [])) wk (.dT [])) w=some (.lst []):=by rw[aB Aw,a8]
 have k2':(upd (upd H1 w (.lst [])) wk (.dT [])) wk=some (.dT []):=a8;generalize hHa:(upd (upd H1 w (.lst [])) wk (.dT []))=Ha at*;refine⟨L,rfl,⟨_,SqL.of h2⟩,fW (K:=K) (a:=L) (xs:=out.map V.ref) (fun i σ H3=>∃(seen:List Roof.Point)(ws:List Roof.Walk)(xs:List V)(v4:Option V),σ=[some (.ref c),some (.ref h),some (.ref w),some (.ref wk),v4]/\a9 H1 H3/\(∀a p,T2 Ha (.ref a) p->T2 H3 (.ref a) p)/\H3 L=some (.lst (out.map V.ref))/\H3 w=some (.lst xs)/\Paired (fun v z=>∃b,v=V.ref b/\b≠w/\LT H3 (.ref b) z) xs (RM.iWs ws)/\D2 H3 wk (KS (RM.iW seen))/\RM.fC C seen i ws/\ws.length<=i)
  ⟨[],[],[],none,rfl,a9.trans s2 s3,fun a p t=>t.mono s3,h2,s3 _ _ w2,.nil,s3 _ _ k2',RM.fC.start C,ay _⟩ (fun i σ H3 _ ⟨_,_,_,_,_,_,_,h3,_⟩=>SqL.of h3) ?_ ?_⟩
 ·rintro i v σ H3 hv ⟨seen,ws,xs,v4,rfl,s4,tup,hL3,hw3,wq,mx,st,lws⟩;obtain⟨q,hq,t⟩:∃q,(RM.cF C)[i]? =some q/\T2 Ha v (RM.iP q):=by
   obtain⟨q,z|z⟩:=prT hv
   ·exact⟨q,z.1,z.2.mono s2⟩
   ·exact⟨q,z⟩
  obtain⟨a,rfl,ha⟩:=t;obtain⟨_,e,ha3⟩:=tup a _ ⟨a,rfl,ha⟩;cases e;have sj:i<out.length:=by have:=(ak.mp hv).1;simpa using this
  refine⟨_,rfl,_,rfl,wk,_,rfl,R2.get (p:=RM.iP q) mx.rd ha3,_,rfl,?_⟩;rw[JJ];refine cB (fun c1=>?_) (fun c1=>?_)
  ·have c1:q∉seen:=fun z=>rM c1 (RM.gV.mpr z)
   obtain⟨f,f1,f2,f3,f4,ph,w',e1,e2,qi⟩:=st.next sq hq c1;have nhk:h≠wk:=aH hH fwk;have ls:=qi.len sq;have el:(RM.iW ph).length=ph.length:=by simp[RM.iW]
   refine⟨_,rfl,.inl ⟨rfl,_,SqL.of hw3⟩,_,rfl,_,rfl,_,rfl,.ref a,h,wk,RM.cT (RM.iW C),RM.iW seen,RM.iP q,f,rfl,⟨a,rfl,ha3⟩,R2.mono s4 hH.rd,mx,nhk,f1,f2,f3,f4,?_,fun r H4 b4 hr4 lt4 lu=>?_⟩
   ·have:(RM.iW seen++f.map (·.1)).length<=4*256:=by rw[<- e1,el];omega
    rw[aj,ag]at this;omega
   ·have wz:H4 w=some (.lst xs):=b4 _ _ Aw hw3;have wu:r≠w:=fun z=>by rw[z,hw3]at hr4;cases hr4
    have Al:H3 wk=some (.dT (kvF k2 (KS (RM.iW seen)))):=mx;have lx:=pairs_len wq;have lws2:xs.length<=1024:=by
     have h1:(RM.iWs ws).length=ws.length:=by simp[RM.iWs]
     have h2:out.length=(RM.cF C).length:=by have:=pairs_len pr;simpa[RM.iW]using this
     have h3:(RM.cF C).length<=4*C.length:=by have a1:=RM.jL (RM.iW C);have a2:=yp.length_eq;simp only[RM.iW,ag]at a1 a2;omega
     omega
    have T4:∀{v:V}{p:PI},T2 H3 v p->T2 (upd H4 w (.lst (xs++[.ref r]))) v p:=fun t=>(t.but b4 Al (by intro _ z;cases z)).upd wz
    refine⟨w,xs,.ref r,rfl,rfl,wz,few lws2,ph,ws++[w'],xs++[.ref r],_,rfl,a9.put (But.same b4 s4 fwk) hw,fun a p t=>T4 (tup a p t),by rw[aB nLw];exact b4 _ _ nLk hL3,a8,?_,by unfold D2;rw[aB Aw.symm,e1];exact lu,qi,by rw[aj];simp;omega⟩;have e3:RM.iWs (ws++[w'])=RM.iWs ws++[RM.bN none f]:=by simp[RM.iWs,e2]
    rw[e3];refine aY ⟨r,rfl,wu,lt4.upd wz wu⟩ (aJ (fun v z ⟨b,e,nb,b0,ys,eb,hb,py⟩=>⟨b,e,nb,?_⟩) wq);cases eb;have nbk:b≠wk:=dF hb Al (by intro z;cases z);exact LT.upd ⟨b,ys,rfl,b4 _ _ nbk hb,aJ (fun _ _ t=>t.but b4 Al (by intro _ z;cases z)) py⟩ wz nb
  ·have c1:q∈seen:=RM.gV.mp (nU c1);exact⟨seen,ws,xs,_,rfl,s4,tup,hL3,hw3,wq,mx,st.skip hq c1,by omega⟩
 ·rintro σ H3 ⟨seen,ws,xs,v4,rfl,s4,tup,hL3,hw3,wq,mx,st,lws⟩;have h2:(out.map V.ref).length=(RM.cF C).length:=by have:=pairs_len pr;simpa[RM.iW]using this
  rw[h2]at st;have e:=st.done;subst e;exact⟨_,rfl,k w H3 (a9.trans s1 s4) ⟨w,xs,rfl,hw3,aJ (fun v z ⟨b,e,nb,t⟩=>by rw[e];exact t) wq⟩⟩
abbrev s_ht:Stmt:=(top 47)
theorem sc_ht:aM ["t","walks","cells"] ["t"] (aI s_ht):=fS
theorem KL{a b:List Roof.Walk}(h:RM.iWs a=RM.iWs b):a=b:=RM.map_inj (fun x _ y _ q=>RM.map_inj (fun p _ p' _ r=>fJ r) q) h
theorem mE{F:Nat->Nat->Bool}(h:Roof.isHouse (RM.aV F)=true):(RM.aV F).length<=256/\Roof.pinched (RM.aV F)=false/\RM.aV F≠[]:=by
 cases e:RM.aV F with
 |nil=>rw[e]at h;cases h
 |cons c r=>have h2:=RM.tL e;rw[h]at h2;rw[e]at h2;simp only[Bool.true_eq,dm,decide_eq_true_iff,ig]at h2;exact⟨h2.1,h2.2.1,cons_ne_nil _ _⟩
noncomputable def sp_ht(K:W.Frag)(d:Adr):Sp:=fun vs H Q E=>∃(a:Addr)(ns:List Int),vs=[.ref a]/\SqL K H a (ns.map V.int)/\ns.length<=4096/\RM.inB ns/\(∀F,Roof.houseOf (RoofBNeutral.text ns)=some (RM.aV F)->Roof.isHouse (RM.aV F)=true->∀r H',a9 H H'->H r=none->D2 H' r (CS (RM.aV F))->Q (.ref r) H')/\(Roof.houseOf (RoofBNeutral.text ns)=none->E (.ref d.cH) none H)
theorem ok_ht(F:Fun K "house_told" "house_told" s_ht f fd)(T:Txt K mg base d)(D_wt2:aQ P w K mg base CXf 5 "walks_told" ["t"] (sp_wt2 K d))(D_cw:aQ P w K mg base CX0 2 "cells_within" ["walks"] (sp_cw K d))(D_wr:aQ P w K mg base CX0 5 "walks_round" ["cells"] (sp_wr K d))(D_ih:aQ P w K mg base CX0 4 "is_house" ["cells"] (sp_ih K d)):bO P w K mg base CXf 6 f fd ["t"] (sp_ht K d):=by
 refine okX F sc_ht (fun vs H Q E h=>by obtain⟨a,ns,rfl,_⟩:=h;rfl) (fun _ _ _ _ H _ Q E hr hok h=>?_);have hu:=bK hr;obtain⟨a,ns,rfl,hS,hl,hB,k1,k2⟩:=h;refine⟨_,(aA (psN (i:=1) sc_ht.nd (aT D_wt2 (hm hr) (HK hok) rfl (a7 (pv 0) aD)))
   (aA (psN (i:=2) sc_ht.nd (aT D_cw (hm hr) aX rfl (a7 (pv 1) aD)))
   (aA (cI (PW.pt (yE (ME (jB (aT D_ih (hm hr) aX rfl (a7 (pv 2) aD)) (fun _=>rfl))) (sU (bU (HQ hr.units) (aT D_wr (hm hr) aX rfl (a7 (pv 2) aD)) (pv 1) (c7 _))))) (aE (eU hok PySem.F.excBase_Exception T.eV rfl)) bH)
   (aE (aR (pv 2)))))),?_⟩
 refine⟨_,rfl,a,ns,rfl,hS,hl,fun z hz v H1 s1 llt=>?_,fun hn=>k2 (RM.BR hB hn)⟩;obtain⟨W,oW,rfl,_⟩:=RM.qK hz;have hh:=RM.BQ hB oW hz;have okp:RM.tD W:=fun w hw=>(oW.2 w hw).2
 refine⟨_,rfl,v,W,rfl,llt,okp,fun c H2 s2 hc hD=>?_⟩;have wa:Roof.houseOf (RoofBNeutral.text ns)=(if Roof.isHouse (RM.aV (RM.dR W))=true/\Roof.walksOf (RM.aV (RM.dR W))=W then some (RM.aV (RM.dR W))else none):=hh;generalize RM.dR W=F at hD wa;refine⟨_,rfl,c,F,rfl,hD,fun H3 s3=>⟨_,rfl,?_⟩⟩;refine cB (fun c1=>F6 (k2 ?_)) (fun c1=>?_)
 ·rw[wa,af];intro z;rw[z.1]at c1;cases c1
 have c1:Roof.isHouse (RM.aV F)=true:=by
  cases e:Roof.isHouse (RM.aV F)with
  |true=>rfl
  |false=>rw[e]at c1;exact absurd rfl c1
 obtain⟨tj,sq,kb⟩:=mE c1;have mx:D2 H3 c (CS (RM.aV F)):=s3 _ _ hD;refine⟨_,rfl,c,RM.aV F,rfl,mx,tj,sq,fun r H4 s4 llt4=>?_⟩;refine⟨_,rfl,dWs (RM.iWs (Roof.walksOf (RM.aV F))),dWs (RM.iWs W),LU llt4,LU (llt.mono (a9.trans s2 (a9.trans s3 s4))),uY _,uY _,_,rfl,?_⟩;rw[MZ];refine cB (fun c2=>k2 ?_) (fun c2=>?_)
 ·rw[wa,af];intro z;exact rM c2 (by rw[z.2])
 ·have e:Roof.walksOf (RM.aV F)=W:=KL (nU c2);exact⟨_,rfl,k1 F (by rw[wa,ah ⟨c1,e⟩]) c1 c H4 (a9.trans s1 (a9.trans s2 (a9.trans s3 s4))) (s1.free hc) (s4 _ _ mx)⟩
abbrev s_hco:Stmt:=(top 52)
theorem sc_hco:aM ["cells","found","cell","quarter"] ["cells"] (aI s_hco):=fS
noncomputable def sp_hco(K:W.Frag)(d:Adr):Sp:=fun vs H Q _=>∃(c:Addr)(C:List (Nat×Nat)),vs=[.ref c]/\D2 H c (CS C)/\C.Nodup/\(∀x∈C,x.1<64/\x.2<64)/\C.length<=256/\∀r H',a9 H H'->H r=none->LT H' (.ref r) ((Roof.halvesOf C).map RM.hP)->Q (.ref r) H'
theorem ok_hco(F:Fun K "half_cells_of" "half_cells_of" s_hco f fd)(T:Txt K mg base d)(D_m:aQ P w K mg base CX0 1 "moved" ["place","step"] (sp_m K d))(D_br:aQ P w K mg base CX0 1 "by_row" ["place"] (sp_br K d)):bO P w K mg base CX0 5 f fd ["cells"] (sp_hco K d):=by
 refine F.ok sc_hco (fun vs H Q E h=>by obtain⟨c,C,rfl,_⟩:=h;rfl) (fun _ _ _ _ H _ Q E hr h=>?_);have hu:=bK hr;obtain⟨tm,mT,c_QUARTERS⟩:=T.mT;obtain⟨c,C,rfl,hC,nd,bd,hl,k⟩:=h;refine⟨_,(aA (psN (i:=1) sc_hco.nd (eZ aD))
   (aA (jC (bY PassesOwn.never rfl (lO (pv 0)) (pgN (i:=2) sc_hco.nd) (aE (bY PassesOwn.never rfl (jD (f6 mT rfl)) (pgN (i:=3) sc_hco.nd) (aE (cZ (gQ PySem.F.plainAttrs_list PySem.F.slot_list_append PySem.F.type_list_append cC (pv 1) (a7 (aT D_m (hm hr) aX rfl (a7 (d4 (a7 (dE t9 aL (bG bB (pv 2) aL (fun _ _=>rfl))) (a7 (dE t9 aL (bG bB (pv 2) aL (fun _ _=>rfl))) aD))) (a7 (pv 3) aD))) aD))))))))
   (aE (aR (HC D_br (hm hr) rfl T.sorted rfl (a7 (pv 1) aD)))))),?_⟩
 obtain⟨qs,ua,xy⟩:=c_QUARTERS;refine⟨cj _,fun f hf=>?_⟩;have nc:c≠f:=aH hC hf;have me:∀od,(upd H c (.frz od (.dT (kvF k2 (CS C))))) f=none:=fun od=>fH hC hf
 refine⟨c,.dT (kvF k2 (CS C)),by rw[aB nc];exact hC,trivial,fun od=>⟨_,rfl,c,od,rfl,.inr ⟨_,a8,kP (d:=c) (od:=od) (kvs:=kvF k2 (CS C))
  (fun i σ H2=>∃(xs:List V)(v2 v3:Option V),σ=[some (.ref c),some (.ref f),v2,v3]/\a9 (upd H c (.frz od (.dT (kvF k2 (CS C))))) H2/\H2 f=some (.lst xs)/\Paired (T2 H2) xs (RM.eY ((RM.iW C).take i)))
  ⟨[],none,none,rfl,a9.both (a9.upd hf),by rw[aB nc.symm,a8],.nil⟩ (fun i σ H2 ⟨_,_,_,_,s2,_⟩=>s2 _ _ a8) ?_ ?_⟩⟩⟩
 ·rintro i kk vv q σ H2 hi hq ⟨xs,v2,v3,rfl,s2,h2,pr⟩;obtain⟨p,hp,rfl⟩:=tI hi;have hp2:(RM.iW C)[i]? =some p:=by have:=congrArg (Option.map Prod.fst) hp;rw[<- ax,m6]at this;exact this
  have sj:i<C.length:=by have:=tQ hp2;simpa[RM.iW]using this
  refine⟨_,rfl,⟨_,ua _⟩,jP (K:=K) (a:=tm) (xs:=qs) (fun j σ H3=>∃(xs:List V)(v3:Option V),σ=[some (.ref c),some (.ref f),some (.ref q),v3]/\a9 (upd H c (.frz od (.dT (kvF k2 (CS C))))) H3/\T2 H3 (.ref q) p/\H3 f=some (.lst xs)/\Paired (T2 H3) xs (RM.eY ((RM.iW C).take i)++(RM.vB p).take j))
   ⟨xs,v3,rfl,s2,⟨q,rfl,hq⟩,h2,by rw[take_zero,dc];exact pr⟩ (fun i σ H2 _ _=>ua H2) ?_ ?_⟩
  ·rintro j x σ H3 hx ⟨xs,v3,rfl,s3,tq,h3,pr⟩;obtain⟨z,hz,cz⟩:=pairs_at xy hx;have lx:=pairs_len pr;rw[aj,RM.AU,bw,bw]at lx;have lq:(RM.vB p).length=4:=rfl;obtain⟨_,e,vp⟩:=id tq;cases e;refine⟨_,rfl,.inl ⟨rfl,_,SqL.of h3⟩,_,rfl,q,_,_,_,rfl,rfl,SqT.of vp,aU (by decide) rfl,_,_,rfl,rfl,.inl ⟨by decide,by decide⟩,_,rfl,q,_,_,_,rfl,rfl,SqT.of vp,aU (by decide) rfl,_,_,rfl,rfl,.inl ⟨by decide,by decide⟩,(by show 2<=sizeLine;decide),fun t ht=>?_⟩;have s4:a9 H3 (upd H3 t (.tup [.int (2*p.1),.int (2*p.2)])):=a9.upd ht;refine⟨_,rfl,.ref t,x,(2*p.1,2*p.2),z,rfl,T2.c ⟨t,rfl,a8⟩,cz _,fun n H5 s5 t5=>?_⟩;have h5:=s5 _ _ (s4 _ _ h3);have xx:=a9.trans s4 s5;refine⟨f,xs,n,rfl,rfl,h5,few (m:=2000) (by omega),xs++[n],_,rfl,a9.put (a9.trans s3 xx) (me od),(tq.mono xx).upd h5,a8,?_⟩;rw[RM.EO p hz,<- dv];exact aY (t5.upd h5) (aJ (fun _ _ y=>(y.mono xx).upd h5) pr)
  ·rintro σ H3 ⟨xs,v3,rfl,s3,tq,h3,pr⟩;refine⟨xs,_,_,rfl,s3,h3,?_⟩;rw[RM.yD hp2];have e:qs.length=4:=pairs_len xy;rw[e]at pr;exact pr
 ·rintro σ H2 ⟨xs,v2,v3,rfl,s2,h2,pr⟩;have el:(kvF k2 (CS C)).length=(RM.iW C).length:=by rw[f9,qJ];simp[RM.iW]
  rw[el,br (ay _)]at pr;have s3:a9 H (upd H2 c (.dT (kvF k2 (CS C)))):=a9.unlock hC s2;have h3:(upd H2 c (.dT (kvF k2 (CS C)))) f=some (.lst xs):=by rw[aB nc.symm];exact h2
  have hC2:H2 c=some (.frz od (.dT (kvF k2 (CS C)))):=s2 _ _ a8;have oq:Paired (T2 (upd H2 c (.dT (kvF k2 (CS C))))) xs (RM.eY (RM.iW C)):=aJ (fun _ _ z=>z.rG hC2 (by intro _ z;cases z)) pr;refine⟨hC2,?_⟩;generalize (upd H2 c (.dT (kvF k2 (CS C))))=H3 at s3 h3 oq ⊢;obtain⟨as,rfl⟩:=CL oq;refine⟨_,rfl,f,as,iG H3,rfl,SqL.of h3,fun a _=>by unfold iG;exact cons_ne_nil _ _,xU oq,fun L out H4 hL pm pw s4 h4=>?_⟩;obtain⟨ys,py,yp,yr⟩:=qM oq pm pw;have ey:=RM.uL nd bd yp yr;subst ey;exact k L H4 (a9.trans s3 s4) (s3.free hL) ⟨L,_,rfl,h4,aJ (fun _ _ z=>z.mono s4) py⟩
abbrev s_id:Stmt:=(top 53)
theorem sc_id:aM ["half","layer","step"] ["half","layer"] (aI s_id):=fS
noncomputable def sp_id(K:W.Frag)(d:Adr):Sp:=fun vs H Q _=>∃(v:V)(p:PI)(l:Addr)(L:List PI),vs=[v,.ref l]/\T2 H v p/\R2 H l (KS L)/\∀H',a9 H H'->Q (.bl ((RM.cP p).all fun q=>L.contains q)) H'
theorem ok_id(F:Fun K "is_deeper" "is_deeper" s_id f fd)(T:Txt K mg base d)(D_m:aQ P w K mg base CX0 1 "moved" ["place","step"] (sp_m K d)):bO P w K mg base CX0 2 f fd ["half","layer"] (sp_id K d):=by
 refine F.ok sc_id (fun vs H Q E h=>by obtain⟨v,p,l,L,rfl,_⟩:=h;rfl) (fun _ _ _ _ H _ Q E hr h=>?_);have hu:=bK hr;obtain⟨aHALVES_ABOUT,gW,c_HALVES_ABOUT⟩:=T.gW;obtain⟨v,p,l,L,rfl,hv,hL,k⟩:=h;refine⟨_,(aA (bY PassesOwn.never rfl (jD (f6 gW rfl)) (pgN (i:=2) sc_id.nd) (aE (cI (eS (d5 hu (aT D_m (hm hr) aX rfl (a7 (pv 0) (a7 (pv 2) aD))) (pv 1))) (aE (aR iX)) bH)))
   (aE (aR iX))),?_⟩
 obtain⟨qs,ua,xy⟩:=c_HALVES_ABOUT;have e8:qs.length=8:=pairs_len xy;refine⟨_,rfl,⟨_,ua _⟩,jP (K:=K) (a:=aHALVES_ABOUT) (xs:=qs) (fun j σ H2=>∃(v2:Option V),σ=[some v,some (.ref l),v2]/\a9 H H2/\∀m,m<j->∀q,(RM.cP p)[m]? =some q->q∈L)
  ⟨none,rfl,a9.refl _,by intro m hm;omega⟩ (fun i σ H2 _ _=>ua H2) ?_ ?_⟩
 ·rintro j x σ H2 hx ⟨v2,rfl,s2,old⟩;obtain⟨z,hz,cz⟩:=pairs_at xy hx;have ha:=RM.CD p hz;refine⟨_,rfl,_,rfl,v,x,p,z,rfl,(hv.mono s2).c,cz _,fun n H3 s3 t3=>?_⟩;obtain⟨na,rfl,ot⟩:=t3;refine⟨_,rfl,l,_,rfl,R2.get (hL.mono (a9.trans s2 s3)) ot,_,rfl,?_⟩;rw[JJ];refine cB (fun c1=>?_) (fun c1=>?_)
  ·have c1:=rM c1;have h:=k H3 (a9.trans s2 s3);have e:((RM.cP p).all fun q=>L.contains q)=false:=by rw[ij];intro z;rw[ir]at z;have:=z _ (az ha);exact c1 (by simpa using this)
   rw[e]at h;exact h
  ·have c1:=nU c1;refine⟨_,rfl,a9.trans s2 s3,fun m hm q hq=>?_⟩;by_cases e:m=j
   ·subst e;rw[ha]at hq;cases hq;exact c1
   ·exact old m (by omega) q hq
 ·rintro σ H2 ⟨v2,rfl,s2,old⟩;have h:=k H2 s2;have e:((RM.cP p).all fun q=>L.contains q)=true:=by rw[ir];intro q hq;obtain⟨m,hm⟩:=dt.mp hq;have kh:=tQ hm;have hl8:(RM.cP p).length=8:=rfl;have:=old m (by rw[e8];omega) q hm;simpa using this
  rw[e]at h;exact h
abbrev s_do:Stmt:=(top 54)
theorem sc_do:aM ["cells","depths","layer","depth","half","layer_above"] ["cells"] (aI s_do):=fS
noncomputable def sp_do(K:W.Frag)(d:Adr):Sp:=fun vs H Q _=>∃(c:Addr)(C:List (Nat×Nat)),vs=[.ref c]/\D2 H c (CS C)/\C.Nodup/\(∀x∈C,x.1<64/\x.2<64)/\C.length<=256/\C≠[]/\∀r H',a9 H H'->H r=none->D2 H' r (IV (RM.bX (Roof.halvesOf C)))->Q (.ref r) H'
theorem ok_do(F:Fun K "depths_of" "depths_of" s_do f fd)(T:Txt K mg base d)(D_hco:aQ P w K mg base CX0 5 "half_cells_of" ["cells"] (sp_hco K d))(D_id:aQ P w K mg base CX0 2 "is_deeper" ["half","layer"] (sp_id K d)):bO P w K mg base CX0 6 f fd ["cells"] (sp_do K d):=by
 refine F.ok sc_do (fun vs H Q E h=>by obtain⟨c,C,rfl,_⟩:=h;rfl) (fun _ _ _ _ H _ Q E hr h=>?_);have hu:=bK hr;obtain⟨c,C,rfl,hC,nd,bd,hl,kb,k⟩:=h;have hok:=RM.aP bd;have hhl:=RM.mF C;have hlhs:((Roof.halvesOf C).map RM.hP).length<=1024:=by rw[ag];omega
 have rp:((Roof.halvesOf C).map RM.hP).Nodup:=RM.dZ ((RM.iK nd bd).imp fun{a b} h e=>by omega) fun x hx y hy e=>RM.tO (hok x hx) (hok y hy) e
 have hend:∀n,64<=n->RM.aO ((Roof.halvesOf C).map RM.hP) n=[]:=fun n hn=>by rw[RM.dC hok,RM.eT hok hn];rfl
 have hdep:∀n,0<n->RM.aO ((Roof.halvesOf C).map RM.hP) n=[]->RM.iM ((Roof.halvesOf C).map RM.hP) n=RM.bX (Roof.halvesOf C):=fun n h0 e=>RM.C6 hok h0 e
 have hne0:RM.aO ((Roof.halvesOf C).map RM.hP) 0≠[]:=by
  intro z;have:((Roof.halvesOf C).map RM.hP).length=0:=by rw[show(Roof.halvesOf C).map RM.hP=[]from z];rfl
  rw[ag,hhl]at this;exact kb (fx (by omega))
 refine⟨_,(aA (psN (i:=1) sc_do.nd eB)
   (aA (psN (i:=2) sc_do.nd (aT D_hco (hm hr) aX rfl (a7 (pv 0) aD)))
   (aA (psN (i:=3) sc_do.nd aL)
   (aA (iV PassesOwn.never (sW (pv 2) (fun _=>rfl)) (aA (bY PassesOwn.never rfl (d8 (pv 2)) (pgN (i:=4) sc_do.nd) (aE (fM hu (pv 1) (pv 4) (pv 3) rfl)))
   (aA (GY (i:=5) sc_do.nd rfl (Or.inr rfl) (vH (CA rfl (MT hr)) (by rfl) T.dict (by rfl) (a7 (HH (own:=[("half",4)]) rfl sc_do.nd (d8 (pv 2)) (eG (by first|decide+kernel|kernel_rfl)) (fun _ _ _ _ _=>(pgN (i:=4) sc_do.nd)) (fun _ _ _ _ _=>nI) (fun _ _ _ _ _=>(d4 (a7 (pv 4) (a7 iX aD))))) aD)))
   (aA (nJ (i:=2) (own:=[("half",4)]) rfl sc_do.nd rfl rfl (by exact lJ rfl rfl rfl rfl) (d8 (pv 2)) (eG (by first|decide+kernel|kernel_rfl)) (fun _ _ _ _ _=>(pgN (i:=4) sc_do.nd)) (fun _ _ _ _ _=>(CQ (jB (aT D_id (hm hr) aX rfl (a7 (pv 4) (a7 (pv 5) aD))) (fun _=>rfl)))) (fun _ _ _ _ _=>(pv 4)))
   (aE (GZ (i:=3) sc_do.nd rfl (Or.inl rfl) aL BN))))))
   (aE (aR (pv 1))))))),?_⟩
 refine fun d0 yl=>?_
 have nc:c≠d0:=aH hC yl;refine⟨_,rfl,c,C,rfl,by unfold D2;rw[aB nc];exact hC,nd,bd,hl,fun r H1 s1 fr lt=>?_⟩;generalize (Roof.halvesOf C).map RM.hP=hs at*;have s01:a9 H H1:=a9.trans (a9.upd yl) s1;have hD1:D2 H1 d0 []:=s1 _ _ a8;dsimp only[iB,AK,AL,tC];refine iS (fun σ H2=>∃(n:Nat)(la:Addr)(v4 v5:Option V),σ=[some (.ref c),some (.ref d0),some (.ref la),some (.int (n:Int)),v4,v5]/\a9 H H2/\LT H2 (.ref la) (RM.aO hs n)/\D2 H2 d0 (IV (RM.iM hs n)))
  (fun σ _=>100 - cnt σ 3)
  ⟨0,r,none,none,rfl,s01,lt,hD1⟩ ?_ (fun _ _ _ _ f ⟨v,e,k,t,q⟩=>⟨v,e,k,t,f _ _ q⟩)
 rintro σ H2 ⟨n,la,v4,v5,rfl,s2,⟨_,xs,e,su,pr⟩,hD⟩;cases e;have lx:=pairs_len pr;have lL:(RM.aO hs n).length<=hs.length:=by
  have xb:∀n,(RM.aO hs n).Nodup:=fun n=>by
   induction n with
   |zero=>exact rp
   |succ n ih=>exact ih.filter _
  exact RM.cO (xb n) fun p hp=>RM.mR hs n p hp
 have xb:(RM.aO hs n).Nodup:=by
  clear hD pr lx lL;induction n with
  |zero=>exact rp
  |succ n ih=>exact ih.filter _
 refine⟨_,rfl,_,.inl ⟨_,SqL.of su,rfl⟩,?_⟩;refine cB (fun cq=>?_) (fun cq=>?_)
 ·have hn64:n<64:=by apply Nat.lt_of_not_le;intro z;rw[hend n z]at pr;cases pr;cases cq
  have ldT:(RM.iM hs n).length<=1024:=by
   unfold RM.iM;split
   ·simp
   ·rw[ag];exact hlhs
  have nla:la≠d0:=dF su hD (by intro z;cases z);refine⟨_,rfl,la,rfl,⟨_,SqL.of su⟩,fW (K:=K) (a:=la) (xs:=xs) (fun i σ H3=>∃(v4:Option V),σ=[some (.ref c),some (.ref d0),some (.ref la),some (.int (n:Int)),v4,v5]/\But d0 H2 H3/\D2 H3 d0 (IV (RM.cS (RM.iM hs n) (((RM.aO hs n).take i).map fun p=>(p,(n:Int))))))
   ⟨v4,rfl,But.refl _ _,hD⟩ (fun i σ H3 _ ⟨_,_,b3,_⟩=>SqL.of (b3 _ _ nla su)) ?_ ?_⟩
  ·rintro i x σ H3 hx ⟨v4,rfl,b3,mx⟩;obtain⟨p,hp,tp⟩:=pairs_at pr hx;obtain⟨a,rfl,ha⟩:=tp.SO b3 hD;refine⟨_,rfl,_,rfl,_,rfl,d0,_,rfl,D2.put mx ha _ ?_,_,rfl,b3.here,?_⟩
   ·rw[fD];have h1:=RM.gH (((RM.aO hs n).take i).map fun p=>(p,(n:Int))) (RM.iM hs n);rw[ag,bw]at h1;exact few (m:=5000) (df h1 (by omega))
   ·unfold D2;rw[a8,qH,<- RM.u7,RM.take_snoc hp,cg];rfl
  ·rintro σ H3 ⟨v4,rfl,b3,mx⟩;rw[lx,br (ay _),RM.zV rp]at mx;have xc:H3 la=some (.lst xs):=b3 _ _ nla su;have oq:Paired (T2 H3) xs (RM.aO hs n):=aJ (fun _ _ z=>z.SO b3 hD) pr;have s3:a9 H H3:=But.same b3 s2 yl;refine⟨_,rfl,la,rfl,⟨_,SqL.of xc⟩,fun D hD0=>jI (K:=K) (a:=la) (xs:=xs)
    (fun i H4=>a9 H3 H4/\∃ps:List Addr,H4 D=some (.lst (ps.map V.ref))/\Paired (fun p (q:PI)=>∃a,H4 p=some (.tup [.ref a,.bl true])/\H4 a=some (.tup [.int q.1,.int q.2])) ps ((RM.aO hs n).take i)) ⟨a9.upd hD0,[],a8,.nil⟩ (fun i H4 _ ⟨s4,_⟩=>s4.seq (SqL.of xc)) ?_ ?_⟩
   ·rintro i x H4 hx ⟨s4,ps,h4,pp⟩;obtain⟨p,hp,tp⟩:=pairs_at oq hx;obtain⟨a,rfl,ha⟩:=tp.mono s4;have lp:=pairs_len pp;rw[bw]at lp;have sj:=tQ hp;refine⟨rfl,_,rfl,(by show 2<=sizeLine;decide),fun t ht=>?_⟩;have s5:a9 H4 (upd H4 t (.tup [.ref a,.bl true])):=a9.upd ht;have h5:=s5 _ _ h4;have kT:∀b ys,(upd H4 t (.tup [.ref a,.bl true])) b=some (.tup ys)->(upd (upd H4 t (.tup [.ref a,.bl true])) D (.lst (ps.map V.ref++[.ref t]))) b=some (.tup ys):=fun b ys e=>by rw[aB (dF e h5 (by intro z;cases z))];exact e
    refine⟨_,h5,by rw[ag];exact few (m:=2000) (by omega),a9.put (a9.trans s4 s5) hD0,ps++[t],by rw[a8,cg];rfl,?_⟩;rw[RM.take_snoc hp];exact aY (R:=fun p' (q:PI)=>∃a',(upd (upd H4 t (.tup [.ref a,.bl true])) D (.lst (ps.map V.ref++[.ref t]))) p'=some (.tup [.ref a',.bl true])/\(upd (upd H4 t (.tup [.ref a,.bl true])) D (.lst (ps.map V.ref++[.ref t]))) a'=some (.tup [.int q.1,.int q.2]))
     ⟨a,kT _ _ a8,kT _ _ (s5 _ _ ha)⟩ (aJ (fun p' q ⟨a',e1,e2⟩=>⟨a',kT _ _ (s5 _ _ e1),kT _ _ (s5 _ _ e2)⟩) pp)
   ·rintro H4 ⟨s4,ps,h4,pp⟩;rw[lx,br (ay _)]at pp;have pk:Paired (fun p (kv:List Key×V)=>∃q,H4 p=some (.tup [.ref q,kv.2])/\H4 q=some (.tup (kv.1.map kV))) ps (kvF k2 (KS (RM.aO hs n))):=by
     clear xc oq lx lL xb mx su pr hD h4;generalize RM.aO hs n=L at pp;induction pp with
     |nil=>exact .nil
     |cons h _ ih=>exact .cons h ih
    refine⟨D,ps,_,rfl,SqL.of h4,pk,fun ab Aj=>?_⟩;rw[ER xb];have s5:a9 H4 (upd H4 ab (.dT (kvF k2 (KS (RM.aO hs n))))):=a9.upd Aj;have hA5:D2 (upd H4 ab (.dT (kvF k2 (KS (RM.aO hs n))))) ab (KS (RM.aO hs n)):=a8;have xx:a9 H3 (upd H4 ab (.dT (kvF k2 (KS (RM.aO hs n))))):=a9.trans s4 s5;generalize (upd H4 ab (.dT (kvF k2 (KS (RM.aO hs n)))))=H5 at s5 hA5 xx ⊢;have Dh:=xx _ _ xc;refine⟨_,rfl,la,rfl,⟨_,SqL.of Dh⟩,fun D2' Dz=>jI (K:=K) (a:=la) (xs:=xs)
     (fun i H6=>a9 H5 H6/\∃ys,H6 D2'=some (.lst ys)/\Paired (T2 H6) ys (((RM.aO hs n).take i).filter fun p=>(RM.cP p).all fun q=>(RM.aO hs n).contains q)) ⟨a9.upd Dz,[],a8,.nil⟩ (fun i H6 _ ⟨s6,_⟩=>s6.seq (SqL.of Dh)) ?_ ?_⟩
    ·rintro i x H6 hx ⟨s6,ys,h6,py⟩;obtain⟨p,hp,tp⟩:=pairs_at oq hx;have tp6:=tp.mono (a9.trans xx s6);have ly:=pairs_len py;have lf:=gx (fun p=>(RM.cP p).all fun q=>(RM.aO hs n).contains q) ((RM.aO hs n).take i);rw[bw]at lf;refine⟨rfl,_,rfl,_,rfl,x,p,ab,RM.aO hs n,rfl,tp6,R2.mono s6 hA5.rd,fun H7 s7=>⟨_,rfl,?_⟩⟩;have h7:=s7 _ _ h6;refine cB (fun c1=>?_) (fun c1=>?_)
     ·refine⟨_,rfl,ys,h7,few (m:=2000) (df (ie ly) (df lf (by omega))),a9.put (a9.trans s6 s7) Dz,ys++[x],a8,?_⟩;rw[RM.take_snoc hp,gj,List.filter_cons_of_pos (by exact c1),filter_nil];exact aY ((tp6.mono s7).upd h7) (aJ (fun _ _ z=>(z.mono s7).upd h7) py)
     ·refine⟨a9.trans s6 s7,ys,h7,?_⟩;rw[RM.take_snoc hp,gj,List.filter_cons_of_neg (by exact c1),filter_nil,dc];exact aJ (fun _ _ z=>z.mono s7) py
    ·rintro H6 ⟨s6,ys,h6,py⟩;rw[lx,br (ay _)]at py;have s36:a9 H3 H6:=a9.trans xx s6;refine⟨_,rfl,_,_,rfl,rfl,⟨n+1,D2',_,_,rfl,a9.trans s3 s36,⟨D2',ys,rfl,h6,py⟩,s36 _ _ mx⟩,?_⟩;show 100 - ((n:Int)+1).toNat<100 - ((n:Int)).toNat
     omega
 ·have e:xs=[]:=by
   cases xs with
   |nil=>rfl
   |cons _ _=>exact absurd rfl cq
  subst e;have en:RM.aO hs n=[]:=by
   cases h:RM.aO hs n with
   |nil=>rfl
   |cons _ _=>rw[h]at pr;cases pr
  have n0:0<n:=by apply Nat.pos_of_ne_zero;intro z;subst z;exact hne0 en
  rw[hdep n n0 en]at hD;exact⟨_,rfl,k d0 H2 s2 yl hD⟩
abbrev s_ho:Stmt:=(top 55)
theorem sc_ho:aM ["point","depths","step"] ["point","depths"] (aI s_ho):=fS
noncomputable def sp_ho(K:W.Frag)(d:Adr):Sp:=fun vs H Q _=>∃(v:V)(p:PI)(dA:Addr)(h:List Nat),vs=[v,.ref dA]/\T2 H v p/\R2 H dA (IV (RM.bX h))/\∀m H',a9 H H'->m∈RM.cR h p->(∀x∈RM.cR h p,m<=x)->Q (.int m) H'
theorem ok_ho(F:Fun K "height_over" "height_over" s_ho f fd)(T:Txt K mg base d)(D_m:aQ P w K mg base CX0 1 "moved" ["place","step"] (sp_m K d)):bO P w K mg base CX0 2 f fd ["point","depths"] (sp_ho K d):=by
 refine F.ok sc_ho (fun vs H Q E h=>by obtain⟨v,p,dA,h,rfl,_⟩:=h;rfl) (fun _ _ _ _ H _ Q E hr h=>?_);have hu:=bK hr;obtain⟨aHALVES_AT_A_POINT,e6,c_HALVES_AT_A_POINT⟩:=T.e6;obtain⟨v,p,dA,h,rfl,hv,hA,k⟩:=h;refine⟨_,(aE (aR (bR (NH rfl) (by rfl) T.min (by rfl) (a7 (HH (own:=[("step",2)]) rfl sc_ho.nd (jD (f6 e6 rfl)) (eG (by first|decide+kernel|kernel_rfl)) (fun _ _ _ _ _=>(pgN (i:=2) sc_ho.nd)) (fun _ _ _ _ _=>nI) (fun _ _ _ _ _=>(dE kI (HI hu (pv 1) (aT D_m (hm hr) aX rfl (a7 (pv 0) (a7 (pv 2) aD))) (LN GD aL) ⟨rfl,rfl,rfl,rfl⟩) aL))) aD)))),?_⟩;obtain⟨qs,ua,xy⟩:=c_HALVES_AT_A_POINT;have e4:qs.length=4:=pairs_len xy;refine⟨_,rfl,⟨_,ua _⟩,fun D hD=>IJ (K:=K) (a:=aHALVES_AT_A_POINT) (xs:=qs)
  (fun i H2=>a9 H H2/\H2 D=some (.lst (((RM.cR h p).take i).map V.int))) ⟨a9.upd hD,a8⟩ (fun i H2 _ _=>ua H2) ?_ ?_⟩
 ·rintro i x H2 hx ⟨s2,h2⟩;obtain⟨z,hz,cz⟩:=pairs_at xy hx;have hat:=RM.LD h p hz;refine⟨rfl,_,rfl,dA,rfl,.inr ⟨_,hA.mono s2⟩,_,rfl,_,rfl,v,x,p,z,rfl,(hv.mono s2).c,cz _,fun n H3 s3 t3=>?_⟩;obtain⟨na,rfl,ot⟩:=t3;have h3:=s3 _ _ h2;have eg:(RM.aN (IV (RM.bX h)) (p.1+z.1,p.2+z.2)).getD (V.int (-1))=V.int (RM.aS h (p.1+z.1,p.2+z.2)):=by rw[fE,<- RM.JA];cases RM.aN (RM.bX h) (p.1+z.1,p.2+z.2)<;>rfl
  refine⟨_,rfl,_,R2.get (p:=(p.1+z.1,p.2+z.2)) (hA.mono (a9.trans s2 s3)) ot,RM.aS h (p.1+z.1,p.2+z.2),1,eg,rfl,_,h3,?_,a9.put (a9.trans s2 s3) hD,?_⟩
  ·rw[ag,bw];have:(RM.cR h p).length=4:=rfl;exact few (m:=10) (by omega)
  ·rw[a8,RM.take_snoc hat];simp
 ·rintro H2 ⟨s2,h2⟩;rw[e4]at h2;have h2:H2 D=some (.lst ((RM.cR h p).map V.int)):=h2;exact⟨D,RM.cR h p,rfl,SqL.of h2,by show 0<4;decide,fun m hm qm=>k m H2 s2 hm qm⟩
abbrev s_ho2:Stmt:=(top 56)
theorem sc_ho2:aM ["depths","heights","half","side","point"] ["depths"] (aI s_ho2):=fS
noncomputable def sp_ho2(K:W.Frag)(d:Adr):Sp:=fun vs H Q _=>∃(dA:Addr)(h:List Nat),vs=[.ref dA]/\D2 H dA (IV (RM.bX h))/\(∀r∈h,RM.okR r)/\h.length<=1024/\∀r ht H',a9 H H'->H r=none->D2 H' r (IV ht)->RM.A6 h ht->Q (.ref r) H'
theorem ok_ho2(F:Fun K "heights_of" "heights_of" s_ho2 f fd)(T:Txt K mg base d)(D_ss:aQ P w K mg base CX0 2 "side_start" ["square","side"] (sp_ss K d))(D_ho:aQ P w K mg base CX0 2 "height_over" ["point","depths"] (sp_ho K d)):bO P w K mg base CX0 3 f fd ["depths"] (sp_ho2 K d):=by
 refine F.ok sc_ho2 (fun vs H Q E h=>by obtain⟨dA,h,rfl,_⟩:=h;rfl) (fun _ _ _ _ H _ Q E hr h=>?_);have hu:=bK hr;obtain⟨aALL_SIDES,bC,c_ALL_SIDES⟩:=T.bC;obtain⟨dA,h,rfl,hA,hok,hl,k⟩:=h;refine⟨_,(aA (psN (i:=1) sc_ho2.nd eB)
   (aA (jC (bY PassesOwn.never rfl (lO (pv 0)) (pgN (i:=2) sc_ho2.nd) (aE (bY PassesOwn.never rfl (jD (f6 bC rfl)) (pgN (i:=3) sc_ho2.nd) (aA (psN (i:=4) sc_ho2.nd (aT D_ss (hm hr) aX rfl (a7 (pv 2) (a7 (pv 3) aD))))
   (aE (cI (eS (d5 hu (pv 4) (pv 1))) (aE (fM hu (pv 1) (pv 4) (aT D_ho (hm hr) aX rfl (a7 (pv 4) (a7 (pv 0) aD))) rfl)) bH)))))))
   (aE (aR (pv 1))))),?_⟩
 refine fun f hf=>?_
 have nc:dA≠f:=aH hA hf;have me:∀od,(upd H dA (.frz od (.dT (kvF k2 (IV (RM.bX h)))))) f=none:=fun od=>fH hA hf
 have Eg:(IV (RM.bX h)).map (·.1)=h.map RM.hP:=by rw[rQ];unfold RM.bX;rw[RM.gU]
 refine⟨dA,.dT (kvF k2 (IV (RM.bX h))),by rw[aB nc];exact hA,trivial,fun od=>⟨_,rfl,dA,od,rfl,.inr ⟨_,a8,kP (d:=dA) (od:=od) (kvs:=kvF k2 (IV (RM.bX h)))
  (fun i σ H2=>∃(ht:List (PI×Int))(v2 v3 v4:Option V),σ=[some (.ref dA),some (.ref f),v2,v3,v4]/\a9 (upd H dA (.frz od (.dT (kvF k2 (IV (RM.bX h)))))) H2/\D2 H2 f (IV ht)/\RM.gE h ht i 0)
  ⟨[],none,none,none,rfl,a9.both (a9.upd hf),by unfold D2;rw[aB nc.symm,a8];rfl,RM.gE.start h⟩ (fun i σ H2 ⟨_,_,_,_,_,s2,_⟩=>s2 _ _ a8) ?_ ?_⟩⟩⟩
 ·rintro i kk vv q σ H2 hi hq ⟨ht,v2,v3,v4,rfl,s2,hD,pre⟩;obtain⟨p,hp,rfl⟩:=tI hi;have hp2:(h.map RM.hP)[i]? =some p:=by have:=congrArg (Option.map Prod.fst) hp;rw[<- ax,Eg]at this;exact this
  obtain⟨r,hr,rfl⟩:∃r,h[i]? =some r/\p=RM.hP r:=by
   rw[ax]at hp2;cases e:h[i]? with
   |none=>rw[e]at hp2;cases hp2
   |some r=>rw[e]at hp2;exact⟨r,rfl,(Option.some.inj hp2).symm⟩
  have sj:=tQ hr;refine⟨_,rfl,⟨_,c_ALL_SIDES _⟩,jP (K:=K) (a:=aALL_SIDES) (xs:=[.int 0,.int 1,.int 2,.int 3]) (fun j σ H3=>∃(ht:List (PI×Int))(v3 v4:Option V),σ=[some (.ref dA),some (.ref f),some (.ref q),v3,v4]/\a9 (upd H dA (.frz od (.dT (kvF k2 (IV (RM.bX h)))))) H3/\T2 H3 (.ref q) (RM.hP r)/\D2 H3 f (IV ht)/\RM.gE h ht i j)
   ⟨ht,v3,v4,rfl,s2,⟨q,rfl,hq⟩,hD,pre⟩ (fun i σ H2 _ _=>c_ALL_SIDES H2) ?_ ?_⟩
  ·rintro j x σ H3 hx ⟨ht,v3,v4,rfl,s3,tq,hD,pre⟩;obtain⟨hj,rfl⟩:=j9 hx;refine⟨_,rfl,_,rfl,.ref q,RM.hP r,j,rfl,tq.c,hj,fun n H4 s4 t4=>?_⟩;obtain⟨na,rfl,ot⟩:=t4;have lu:D2 H4 f (IV ht):=s4 _ _ hD;refine⟨_,rfl,_,rfl,f,_,rfl,R2.get (p:=RM.aC (RM.hP r) j) lu.rd ot,_,rfl,?_⟩;rw[DZ];refine cB (fun c1=>?_) (fun c1=>?_)
   ·refine⟨_,rfl,_,rfl,.ref na,RM.aC (RM.hP r) j,dA,h,rfl,⟨na,rfl,ot⟩,.inr ⟨od,(a9.trans s3 s4) _ _ a8⟩,fun m H5 s5 hm qm=>?_⟩;have em:=RM.DH hok (az hr) hm qm;subst em;have mw:D2 H5 f (IV ht):=s5 _ _ lu;have lp:=pre.len;refine⟨_,rfl,_,rfl,f,_,rfl,D2.put mw (s5 _ _ ot) _ (by rw[fD];exact few (m:=5000) (by omega)),_,_,_,rfl,a9.put (a9.trans s3 (a9.trans s4 s5)) (me od),T2.rG (tq.mono (a9.trans s4 s5)) mw (by intro _ z;cases z),?_,pre.put hr⟩;unfold D2;rw[a8,qH]
   ·have c1:(RM.aN ht (RM.aC (RM.hP r) j)).isSome=true:=by
     cases e:(RM.aN ht (RM.aC (RM.hP r) j)).isSome with
     |true=>rfl
     |false=>rw[e]at c1;exact absurd rfl c1
    exact⟨ht,_,_,rfl,a9.trans s3 s4,tq.mono s4,lu,pre.keep hr c1⟩
  ·rintro σ H3 ⟨ht,v3,v4,rfl,s3,tq,hD,pre⟩;exact⟨ht,_,_,_,rfl,s3,hD,pre.next⟩
 ·rintro σ H2 ⟨ht,v2,v3,v4,rfl,s2,hD,pre⟩;have el:(kvF k2 (IV (RM.bX h))).length=h.length:=by rw[f9,fD];unfold RM.bX;rw[ag,ag]
  rw[el]at pre;exact⟨s2 _ _ a8,_,rfl,k f ht _ (a9.unlock hA s2) hf (by unfold D2;rw[aB nc.symm];exact hD) pre.done⟩
abbrev s_fo2:Stmt:=(top 59)
theorem sc_fo2:aM ["half","side","depth","heights","start_is_low","end_is_low"] ["half","side","depth","heights"] (aI s_fo2):=fS
noncomputable def sp_fo2(K:W.Frag)(d:Adr):Sp:=fun vs H Q _=>∃(v:V)(r s0:Nat)(h:List Nat)(hA:Addr)(ht:List (PI×Int)),vs=[v,.int (s0:Nat),.int (RM.aS h (RM.hP r)),.ref hA]/\T2 H v (RM.hP r)/\s0<4/\r∈h/\R2 H hA (IV ht)/\RM.A6 h ht/\∀H',a9 H H'->Q (.int (RM.e7 h ((RM.hP r).1,(RM.hP r).2,(s0:Int)))) H'
theorem ok_fo2(F:Fun K "facing_of" "facing_of" s_fo2 f fd)(T:Txt K mg base d)(D_ss:aQ P w K mg base CX0 2 "side_start" ["square","side"] (sp_ss K d))(D_se:aQ P w K mg base CX0 3 "side_end" ["square","side"] (sp_se K d))(D_lo:aQ P w K mg base CX0 1 "left_of" ["direction"] (sp_lo K d))(D_ro:aQ P w K mg base CX0 1 "right_of" ["direction"] (sp_ro K d))(D_o:aQ P w K mg base CX0 1 "opposite" ["direction"] (sp_o K d)):bO P w K mg base CX0 4 f fd ["half","side","depth","heights"] (sp_fo2 K d):=by
 refine F.ok sc_fo2 (fun vs H Q E h=>by obtain⟨v,r,s0,h,hA,ht,rfl,_⟩:=h;rfl) (fun _ _ _ _ H _ Q E hr h=>?_);have hu:=bK hr;obtain⟨v,r,s0,h,hA,ht,rfl,hv,hs,hrm,hT,ok,k⟩:=h;have g1:=ok.all r hrm s0 hs;have ec:RM.aC (RM.hP r) ((s0+1)%4)=RM.aC (RM.hP r) (s0+1):=by unfold RM.aC;rw[mod_mod]
 have g2:RM.aN ht (RM.aC (RM.hP r) (s0+1))=some (RM.hgt h (RM.aC (RM.hP r) (s0+1))):=by rw[<- ec];exact ok.all r hrm ((s0+1)%4) (by omega)
 have ef:RM.e7 h ((RM.hP r).1,(RM.hP r).2,(s0:Int))=RM.zP s0 (RM.hgt h (RM.aC (RM.hP r) s0)) (RM.hgt h (RM.aC (RM.hP r) (s0+1))) (RM.aS h (RM.hP r)):=by unfold RM.e7;simp
 rw[ef]at k;generalize RM.hgt h (RM.aC (RM.hP r) s0)=u at*;generalize RM.hgt h (RM.aC (RM.hP r) (s0+1))=w at*;generalize RM.aS h (RM.hP r)=dd at*;refine⟨_,(aA (psN (i:=4) sc_fo2.nd (wX hV (fN hu (pv 3) (aT D_ss (hm hr) aX rfl (a7 (pv 0) (a7 (pv 1) aD))) (fun _ _=>rfl)) (pv 2) (c7 _)))
   (aA (psN (i:=5) sc_fo2.nd (wX hV (fN hu (pv 3) (aT D_se (hm hr) aX rfl (a7 (pv 0) (a7 (pv 1) aD))) (fun _ _=>rfl)) (pv 2) (c7 _)))
   (aA (cI (PW.pt (pJ (jB (pv 4) (fun _=>rfl)) (nH (jB (pv 5) (fun _=>rfl))))) (aE (aR (pv 1))) bH)
   (aA (cI (jB (pv 5) (fun _=>rfl)) (aE (aR (aT D_lo (hm hr) aX rfl (a7 (pv 1) aD)))) bH)
   (aA (cI (jB (pv 4) (fun _=>rfl)) (aE (aR (aT D_ro (hm hr) aX rfl (a7 (pv 1) aD)))) bH)
   (aE (aR (aT D_o (hm hr) aX rfl (a7 (pv 1) aD))))))))),?_⟩
 refine⟨_,rfl,_,rfl,_,rfl,v,RM.hP r,s0,rfl,hv.c,hs,fun n H1 s1 t1=>?_⟩;obtain⟨na,rfl,ot⟩:=t1;have d1:lG H1 hA (.ref na) (some (.int u)):=by have:=(hT.mono s1).get (p:=RM.aC (RM.hP r) s0) ot;rw[fE,g1]at this;exact this
 refine⟨hA,_,rfl,d1,_,rfl,rfl,?_⟩;refine⟨_,rfl,_,rfl,_,rfl,v,RM.hP r,s0,rfl,(hv.mono s1).c,hs,fun n H2 s2 t2=>?_⟩;obtain⟨ma,rfl,hma⟩:=t2;have d2:lG H2 hA (.ref ma) (some (.int w)):=by have:=(hT.mono (a9.trans s1 s2)).get (p:=RM.aC (RM.hP r) (s0+1)) hma;rw[fE,g2]at this;exact this
 refine⟨hA,_,rfl,d2,_,rfl,rfl,?_⟩;have k:=k H2 (a9.trans s1 s2);unfold RM.zP at k;have du:decide (V.int u=V.int dd)=true↔u=dd:=by rw[decide_eq_true_iff];exact⟨V.int.inj,fun z=>by rw[z]⟩
 have dw:decide (V.int w=V.int dd)=true↔w=dd:=by rw[decide_eq_true_iff];exact⟨V.int.inj,fun z=>by rw[z]⟩
 by_cases cu:u=dd
 ·by_cases cw:w=dd
  ·rw[ah ⟨cu,cw⟩]at k;rw[du.mpr cu,dw.mpr cw];exact⟨_,rfl,_,rfl,_,rfl,_,rfl,_,rfl,k⟩
  ·rw[af (fun z=>cw z.2),af cw,ah cu]at k;have e2:decide (V.int w=V.int dd)=false:=by rw[ij];exact fun z=>cw (dw.mp z)
   rw[du.mpr cu,e2];exact⟨_,rfl,_,rfl,_,rfl,_,rfl,_,rfl,_,rfl,_,rfl,_,rfl,_,rfl,_,rfl,k⟩
 ·by_cases cw:w=dd
  ·rw[af (fun z=>cu z.1),ah cw]at k;have e1:decide (V.int u=V.int dd)=false:=by rw[ij];exact fun z=>cu (du.mp z)
   rw[e1,dw.mpr cw];exact⟨_,rfl,_,rfl,_,rfl,_,rfl,_,rfl,_,rfl,k⟩
  ·rw[af (fun z=>cu z.1),af cw,af cu]at k;have e1:decide (V.int u=V.int dd)=false:=by rw[ij];exact fun z=>cu (du.mp z)
   have e2:decide (V.int w=V.int dd)=false:=by rw[ij];exact fun z=>cw (dw.mp z)
   rw[e1,e2];exact⟨_,rfl,_,rfl,_,rfl,_,rfl,_,rfl,_,rfl,_,rfl,_,rfl,k⟩
abbrev s_fo3:Stmt:=(top 60)
theorem sc_fo3:aM ["depths","heights","facings","half","depth","side"] ["depths","heights"] (aI s_fo3):=fS
theorem L6{h:List Nat}{i:Nat}{p:PI}{v:V}(hp:(IV (RM.bX h))[i]? =some (p,v)):∃r,h[i]? =some r/\p=RM.hP r/\v=.int (RM.aS h (RM.hP r)):=by
 unfold IV RM.bX at hp;rw[ax,ax,ax]at hp;cases e:h[i]? with
 |none=>rw[e]at hp;cases hp
 |some r=>rw[e]at hp;cases hp;exact⟨r,rfl,rfl,rfl⟩
noncomputable def sp_fo3(K:W.Frag)(d:Adr):Sp:=fun vs H Q _=>∃(dA hA:Addr)(h:List Nat)(ht:List (PI×Int)),vs=[.ref dA,.ref hA]/\D2 H dA (IV (RM.bX h))/\D2 H hA (IV ht)/\dA≠hA/\RM.A6 h ht/\(h.map RM.hP).Nodup/\h.length<=1024/\∀r H',a9 H H'->H r=none->D3 H' r (IV (RM.c6 h))->Q (.ref r) H'
theorem ok_fo3(F:Fun K "facings_of" "facings_of" s_fo3 f fd)(T:Txt K mg base d)(D_fo2:aQ P w K mg base CX0 4 "facing_of" ["half","side","depth","heights"] (sp_fo2 K d)):bO P w K mg base CX0 5 f fd ["depths","heights"] (sp_fo3 K d):=by
 refine F.ok sc_fo3 (fun vs H Q E h=>by obtain⟨dA,hA,h,ht,rfl,_⟩:=h;rfl) (fun _ _ _ _ H _ Q E hr h=>?_);have hu:=bK hr;obtain⟨aALL_SIDES,bC,c_ALL_SIDES⟩:=T.bC;obtain⟨dA,hA,h,ht,rfl,hD,hT,nAT,ok,rp,hl,k⟩:=h;refine⟨_,(aA (psN (i:=2) sc_fo3.nd eB)
   (aA (jC (bY PassesOwn.never rfl (vF (pv 0)) (kG rfl (bW (pgN (i:=3) sc_fo3.nd) (bW (pgN (i:=4) sc_fo3.nd) hO))) (aE (bY PassesOwn.never rfl (jD (f6 bC rfl)) (pgN (i:=5) sc_fo3.nd) (aE (fM hu (pv 2) (d4 (a7 (bG bB (pv 3) aL (fun _ _=>rfl)) (a7 (bG bB (pv 3) aL (fun _ _=>rfl)) (a7 (pv 5) aD)))) (aT D_fo2 (hm hr) aX rfl (a7 (pv 3) (a7 (pv 5) (a7 (pv 4) (a7 (pv 1) aD))))) rfl))))))
   (aE (aR (pv 2))))),?_⟩
 refine fun f hf=>?_
 have nc:dA≠f:=aH hD hf;have me:∀od,(upd H dA (.frz od (.dT (kvF k2 (IV (RM.bX h)))))) f=none:=fun od=>fH hD hf
 have Cc:∀od,D2 (upd H dA (.frz od (.dT (kvF k2 (IV (RM.bX h)))))) hA (IV ht):=fun od=>by unfold D2;rw[aB nAT.symm];exact hT
 refine⟨dA,.dT (kvF k2 (IV (RM.bX h))),by rw[aB nc];exact hD,trivial,fun od=>⟨_,rfl,dA,od,_,rfl,a8,vU (d:=dA) (od:=od) (kvs:=kvF k2 (IV (RM.bX h)))
  (fun i σ H2=>∃(v3 v4 v5:Option V),σ=[some (.ref dA),some (.ref hA),some (.ref f),v3,v4,v5]/\a9 (upd H dA (.frz od (.dT (kvF k2 (IV (RM.bX h)))))) H2/\D3 H2 f (IV ((RM.fR ((h.map RM.hP).take i)).map fun t=>(t,RM.e7 h t))))
  ⟨none,none,none,rfl,a9.both (a9.upd hf),by unfold D3;rw[aB nc.symm,a8];rfl⟩ (fun i σ H2 ⟨_,_,_,_,s2,_⟩=>s2 _ _ a8) ?_ ?_⟩⟩
 ·rintro i kk vv q T2' σ H2 hi hq yo ⟨v3,v4,v5,rfl,s2,hF⟩;obtain⟨p,hp,rfl⟩:=tI hi;obtain⟨r,hr',rfl,rfl⟩:=L6 hp;have hp2:(h.map RM.hP)[i]? =some (RM.hP r):=by rw[ax,hr'];rfl
  have sj:=tQ hr';have s3:a9 H2 (upd H2 T2' (.tup [.ref q,.int (RM.aS h (RM.hP r))])):=a9.upd yo;refine⟨T2',_,rfl,SqT.of a8,rfl,_,_,rfl,_,_,rfl,rfl,?_⟩;have Ak:D3 (upd H2 T2' (.tup [.ref q,.int (RM.aS h (RM.hP r))])) f _:=s3 _ _ hF;have vp:=s3 _ _ hq;have zd:=a9.trans s2 s3;generalize (upd H2 T2' (.tup [.ref q,.int (RM.aS h (RM.hP r))]))=H3 at s3 Ak vp zd ⊢;refine⟨_,rfl,⟨_,c_ALL_SIDES _⟩,jP (K:=K) (a:=aALL_SIDES) (xs:=[.int 0,.int 1,.int 2,.int 3]) (fun j σ H4=>∃(v5:Option V),σ=[some (.ref dA),some (.ref hA),some (.ref f),some (.ref q),some (.int (RM.aS h (RM.hP r))),v5]/\a9 (upd H dA (.frz od (.dT (kvF k2 (IV (RM.bX h)))))) H4/\T2 H4 (.ref q) (RM.hP r)/\D3 H4 f (IV ((RM.fR ((h.map RM.hP).take i)++(RM.wM (RM.hP r)).take j).map fun t=>(t,RM.e7 h t))))
   ⟨v5,rfl,zd,⟨q,rfl,vp⟩,by rw[take_zero,dc];exact Ak⟩ (fun i σ H2 _ _=>c_ALL_SIDES H2) ?_ ?_⟩
  ·rintro j x σ H4 hx ⟨v5,rfl,s4,tq,hF⟩;obtain⟨hj,rfl⟩:=j9 hx;refine⟨_,rfl,_,rfl,_,rfl,_,rfl,.ref q,r,j,h,hA,ht,rfl,tq,hj,az hr',R2.mono s4 (Cc od).rd,ok,fun H5 s5=>?_⟩;obtain⟨_,e,hq5⟩:=tq.mono s5;cases e;refine⟨_,rfl,_,rfl,q,_,_,_,rfl,rfl,SqT.of hq5,aU (by decide) rfl,_,rfl,q,_,_,_,rfl,rfl,SqT.of hq5,aU (by decide) rfl,_,rfl,(by show 3<=sizeLine;decide),fun t Cn=>?_⟩;have s6:a9 H5 (upd H5 t (.tup [.int (RM.hP r).1,.int (RM.hP r).2,.int (j:Int)])):=a9.upd Cn;have Dy:D3 (upd H5 t (.tup [.int (RM.hP r).1,.int (RM.hP r).2,.int (j:Int)])) f (IV ((RM.fR ((h.map RM.hP).take i)++(RM.wM (RM.hP r)).take j).map fun t=>(t,RM.e7 h t))):=s6 _ _ (s5 _ _ hF);refine⟨f,_,rfl,D3.put (p:=((RM.hP r).1,(RM.hP r).2,(j:Int))) Dy a8 _ ?_,_,rfl,a9.put (a9.trans s4 (a9.trans s5 s6)) (me od),T2.rG (tq.mono (a9.trans s5 s6)) Dy (by intro _ z;cases z),?_⟩
   ·rw[fD,ag,aj,bw];have h1:=RM.EG (h.map RM.hP) i;rw[ag]at h1;have h2:(RM.wM (RM.hP r)).length=4:=rfl;exact few (m:=5000) (by omega)
   ·unfold D3;rw[a8,qH,RM.fY,RM.EI (RM.hP r) hj]
    ·simp
    ·rw[RM.gU];exact RM.EH rp hp2 hj
  ·rintro σ H4 ⟨v5,rfl,s4,tq,hF⟩;refine⟨_,_,_,rfl,s4,?_⟩;rw[RM.AH hp2];exact hF
 ·rintro σ H2 ⟨v3,v4,v5,rfl,s2,hF⟩;have el:(kvF k2 (IV (RM.bX h))).length=(h.map RM.hP).length:=by rw[f9,fD];unfold RM.bX;rw[ag]
  rw[el,br (ay _)]at hF;exact⟨s2 _ _ a8,_,rfl,k f _ (a9.unlock hD s2) hf (by unfold D3;rw[aB nc.symm];exact hF)⟩
abbrev s_ta:Stmt:=(top 61)
theorem sc_ta:aM ["triangle","across","i","j","side"] ["triangle"] (aI s_ta):=fS
noncomputable def sp_ta(K:W.Frag)(d:Adr):Sp:=fun vs H Q _=>∃(v:V)(t:PI3),vs=[v]/\T3 H v t/\0<=t.2.2/\t.2.2<4/\∀r H',a9 H H'->T3 H' r ((RM.aK (t.1,t.2.1) t.2.2.toNat).1,(RM.aK (t.1,t.2.1) t.2.2.toNat).2,(t.2.2+2)%4)->Q r H'
theorem ok_ta(F:Fun K "triangle_across" "triangle_across" s_ta f fd)(T:Txt K mg base d)(D_b:aQ P w K mg base CX0 2 "beyond" ["place","direction"] (sp_b K d))(D_o:aQ P w K mg base CX0 1 "opposite" ["direction"] (sp_o K d)):bO P w K mg base CX0 3 f fd ["triangle"] (sp_ta K d):=by
 refine F.ok sc_ta (fun vs H Q E h=>by obtain⟨v,t,rfl,_⟩:=h;rfl) (fun _ _ _ _ H _ Q E hr h=>?_);have hu:=bK hr;obtain⟨v,t,rfl,⟨a,rfl,ha⟩,h0,h4,k⟩:=h;refine⟨_,(aA (AW (pv 0) (kG rfl (bW (pgN (i:=2) sc_ta.nd) (bW (pgN (i:=3) sc_ta.nd) (bW (pgN (i:=4) sc_ta.nd) hO)))))
   (aA (psN (i:=1) sc_ta.nd (aT D_b (hm hr) aX rfl (a7 (d4 (a7 (pv 2) (a7 (pv 3) aD))) (a7 (pv 4) aD))))
   (aE (aR (d4 (a7 (bG bB (pv 1) aL (fun _ _=>rfl)) (a7 (bG bB (pv 1) aL (fun _ _=>rfl)) (a7 (aT D_o (hm hr) aX rfl (a7 (pv 4) aD)) aD)))))))),?_⟩
 refine⟨_,rfl,a,_,rfl,SqT.of ha,rfl,_,_,rfl,_,_,rfl,_,_,rfl,rfl,?_⟩;refine⟨_,rfl,_,rfl,(by show 2<=sizeLine;decide),fun b hb=>?_⟩;have s1:a9 H (upd H b (.tup [.int t.1,.int t.2.1])):=a9.upd hb;refine⟨_,rfl,.ref b,(t.1,t.2.1),t.2.2.toNat,congrArg (fun z=>[V.ref b,V.int z]) (fj h0).symm,T2.c ⟨b,rfl,a8⟩,by omega,fun n H2 s2 t2=>?_⟩;obtain⟨na,rfl,ot⟩:=t2;refine⟨_,rfl,na,_,_,_,rfl,rfl,SqT.of ot,aU (by decide) rfl,_,rfl,na,_,_,_,rfl,rfl,SqT.of ot,aU (by decide) rfl,_,rfl,_,rfl,(by show 3<=sizeLine;decide),fun c hc=>?_⟩;exact k _ _ (a9.trans s1 (a9.trans s2 (a9.upd hc))) ⟨c,rfl,a8⟩
abbrev s_tol:Stmt:=(top 62)
theorem sc_tol:aM ["triangle","i","j","side"] ["triangle"] (aI s_tol):=fS
noncomputable def sp_tol(K:W.Frag)(d:Adr):Sp:=fun vs H Q _=>∃(v:V)(t:PI3),vs=[v]/\T3 H v t/\∀r H',a9 H H'->T3 H' r (t.1,t.2.1,(t.2.2+1)%4)->Q r H'
theorem ok_tol(F:Fun K "triangle_on_left" "triangle_on_left" s_tol f fd)(T:Txt K mg base d)(D_lo:aQ P w K mg base CX0 1 "left_of" ["direction"] (sp_lo K d)):bO P w K mg base CX0 2 f fd ["triangle"] (sp_tol K d):=by
 refine F.ok sc_tol (fun vs H Q E h=>by obtain⟨v,t,rfl,_⟩:=h;rfl) (fun _ _ _ _ H _ Q E hr h=>?_);have hu:=bK hr;obtain⟨v,t,rfl,⟨a,rfl,ha⟩,k⟩:=h;refine⟨_,(aA (AW (pv 0) (kG rfl (bW (pgN (i:=1) sc_tol.nd) (bW (pgN (i:=2) sc_tol.nd) (bW (pgN (i:=3) sc_tol.nd) hO)))))
   (aE (aR (d4 (a7 (pv 1) (a7 (pv 2) (a7 (aT D_lo (hm hr) aX rfl (a7 (pv 3) aD)) aD))))))),?_⟩
 refine⟨_,rfl,a,_,rfl,SqT.of ha,rfl,_,_,rfl,_,_,rfl,_,_,rfl,rfl,?_⟩;refine⟨_,rfl,_,rfl,_,rfl,_,rfl,(by show 3<=sizeLine;decide),fun c hc=>?_⟩;exact k _ _ (a9.upd hc) ⟨c,rfl,a8⟩
abbrev s_tor:Stmt:=(top 63)
theorem sc_tor:aM ["triangle","i","j","side"] ["triangle"] (aI s_tor):=fS
noncomputable def sp_tor(K:W.Frag)(d:Adr):Sp:=fun vs H Q _=>∃(v:V)(t:PI3),vs=[v]/\T3 H v t/\∀r H',a9 H H'->T3 H' r (t.1,t.2.1,(t.2.2+3)%4)->Q r H'
theorem ok_tor(F:Fun K "triangle_on_right" "triangle_on_right" s_tor f fd)(T:Txt K mg base d)(D_ro:aQ P w K mg base CX0 1 "right_of" ["direction"] (sp_ro K d)):bO P w K mg base CX0 2 f fd ["triangle"] (sp_tor K d):=by
 refine F.ok sc_tor (fun vs H Q E h=>by obtain⟨v,t,rfl,_⟩:=h;rfl) (fun _ _ _ _ H _ Q E hr h=>?_);have hu:=bK hr;obtain⟨v,t,rfl,⟨a,rfl,ha⟩,k⟩:=h;refine⟨_,(aA (AW (pv 0) (kG rfl (bW (pgN (i:=1) sc_tor.nd) (bW (pgN (i:=2) sc_tor.nd) (bW (pgN (i:=3) sc_tor.nd) hO)))))
   (aE (aR (d4 (a7 (pv 1) (a7 (pv 2) (a7 (aT D_ro (hm hr) aX rfl (a7 (pv 3) aD)) aD))))))),?_⟩
 refine⟨_,rfl,a,_,rfl,SqT.of ha,rfl,_,_,rfl,_,_,rfl,_,_,rfl,rfl,?_⟩;refine⟨_,rfl,_,rfl,_,rfl,_,rfl,(by show 3<=sizeLine;decide),fun c hc=>?_⟩;exact k _ _ (a9.upd hc) ⟨c,rfl,a8⟩
abbrev s_nf:Stmt:=(top 64)
theorem sc_nf:aM ["first","number","facings","numbers","facing","waiting","triangle"] ["first","number","facings","numbers"] (aI s_nf):=fS
noncomputable def sp_nf(K:W.Frag)(d:Adr):Sp:=fun vs H Q _=>∃(v:V)(n:Int)(fA nA:Addr)(fac kl:List (PI3×Int))(t0:PI3),vs=[v,.int n,.ref fA,.ref nA]/\T3 H v t0/\R3 H fA (IV fac)/\D3 H nA (IV kl)/\fA≠nA/\(∀t z,RM.aN fac t=some z->0<=t.2.2/\t.2.2<4)/\(RM.aN fac t0).isSome=true/\RM.aN kl t0=none/\fac.length<=4096/\(kl.map (·.1)).Nodup/\(∀t∈kl.map (·.1),t∈fac.map (·.1))/\∀(N:List PI3)(H':Hp),But nA H H'->D3 H' nA (IV (kl++N.map fun p=>(p,n)))->N.Nodup->(∀p,p∈N↔RM.Rch (RM.okT (RM.aN fac) t0) RM.nbP (RM.isN (RM.aN kl)) t0 p)->Q .non H'
theorem ok_nf(F:Fun K "number_face" "number_face" s_nf f fd)(T:Txt K mg base d)(D_tol:aQ P w K mg base CX0 2 "triangle_on_left" ["triangle"] (sp_tol K d))(D_tor:aQ P w K mg base CX0 2 "triangle_on_right" ["triangle"] (sp_tor K d))(D_ta:aQ P w K mg base CX0 3 "triangle_across" ["triangle"] (sp_ta K d)):bO P w K mg base CX0 4 f fd ["first","number","facings","numbers"] (sp_nf K d):=by
 refine F.ok sc_nf (fun vs H Q E h=>by obtain⟨v,n,fA,nA,fac,kl,t0,rfl,_⟩:=h;rfl) (fun _ _ _ _ H _ Q E hr h=>?_);have hu:=bK hr;obtain⟨v,n,fA,nA,fac,kl,t0,rfl,⟨a0,rfl,ha0⟩,hF,hN,nFN,Co,h0s,h0n,km,nnd,nsub,k⟩:=h;obtain⟨fz,hfz⟩:∃fz,RM.aN fac t0=some fz:=by
  cases e:RM.aN fac t0 with
  |none=>rw[e]at h0s;cases h0s
  |some z=>exact⟨z,rfl⟩
 have hFb:∀H',But nA H H'->R3 H' fA (IV fac):=fun H' e=>by
  rcases hF with h|⟨o,h⟩
  ·exact .inl (e _ _ nFN h)
  ·exact .inr ⟨o,e _ _ nFN h⟩
 have d0:lG H fA (.ref a0) (some (.int fz)):=by have:=hF.get (p:=t0) ha0;rw[fE,hfz]at this;exact this
 refine⟨_,(aA (psN (i:=4) sc_nf.nd (fN hu (pv 2) (pv 0) (fun _ _=>rfl)))
   (aA (psN (i:=5) sc_nf.nd (eZ (a7 (pv 0) aD)))
   (aE (iV PassesOwn.never (sW (pv 5) (fun _=>rfl)) (aA (psN (i:=6) sc_nf.nd (AZ PySem.F.plainAttrs_list PySem.F.slot_list_pop PySem.F.type_list_pop B9 (pv 5)))
   (aE (cI (PW.pt (pJ (bU hV (HJ hu (pv 2) (pv 6) ⟨rfl,rfl,rfl,rfl⟩) (pv 4) (c7 _)) (nH (eS (d5 hu (pv 6) (pv 3)))))) (aA (fM hu (pv 3) (pv 6) (pv 1) rfl)
   (aA (cZ (gQ PySem.F.plainAttrs_list PySem.F.slot_list_append PySem.F.type_list_append cC (pv 5) (a7 (aT D_tol (hm hr) aX rfl (a7 (pv 6) aD)) aD)))
   (aA (cZ (gQ PySem.F.plainAttrs_list PySem.F.slot_list_append PySem.F.type_list_append cC (pv 5) (a7 (aT D_tor (hm hr) aX rfl (a7 (pv 6) aD)) aD)))
   (aE (cZ (gQ PySem.F.plainAttrs_list PySem.F.slot_list_append PySem.F.type_list_append cC (pv 5) (a7 (aT D_ta (hm hr) aX rfl (a7 (pv 6) aD)) aD))))))) bH))))))),?_⟩
 refine⟨_,rfl,_,rfl,fA,_,rfl,d0,_,rfl,(by show 1<=sizeLine;decide),fun w hw=>?_⟩;have Bw:w≠nA:=(aH hN hw).symm;have s1:a9 H (upd H w (.lst [.ref a0])):=a9.upd hw;dsimp only[iB,AK,AL,tC];refine iS (fun σ H2=>∃(xs:List V)(ws N:List PI3)(v6:Option V),σ=[some (.ref a0),some (.int n),some (.ref fA),some (.ref nA),some (.int fz),some (.ref w),v6]/\But nA H H2/\H2 w=some (.lst xs)/\Paired (T3 H2) xs ws/\D3 H2 nA (IV (kl++N.map fun p=>(p,n)))/\RM.gI (RM.okT (RM.aN fac) t0) RM.nbP (RM.isN (RM.aN kl)) t0 N ws/\N.Nodup/\(∀p∈N,(RM.aN fac p).isSome=true/\RM.aN kl p=none)/\xs.length<=1+3*N.length)
  (fun _ H2=>nX H2 w+4*(10000 - m8 H2 nA))
  ⟨[.ref a0],[t0],[],none,rfl,a9.but s1,a8,.cons ⟨a0,rfl,s1 _ _ ha0⟩ .nil,by rw[ja,dc];exact s1 _ _ hN,RM.gI.first,nodup_nil,fun p hp=>(by cases hp),by simp⟩ ?_ (fun _ _ _ _ f ⟨v,e,k,t,q⟩=>⟨v,e,k,t,f _ _ q⟩)
 rintro σ H2 ⟨xs,ws,N,v6,rfl,b2,h2,pr,hD,sr,Nnd,Nin,lxs⟩;have yf:(kl++N.map fun p=>(p,n)).map (·.1)=kl.map (·.1)++N:=by rw[cg];congr 1;rw[fu];exact map_id N
 have tot:kl.length+N.length<=4096:=by
  have hnd2:(kl.map (·.1)++N).Nodup:=by rw[cv];exact⟨nnd,Nnd,fun a ha b hb e=>RM.m5.mp (Nin b hb).2 (e▸ha)⟩
  have:=RM.cO hnd2 (b:=fac.map (·.1)) fun p hp=>by
   rcases aw.mp hp with hp|hp
   ·exact nsub p hp
   ·exact(RM.aW p fac).mp (Nin p hp).1
  rw[aj,ag,ag]at this;omega
 refine⟨_,rfl,_,.inl ⟨_,SqL.of h2,rfl⟩,?_⟩;refine cB (fun cq=>?_) (fun cq=>?_)
 ·have kb:xs≠[]:=by intro z;rw[z]at cq;cases cq
  have hpos:0<xs.length:=gr.mpr kb;obtain⟨y,hy⟩:∃y,xs[xs.length - 1]? =some y:=⟨_,bf (by omega)⟩
  obtain⟨q,hq,ty⟩:=pairs_at pr hy;have ews:=KH (pairs_len pr).symm hq;refine⟨_,rfl,.inl ⟨rfl,_,SqL.of h2⟩,w,xs,y,rfl,rfl,h2,hy,?_⟩;have b4:But nA H (upd H2 w (.lst xs.dropLast)):=b2.put hw;have wt:Paired (T3 (upd H2 w (.lst xs.dropLast))) xs.dropLast ws.dropLast:=aJ (fun _ _ z=>z.upd h2) (f7 pr);have lu:D3 (upd H2 w (.lst xs.dropLast)) nA (IV (kl++N.map fun p=>(p,n))):=by unfold D3;rw[aB Bw.symm];exact hD
  have Bn:T3 (upd H2 w (.lst xs.dropLast)) y q:=ty.upd h2;have h4:(upd H2 w (.lst xs.dropLast)) w=some (.lst xs.dropLast):=a8;have ml:nX H2 w=xs.length:=lU h2;have mt:m8 H2 nA=kl.length+N.length:=by rw[II hD,fD,aj,ag]
  generalize (upd H2 w (.lst xs.dropLast))=H4 at b4 wt lu Bn h4 ⊢;rw[ews]at sr;obtain⟨ya,rfl,uw⟩:=Bn;have ld:xs.dropLast.length=xs.length - 1:=gy ..;have less:nX H4 w+4*(10000 - m8 H4 nA)<nX H2 w+4*(10000 - m8 H2 nA):=by rw[ml,mt,lU h4,II lu,fD,aj,ag,ld];omega
  have o0:RM.okT (RM.aN fac) t0 t0:=rfl;have u0:¬RM.isN (RM.aN kl) t0:=by unfold RM.isN;rw[h0n];intro z;cases z
  have skip:(¬RM.okT (RM.aN fac) t0 q\/RM.isN (RM.aN kl) q\/q∈N)->∃(rb:List V)(ws' N':List PI3)(v6':Option V),([some (.ref a0),some (.int n),some (.ref fA),some (.ref nA),some (.int fz),some (.ref w),some (.ref ya)]:List (Option V))=[some (.ref a0),some (.int n),some (.ref fA),some (.ref nA),some (.int fz),some (.ref w),v6']/\But nA H H4/\H4 w=some (.lst rb)/\Paired (T3 H4) rb ws'/\D3 H4 nA (IV (kl++N'.map fun p=>(p,n)))/\RM.gI (RM.okT (RM.aN fac) t0) RM.nbP (RM.isN (RM.aN kl)) t0 N' ws'/\N'.Nodup/\(∀p∈N',(RM.aN fac p).isSome=true/\RM.aN kl p=none)/\rb.length<=1+3*N'.length:=
   fun z=>⟨xs.dropLast,ws.dropLast,N,some (.ref ya),rfl,b4,h4,wt,lu,sr.pop o0 u0 z,Nnd,Nin,by omega⟩
  have gq:=(hFb H4 b4).get (p:=q) uw;rw[fE]at gq;cases eq:RM.aN fac q with
  |none=>rw[eq]at gq;refine⟨_,rfl,fA,rfl,.inr ⟨_,hFb H4 b4⟩,_,rfl,_,gq,_,rfl,rfl,_,rfl,?_⟩;refine⟨skip (.inl fun z=>?_),less⟩;have z:RM.aN fac q=RM.aN fac t0:=z;rw[eq,hfz]at z;cases z
  |some z=>
   rw[eq]at gq;refine⟨_,rfl,fA,rfl,.inr ⟨_,hFb H4 b4⟩,_,rfl,_,gq,_,rfl,rfl,_,rfl,?_⟩;refine cB (fun c1=>?_) (fun c1=>IP ⟨skip (.inl fun z'=>c1 (decide_eq_true ?_)),less⟩)
   ·have c1:z=fz:=V.int.inj (bb c1);have okq:RM.okT (RM.aN fac) t0 q:=by
     show RM.aN fac q=RM.aN fac t0
     rw[eq,hfz,c1]
    refine⟨_,rfl,_,rfl,nA,_,rfl,R3.get (p:=q) lu.rd uw,_,rfl,?_⟩;rw[DZ];refine cB (fun c2=>?_) (fun c2=>?_)
    ·have c2:q∉ (kl++N.map fun p=>(p,n)).map (·.1):=fun z=>by rw[(RM.aW q _).mpr z]at c2;cases c2
     have c3:q∉kl.map (·.1)/\q∉N:=by rw[yf]at c2;exact⟨fun z=>c2 (cc _ z),fun z=>c2 (bh _ z)⟩
     have nq:=RM.m5.mpr c3.1;have uq:¬RM.isN (RM.aN kl) q:=by unfold RM.isN;rw[nq];intro z;cases z
     have sr5:=sr.push okq uq;obtain⟨sd0,sd4⟩:=Co q z eq;refine⟨_,rfl,_,rfl,_,rfl,nA,_,rfl,D3.put lu uw _ (by rw[fD,aj,ag];exact few (m:=5000) (by omega)),?_⟩;rw[qH,RM.fY _ c2];have eN:kl++N.map (fun p=>(p,n))++[(q,n)]=kl++(N++[q]).map fun p=>(p,n):=by simp
     rw[eN];have xr:H4 nA=some (.dT (kvF k3 (IV (kl++N.map fun p=>(p,n))))):=lu;have tK:∀{v:V}{p:PI3},T3 H4 v p->T3 (upd H4 nA (.dT (kvF k3 (IV (kl++(N++[q]).map fun p=>(p,n)))))) v p:=fun t=>t.rG xr (by intro _ z;cases z)
     have b5:But nA H (upd H4 nA (.dT (kvF k3 (IV (kl++(N++[q]).map fun p=>(p,n)))))):=b4.here;have h5:(upd H4 nA (.dT (kvF k3 (IV (kl++(N++[q]).map fun p=>(p,n)))))) w=some (.lst xs.dropLast):=by rw[aB Bw];exact h4
     have yb:=aJ (fun _ _ t=>tK t) wt;have ty5:=tK ⟨ya,rfl,uw⟩;have mw:D3 (upd H4 nA (.dT (kvF k3 (IV (kl++(N++[q]).map fun p=>(p,n)))))) nA (IV (kl++(N++[q]).map fun p=>(p,n))):=a8;generalize (upd H4 nA (.dT (kvF k3 (IV (kl++(N++[q]).map fun p=>(p,n))))))=H5 at b5 h5 yb ty5 mw ⊢;refine⟨_,rfl,.inl ⟨rfl,_,SqL.of h5⟩,_,rfl,.ref ya,q,rfl,ty5,fun r1 H6 s6 t6=>?_⟩;have h6:=s6 _ _ h5;refine⟨w,xs.dropLast,r1,rfl,rfl,h6,few (m:=20000) (by omega),?_⟩;have b7:But nA H (upd H6 w (.lst (xs.dropLast++[r1]))):=(b5.trans (a9.but s6)).put hw;have pr7:Paired (T3 (upd H6 w (.lst (xs.dropLast++[r1])))) (xs.dropLast++[r1]) (ws.dropLast++[(q.1,q.2.1,(q.2.2+1)%4)]):=aY (t6.upd h6) (aJ (fun _ _ t=>(t.mono s6).upd h6) yb);have ty7:T3 (upd H6 w (.lst (xs.dropLast++[r1]))) (.ref ya) q:=(ty5.mono s6).upd h6;have Bi:D3 (upd H6 w (.lst (xs.dropLast++[r1]))) nA (IV (kl++(N++[q]).map fun p=>(p,n))):=by unfold D3;rw[aB Bw.symm];exact s6 _ _ mw
     have h7:(upd H6 w (.lst (xs.dropLast++[r1]))) w=some (.lst (xs.dropLast++[r1])):=a8;generalize (upd H6 w (.lst (xs.dropLast++[r1])))=H7 at b7 pr7 ty7 Bi h7 ⊢;refine⟨_,rfl,.inl ⟨rfl,_,SqL.of h7⟩,_,rfl,.ref ya,q,rfl,ty7,fun r2 H8 s8 t8=>?_⟩;have h8:=s8 _ _ h7;refine⟨w,_,r2,rfl,rfl,h8,few (m:=20000) (by rw[aj];simp;omega),?_⟩;have b9:But nA H (upd H8 w (.lst (xs.dropLast++[r1]++[r2]))):=(b7.trans (a9.but s8)).put hw;have pr9:=aY (t8.upd (o:=.lst (xs.dropLast++[r1]++[r2])) h8) (aJ (fun _ _ t=>(t.mono s8).upd h8) pr7);have ty9:T3 (upd H8 w (.lst (xs.dropLast++[r1]++[r2]))) (.ref ya) q:=(ty7.mono s8).upd h8;have Bh:D3 (upd H8 w (.lst (xs.dropLast++[r1]++[r2]))) nA (IV (kl++(N++[q]).map fun p=>(p,n))):=by unfold D3;rw[aB Bw.symm];exact s8 _ _ Bi
     have h9:(upd H8 w (.lst (xs.dropLast++[r1]++[r2]))) w=some (.lst (xs.dropLast++[r1]++[r2])):=a8;generalize (upd H8 w (.lst (xs.dropLast++[r1]++[r2])))=H9 at b9 pr9 ty9 Bh h9 ⊢;refine⟨_,rfl,.inl ⟨rfl,_,SqL.of h9⟩,_,rfl,.ref ya,q,rfl,ty9,sd0,sd4,fun r3 HA sA tA=>?_⟩;have hA:=sA _ _ h9;have hDA:D3 (upd HA w (.lst (xs.dropLast++[r1]++[r2]++[r3]))) nA (IV (kl++(N++[q]).map fun p=>(p,n))):=by unfold D3;rw[aB Bw.symm];exact sA _ _ Bh
     refine⟨w,_,r3,rfl,rfl,hA,few (m:=20000) (by rw[aj,aj];simp;omega),⟨_,_,N++[q],_,rfl,(b9.trans (a9.but sA)).put hw,a8,aY (tA.upd hA) (aJ (fun _ _ t=>(t.mono sA).upd hA) pr9),hDA,?_,?_,?_,?_⟩,?_⟩
     ·have e:ws.dropLast++RM.nbP q=ws.dropLast++[(q.1,q.2.1,(q.2.2+1)%4)]++[(q.1,q.2.1,(q.2.2+3)%4)]++[((RM.aK (q.1,q.2.1) q.2.2.toNat).1,(RM.aK (q.1,q.2.1) q.2.2.toNat).2,(q.2.2+2)%4)]:=by unfold RM.nbP;simp
      rw[e]at sr5;exact sr5
     ·rw[cv];exact⟨Nnd,by simp,fun a ha b hb e=>c3.2 (by simp at hb;rw[<- hb,<- e];exact ha)⟩
     ·intro p hp;rcases aw.mp hp with hp|hp
      ·exact Nin p hp
      ·have:p=q:=by simpa using hp
       rw[this];exact⟨by rw[eq];rfl,nq⟩
     ·simp only[aj,bq,fg];omega
     ·rw[ml,mt,lU a8,II hDA,fD];simp only[aj,ag,bq,fg];omega
    ·have c2:q∈kl.map (·.1)++N:=by
      rw[<- yf];refine(RM.aW q _).mp ?_;cases e:(RM.aN (kl++N.map fun p=>(p,n)) q).isSome with
      |true=>rfl
      |false=>rw[e]at c2;exact absurd rfl c2
     refine⟨skip (.inr ?_),less⟩;rcases aw.mp c2 with z|z
     ·exact .inl ((RM.aW q kl).mpr z)
     ·exact .inr z
   ·have z':RM.aN fac q=RM.aN fac t0:=z';rw[eq,hfz]at z';rw[Option.some.inj z'];rfl
 ·have e:xs=[]:=by
   cases xs with
   |nil=>rfl
   |cons _ _=>exact absurd rfl cq
  subst e;cases pr;exact k N H2 b2 hD Nnd fun p=>sr.done p
abbrev s_no:Stmt:=(top 65)
theorem sc_no:aM ["facings","numbers","count","triangle"] ["facings"] (aI s_no):=fS
noncomputable def sp_no(K:W.Frag)(d:Adr):Sp:=fun vs H Q _=>∃(fA:Addr)(h:List Nat),vs=[.ref fA]/\D3 H fA (IV (RM.c6 h))/\(∀r∈h,RM.okR r)/\h.length<=1024/\∀r Ns H',a9 H H'->H r=none->D3 H' r (IV (RM.aF 0 Ns))->RM.Numbering h (Roof.trianglesOf h).length Ns->Q (.ref r) H'
theorem ok_no(F:Fun K "numbers_of" "numbers_of" s_no f fd)(T:Txt K mg base d)(D_nf:aQ P w K mg base CX0 4 "number_face" ["first","number","facings","numbers"] (sp_nf K d)):bO P w K mg base CX0 5 f fd ["facings"] (sp_no K d):=by
 refine F.ok sc_no (fun vs H Q E h=>by obtain⟨fA,h,rfl,_⟩:=h;rfl) (fun _ _ _ _ H _ Q E hr h=>?_);have hu:=bK hr;obtain⟨fA,h,rfl,hF,hok,hl,k⟩:=h;have tl:=RM.xX h;have kh:(Roof.trianglesOf h).length<Roof.NONE:=by unfold Roof.NONE;omega
 have fl:(RM.c6 h).length<=4096:=by have:=congrArg List.length (RM.gM h);rw[ag,ag]at this;omega
 refine⟨_,(aA (psN (i:=1) sc_no.nd eB)
   (aA (psN (i:=2) sc_no.nd aL)
   (aA (jC (bY PassesOwn.never rfl (lO (pv 0)) (pgN (i:=3) sc_no.nd) (aE (cI (eS (d5 hu (pv 3) (pv 1))) (aA (cZ (aT D_nf (hm hr) aX rfl (a7 (pv 3) (a7 (pv 2) (a7 (pv 0) (a7 (pv 1) aD))))))
   (aE (GZ (i:=2) sc_no.nd rfl (Or.inl rfl) aL BN))) bH))))
   (aE (aR (pv 1)))))),?_⟩
 refine fun f hf=>?_
 have nc:fA≠f:=aH hF hf;have me:∀od,(upd H fA (.frz od (.dT (kvF k3 (IV (RM.c6 h)))))) f=none:=fun od=>fH hF hf
 refine⟨fA,.dT (kvF k3 (IV (RM.c6 h))),by rw[aB nc];exact hF,trivial,fun od=>⟨_,rfl,fA,od,rfl,.inr ⟨_,a8,kP (d:=fA) (od:=od) (kvs:=kvF k3 (IV (RM.c6 h)))
  (fun i σ H2=>∃(Ns:List (List PI3))(v3:Option V),σ=[some (.ref fA),some (.ref f),some (.int (Ns.length:Nat)),v3]/\a9 (upd H fA (.frz od (.dT (kvF k3 (IV (RM.c6 h)))))) H2/\D3 H2 f (IV (RM.aF 0 Ns))/\RM.Numbering h i Ns)
  ⟨[],none,rfl,a9.both (a9.upd hf),by unfold D3;rw[aB nc.symm,a8];rfl,RM.Numbering.start hok⟩ (fun i σ H2 ⟨_,_,_,s2,_⟩=>s2 _ _ a8) ?_ ?_⟩⟩⟩
 ·rintro i kk vv q σ H2 hi hq ⟨Ns,v3,rfl,s2,hD,R⟩;obtain⟨t,ht,rfl⟩:=BJ hi;obtain⟨tn,Bb,rfl⟩:∃tn,(Roof.trianglesOf h)[i]? =some tn/\t=RM.tP tn:=by
   have:=congrArg (Option.map Prod.fst) ht;rw[<- ax,rQ,RM.gM,ax]at this;cases e:(Roof.trianglesOf h)[i]? with
   |none=>rw[e]at this;cases this
   |some tn=>rw[e]at this;exact⟨tn,rfl,(Option.some.inj this).symm⟩
  have hm:=az Bb;refine⟨_,rfl,_,rfl,f,_,rfl,R3.get (p:=RM.tP tn) hD.rd hq,_,rfl,?_⟩;rw[DZ];refine cB (fun c1=>?_) (fun c1=>?_)
  ·have c1:RM.aN (RM.aF 0 Ns) (RM.tP tn)=none:=by
    cases e:RM.aN (RM.aF 0 Ns) (RM.tP tn)with
    |none=>rfl
    |some z=>rw[e]at c1;cases c1
   obtain⟨ki,lr,O,_,_⟩:=R.ex;have ku:=RM.DK hok tn hm;refine⟨_,rfl,_,rfl,_,rfl,_,rfl,.ref q,(Ns.length:Int),fA,f,RM.c6 h,RM.aF 0 Ns,RM.tP tn,rfl,⟨q,rfl,hq⟩,.inr ⟨od,s2 _ _ a8⟩,hD,nc,fun t z e=>RM.FK e,by rw[ku];rfl,c1,fl,by rw[RM.bF];exact O.nd,fun t ht=>by rw[RM.bF]at ht;rw[RM.gM];exact O.sub t ht,fun N H3 b3 mx nd3 hN=>?_⟩;have s3:a9 (upd H fA (.frz od (.dT (kvF k3 (IV (RM.c6 h)))))) H3:=But.same b3 s2 (me od);refine⟨_,rfl,_,_,rfl,rfl,Ns++[N],some (.ref q),?_,s3,by rw[RM.iY];exact mx,R.face hok (fun t ht=>RM.DK hok t ht) (fun p hp=>RM.zN h p hp) kh Bb c1 hN nd3⟩;have el:((Ns++[N]).length:Int)=(Ns.length:Int)+1:=by rw[aj];simp
   rw[el];rfl
  ·have c1:(RM.aN (RM.aF 0 Ns) (RM.tP tn)).isSome=true:=by
    cases e:(RM.aN (RM.aF 0 Ns) (RM.tP tn)).isSome with
    |true=>rfl
    |false=>rw[e]at c1;exact absurd rfl c1
   exact⟨Ns,_,rfl,s2,hD,R.skip Bb c1⟩
 ·rintro σ H2 ⟨Ns,v3,rfl,s2,hD,R⟩;have el:(kvF k3 (IV (RM.c6 h))).length=(Roof.trianglesOf h).length:=by have:=congrArg List.length (RM.gM h);rw[ag,ag]at this;rw[f9,fD,this]
  rw[el]at R;exact⟨s2 _ _ a8,_,rfl,k f Ns _ (a9.unlock hF s2) hf (by unfold D3;rw[aB nc.symm];exact hD) R⟩
abbrev s_fo:Stmt:=(top 66)
theorem sc_fo:aM ["numbers","faces","triangle","number"] ["numbers"] (aI s_fo):=fS
noncomputable def sp_fo(K:W.Frag)(d:Adr):Sp:=fun vs H Q _=>∃(nA:Addr)(Ns:List (List PI3)),vs=[.ref nA]/\D3 H nA (IV (RM.aF 0 Ns))/\(∀N∈Ns,N≠[])/\(RM.aF 0 Ns).length<=4096/\∀r H',a9 H H'->H r=none->LLS H' r Ns->Q (.ref r) H'
theorem ok_fo(F:Fun K "faces_of" "faces_of" s_fo f fd)(T:Txt K mg base d):bO P w K mg base CX0 1 f fd ["numbers"] (sp_fo K d):=by
 refine F.ok sc_fo (fun vs H Q E h=>by obtain⟨nA,Ns,rfl,_⟩:=h;rfl) (fun _ _ _ _ H _ Q E hr h=>?_);have hu:=bK hr;obtain⟨nA,Ns,rfl,hN,kb,hl,k⟩:=h;refine⟨_,(aA (psN (i:=1) sc_fo.nd (eZ aD))
   (aA (jC (bY PassesOwn.never rfl (vF (pv 0)) (kG rfl (bW (pgN (i:=2) sc_fo.nd) (bW (pgN (i:=3) sc_fo.nd) hO))) (aA (cI (bU hV (pv 3) (bR bP (by rfl) T.len PySem.boot_len (a7 (pv 1) aD)) (c7 _)) (aE (cZ (gQ PySem.F.plainAttrs_list PySem.F.slot_list_append PySem.F.type_list_append cC (pv 1) (a7 (eZ aD) aD)))) bH)
   (aE (cZ (gQ PySem.F.plainAttrs_list PySem.F.slot_list_append PySem.F.type_list_append cC (bG iA (pv 1) (pv 3) (fun _ _=>rfl)) (a7 (pv 2) aD)))))))
   (aE (aR (pv 1))))),?_⟩
 refine⟨cj _,fun f hf=>?_⟩;have nc:nA≠f:=aH hN hf;have me:∀od,(upd H nA (.frz od (.dT (kvF k3 (IV (RM.aF 0 Ns)))))) f=none:=fun od=>fH hN hf
 refine⟨nA,.dT (kvF k3 (IV (RM.aF 0 Ns))),by rw[aB nc];exact hN,trivial,fun od=>⟨_,rfl,nA,od,_,rfl,a8,vU (d:=nA) (od:=od) (kvs:=kvF k3 (IV (RM.aF 0 Ns)))
  (fun i σ H2=>∃(bs:List Addr)(Fs:List (List PI3))(v2 v3:Option V),σ=[some (.ref nA),some (.ref f),v2,v3]/\a9 (upd H nA (.frz od (.dT (kvF k3 (IV (RM.aF 0 Ns)))))) H2/\H2 f=some (.lst (bs.map V.ref))/\Paired (LS H2) bs Fs/\(f::bs).Nodup/\(∀b∈bs,(upd H nA (.frz od (.dT (kvF k3 (IV (RM.aF 0 Ns)))))) b=none)/\RM.qG Ns i Fs)
  ⟨[],[],none,none,rfl,a9.both (a9.upd hf),by rw[aB nc.symm,a8];rfl,.nil,by simp,fun b hb=>(by cases hb),RM.qG.start Ns⟩ (fun i σ H2 ⟨_,_,_,_,_,s2,_⟩=>s2 _ _ a8) ?_ ?_⟩⟩
 ·rintro i kk vv q T' σ H2 hi hq hT' ⟨bs,Fs,v2,v3,rfl,s2,hf2,pr,nd,fr,pre⟩;obtain⟨t,ht,rfl⟩:=BJ hi;obtain⟨m,hm,rfl⟩:∃m,(RM.aF 0 Ns)[i]? =some (t,m)/\vv=.int m:=by
   unfold IV at ht;rw[ax]at ht;cases e:(RM.aF 0 Ns)[i]? with
   |none=>rw[e]at ht;cases ht
   |some x=>rw[e]at ht;cases ht;exact⟨x.2,rfl,rfl⟩
  have s3:a9 H2 (upd H2 T' (.tup [.ref q,.int m])):=a9.upd hT';refine⟨T',_,rfl,SqT.of a8,rfl,_,_,rfl,_,_,rfl,rfl,?_⟩;have zd:=a9.trans s2 s3;have Ag:=s3 _ _ hf2;have Ar:T3 (upd H2 T' (.tup [.ref q,.int m])) (.ref q) t:=⟨q,rfl,s3 _ _ hq⟩;have oq:=aJ (fun _ _ z=>LS.mono s3 z) pr;generalize (upd H2 T' (.tup [.ref q,.int m]))=H3 at s3 zd Ag Ar oq ⊢;have sj:=tQ hm;have lb:=pairs_len pr;have lFs:Fs.length<=4096:=by have h1:=RM.kU pre.ne;have h2:=congrArg List.length (RM.bF Fs 0);rw[ag,pre.eq,bw]at h2;omega
  have fin:∀(H5:Hp)(cs:List Addr)(b:Addr)(F:List (List PI3))(L:List PI3),a9 (upd H nA (.frz od (.dT (kvF k3 (IV (RM.aF 0 Ns)))))) H5->H5 f=some (.lst ((cs++[b]).map V.ref))->Paired (LS H5) cs F->LS H5 b L->(f::(cs++[b])).Nodup->(∀c∈cs++[b],(upd H nA (.frz od (.dT (kvF k3 (IV (RM.aF 0 Ns)))))) c=none)->T3 H5 (.ref q) t->m=(F.length:Int)->RM.qG Ns (i+1) (F++[L++[t]]) ->
    ∃ys,H5 b=some (.lst ys)/\ys.length<=4096/\((cs++[b]).map V.ref)[m.toNat]? =some (.ref b)/\∃(bs:List Addr)(Fs:List (List PI3))(v2 v3:Option V),([some (.ref nA),some (.ref f),some (.ref q),some (.int m)]:List (Option V))=[some (.ref nA),some (.ref f),v2,v3]/\a9 (upd H nA (.frz od (.dT (kvF k3 (IV (RM.aF 0 Ns)))))) (upd H5 b (.lst (ys++[.ref q])))/\(upd H5 b (.lst (ys++[.ref q]))) f=some (.lst (bs.map V.ref))/\Paired (LS (upd H5 b (.lst (ys++[.ref q])))) bs Fs/\(f::bs).Nodup/\(∀b∈bs,(upd H nA (.frz od (.dT (kvF k3 (IV (RM.aF 0 Ns)))))) b=none)/\RM.qG Ns (i+1) Fs:=by
   intro H5 cs b F L s5 hf5 pF pL nd5 fr5 tq5 em so;obtain⟨ys,Ai,py⟩:=pL;have hat:((cs++[b]).map V.ref)[m.toNat]? =some (.ref b):=by
    have e1:m.toNat=F.length:=by omega
    have e2:=pairs_len pF;rw[e1,<- e2,cg,dk (by simp)];simp
   have ly:=pairs_len py;have lL:L.length<=4096:=by have h2:=congrArg List.length so.eq;have h3:=congrArg List.length (RM.bF (F++[L++[t]]) 0);rw[ag]at h3;rw[bw]at h2;rw[fi,aj]at h3;simp at h3;omega
   have ndp:=de.mp nd5;have nbf:b≠f:=fun z=>ndp.1 (z▸bh _ bj)
   have ncb:∀c∈cs,c≠b:=fun c hc=>(cv.mp ndp.2).2.2 c hc b bj
   refine⟨ys,Ai,by omega,hat,cs++[b],F++[L++[t]],_,_,rfl,a9.put s5 (fr5 b (bh _ bj)),by rw[aB nbf.symm];exact hf5,?_,nd5,fr5,so⟩;exact aY ⟨ys++[.ref q],a8,aY (tq5.upd Ai) (aJ (fun _ _ z=>z.upd Ai) py)⟩ (aJ (fun c G ⟨hc,_,z⟩=>z.upd Ai (ncb c hc)) (lQ pF))
  refine⟨_,rfl,_,rfl,f,_,rfl,.inl (SqL.of Ag),rfl,_,rfl,?_⟩;rw[ag,lb];rcases pre.step kb hm with⟨em,so⟩|⟨F,L,eF,em,so⟩
  ·refine cB (fun c1=>?_) (fun c1=>absurd (decide_eq_true (by rw[em])) c1);refine⟨_,rfl,.inl ⟨rfl,_,SqL.of Ag⟩,cj _,fun l rq=>?_⟩;have s4:a9 H3 (upd H3 l (.lst [])):=a9.upd rq;have hf4:=s4 _ _ Ag;have nlf:l≠f:=fun z=>by rw[z,Ag]at rq;cases rq
   refine⟨f,_,.ref l,rfl,rfl,hf4,by rw[ag,lb];exact few (m:=4096) lFs,?_⟩;have nlb:∀b∈bs,b≠l:=fun b hb z=>by obtain⟨j,hj⟩:=dt.mp hb;obtain⟨_,_,⟨ys,hy,_⟩⟩:=pairs_at oq hj;rw[z,rq]at hy;cases hy
   have nbf:∀b∈bs,b≠f:=fun b hb z=>(de.mp nd).1 (z▸hb)
   have eb:bs.map V.ref++[V.ref l]=(bs++[l]).map V.ref:=by simp
   rw[eb];have hf5:(upd (upd H3 l (.lst [])) f (.lst ((bs++[l]).map V.ref))) f=some (.lst ((bs++[l]).map V.ref)):=a8;obtain⟨ys,y1,y2,y3,y4⟩:=fin (upd (upd H3 l (.lst [])) f (.lst ((bs++[l]).map V.ref))) bs l Fs [] (a9.put (a9.trans zd s4) (me od)) hf5 (aJ (fun b F ⟨hb,_,z⟩=>(LS.mono s4 z).upd hf4 (nbf b hb)) (lQ oq)) ⟨[],by rw[aB nlf,a8],.nil⟩ (by
     rw[de]at nd ⊢;refine⟨fun z=>?_,?_⟩
     ·rcases aw.mp z with z|z
      ·exact nd.1 z
      ·exact nlf (iq.mp z).symm
     ·rw[cv];exact⟨nd.2,by simp,fun a ha b hb e=>nlb a ha (by simp at hb;rw[e,hb])⟩) (by
     intro c hc;rcases aw.mp hc with hc|hc
     ·exact fr c hc
     ·have:c=l:=by simpa using hc
      rw[this];exact zd.free rq) ((Ar.mono s4).upd hf4) em so
   exact⟨_,rfl,_,rfl,f,_,_,_,rfl,rfl,SqL.of hf5,aU (by omega) y3,.inl ⟨rfl,_,SqL.of y1⟩,_,rfl,l,ys,.ref q,rfl,rfl,y1,few y2,y4⟩
  ·refine cB (fun c1=>?_) (fun c1=>?_)
   ·have c1:=V.int.inj (bb c1);rw[eF,aj]at c1;simp at c1;omega
   ·subst eF;obtain⟨cs,b,eb,p1,p2⟩:=qR oq;subst eb;obtain⟨ys,y1,y2,y3,y4⟩:=fin _ cs b F L zd Ag p1 p2 nd fr Ar em so;exact⟨_,rfl,_,rfl,f,_,_,_,rfl,rfl,SqL.of Ag,aU (by omega) y3,.inl ⟨rfl,_,SqL.of y1⟩,_,rfl,b,ys,.ref q,rfl,rfl,y1,few y2,y4⟩
 ·rintro σ H2 ⟨bs,Fs,v2,v3,rfl,s2,hf2,pr,nd,fr,pre⟩;have el:(kvF k3 (IV (RM.aF 0 Ns))).length=(RM.aF 0 Ns).length:=by rw[f9,fD]
  rw[el]at pre;have e:=pre.done kb;subst e;have hN2:H2 nA=some (.frz od (.dT (kvF k3 (IV (RM.aF 0 Fs))))):=s2 _ _ a8;refine⟨hN2,_,rfl,k f _ (a9.unlock hN s2) hf ⟨bs,by rw[aB nc.symm];exact hf2,aJ (fun b F ⟨xs,h1,h2⟩=>⟨xs,?_,aJ (fun _ _ z=>z.rG hN2 (by intro _ z;cases z)) h2⟩) pr⟩⟩;rw[aB (dF h1 hN2 (by intro z;cases z))];exact h1
abbrev s_i:Stmt:=(inClass (top 58) 0)
theorem sc_i:aM ["self","cells"] ["self","cells"] (aI s_i):=fS
structure CF(C:List (Nat×Nat))(R:Addr)(H:Hp)(x:Addr)(cA dA hA fA nA gA:Addr)(ht:List (PI×Int))(Ns:List (List PI3)):Prop where
 ins:∃dx fs,H x=some (.ins R dx fs)/\fs.lookup ("cells" : Str)=some (.ref cA)/\fs.lookup ("depths" : Str)=some (.ref dA)/\fs.lookup ("heights" : Str)=some (.ref hA)/\fs.lookup ("facings" : Str)=some (.ref fA)/\fs.lookup ("numbers" : Str)=some (.ref nA)/\fs.lookup ("faces" : Str)=some (.ref gA)
 cells:D2 H cA (CS C)
 NB:D2 H dA (IV (RM.bX (Roof.halvesOf C)))
 KP:D2 H hA (IV ht)
 hok:RM.A6 (Roof.halvesOf C) ht
 DL:D3 H fA (IV (RM.c6 (Roof.halvesOf C)))
 SW:D3 H nA (IV (RM.aF 0 Ns))
 nok:RM.Numbering (Roof.halvesOf C) (Roof.trianglesOf (Roof.halvesOf C)).length Ns
 faces:LLS H gA Ns
 apart:[cA,dA,hA,fA,nA,gA].Nodup
theorem LLS.SX{H:Hp}{a x:Addr}{Fs:List (List PI3)}{C dx:Addr}{fs:List (Str×V)}{o:HO}(h:LLS H a Fs)(hx:H x=some (.ins C dx fs)):LLS (upd H x o) a Fs:=by obtain⟨bs,h1,h2⟩:=h;refine⟨bs,by rw[aB (dF h1 hx (by intro z;cases z))];exact h1,aJ (fun b F ⟨xs,e1,e2⟩=>⟨xs,by rw[aB (dF e1 hx (by intro z;cases z))];exact e1,aJ (fun _ _ z=>z.rG hx (by intro _ z;cases z)) e2⟩) h2⟩
noncomputable def sp_i(K:W.Frag)(d:Adr):Sp:=fun vs H Q _=>∃(x dx cA:Addr)(C:List (Nat×Nat)),vs=[.ref x,.ref cA]/\H x=some (.ins d.Roof dx [])/\D2 H cA (CS C)/\C.Nodup/\(∀c∈C,c.1<64/\c.2<64)/\C.length<=256/\C≠[]/\∀dA hA fA nA gA ht Ns H',(∀b o,H b=some o->b≠x->H' b=some o)->CF C d.Roof H' x cA dA hA fA nA gA ht Ns->Q .non H'
theorem ok_i(F:Fun K "__init__" "Roof.__init__" s_i f fd)(T:Txt K mg base d)(D_do:aQ P w K mg base CX0 6 "depths_of" ["cells"] (sp_do K d))(D_ho2:aQ P w K mg base CX0 3 "heights_of" ["depths"] (sp_ho2 K d))(D_fo3:aQ P w K mg base CX0 5 "facings_of" ["depths","heights"] (sp_fo3 K d))(D_no:aQ P w K mg base CX0 5 "numbers_of" ["facings"] (sp_no K d))(D_fo:aQ P w K mg base CX0 1 "faces_of" ["numbers"] (sp_fo K d)):bO P w K mg base CX0 7 f fd ["self","cells"] (sp_i K d):=by
 refine F.ok sc_i (fun vs H Q E h=>by obtain⟨x,dx,cA,C,rfl,_⟩:=h;rfl) (fun _ _ _ _ H _ Q E hr h=>?_);have hu:=bK hr;obtain⟨x,dx,cA,C,rfl,hx,hC,nd,bd,tj,kb,k⟩:=h;have hok:=RM.aP bd;have hhl:=RM.mF C;have hl:(Roof.halvesOf C).length<=1024:=by omega
 have rp:((Roof.halvesOf C).map RM.hP).Nodup:=RM.dZ ((RM.iK nd bd).imp fun{a b} h e=>by omega) fun a ha b hb e=>RM.tO (hok a ha) (hok b hb) e
 refine⟨_,(aA (pK (pv 0) (pv 1) rfl)
   (aA (pK (pv 0) (aT D_do (hm hr) aX rfl (a7 (pv 1) aD)) rfl)
   (aA (pK (pv 0) (aT D_ho2 (hm hr) aX rfl (a7 (gP (pv 0) rfl) aD)) rfl)
   (aA (pK (pv 0) (aT D_fo3 (hm hr) aX rfl (a7 (gP (pv 0) rfl) (a7 (gP (pv 0) rfl) aD))) rfl)
   (aA (pK (pv 0) (aT D_no (hm hr) aX rfl (a7 (gP (pv 0) rfl) aD)) rfl)
   (aE (pK (pv 0) (aT D_fo (hm hr) aX rfl (a7 (gP (pv 0) rfl) aD)) rfl))))))),?_⟩
 refine⟨_,rfl,_,rfl,x,d.Roof,dx,[],rfl,hx,T.cQ,T.D1,by decide,?_⟩;have zf:cA≠x:=dF hC hx (by intro z;cases z);have c1:But x H (upd H x (.ins d.Roof dx (bZ "cells" (.ref cA) []))):=(But.refl x H).here;have x1:(upd H x (.ins d.Roof dx (bZ "cells" (.ref cA) []))) x=some (.ins d.Roof dx (bZ "cells" (.ref cA) [])):=a8;have l1:=dQ "cells" (.ref cA) [];generalize e1:bZ "cells" (V.ref cA) []=fs1 at c1 x1 l1 ⊢;have q1:fs1.lookup ("cells" : Str)=some (.ref cA):=by rw[<- e1,bS,ah rfl]
 generalize (upd H x (.ins d.Roof dx fs1))=H1 at c1 x1 ⊢;have hC1:D2 H1 cA (CS C):=c1 _ _ zf hC;refine⟨_,rfl,cA,C,rfl,hC1,nd,bd,tj,kb,fun dA H2 s2 fd2 Dz=>?_⟩;refine⟨_,rfl,x,d.Roof,dx,fs1,rfl,s2 _ _ x1,T.cQ,T.nV,by simp at l1;omega,?_⟩;have c2:But x H (upd H2 x (.ins d.Roof dx (bZ "depths" (.ref dA) fs1))):=(c1.trans (a9.but s2)).here;have x2:(upd H2 x (.ins d.Roof dx (bZ "depths" (.ref dA) fs1))) x=some (.ins d.Roof dx (bZ "depths" (.ref dA) fs1)):=a8;have yd:dA≠x:=dF Dz (s2 _ _ x1) (by intro z;cases z);have mx:D2 (upd H2 x (.ins d.Roof dx (bZ "depths" (.ref dA) fs1))) dA (IV (RM.bX (Roof.halvesOf C))):=by unfold D2;rw[aB yd];exact Dz
 have l2:=dQ "depths" (.ref dA) fs1;have a2:∀g,g≠("depths" : Str)->(bZ "depths" (.ref dA) fs1).lookup g=fs1.lookup g:=fun g hg=>by rw[bS,af hg]
 have q2:(bZ "depths" (.ref dA) fs1).lookup ("depths" : Str)=some (.ref dA):=by rw[bS,ah rfl]
 have ncd:cA≠dA:=fun z=>by have:=hC1;unfold D2 at this;rw[z,fd2]at this;cases this
 generalize bZ "depths" (V.ref dA) fs1=fs2 at*;generalize (upd H2 x (.ins d.Roof dx fs2))=H3 at c2 x2 mx ⊢;refine⟨_,rfl,x,d.Roof,dx,fs2,_,rfl,x2,T.cQ,T.nV,q2,?_⟩;refine⟨dA,Roof.halvesOf C,rfl,mx,hok,hl,fun hA ht H4 s4 fh4 hH4 Cm=>?_⟩;refine⟨_,rfl,x,d.Roof,dx,fs2,rfl,s4 _ _ x2,T.cQ,T.lR,by simp at l1;omega,?_⟩;have c3:But x H (upd H4 x (.ins d.Roof dx (bZ "heights" (.ref hA) fs2))):=(c2.trans (a9.but s4)).here;have x3:(upd H4 x (.ins d.Roof dx (bZ "heights" (.ref hA) fs2))) x=some (.ins d.Roof dx (bZ "heights" (.ref hA) fs2)):=a8;have nhx:hA≠x:=dF hH4 (s4 _ _ x2) (by intro z;cases z);have hH5:D2 (upd H4 x (.ins d.Roof dx (bZ "heights" (.ref hA) fs2))) hA (IV ht):=by unfold D2;rw[aB nhx];exact hH4
 have mw:D2 (upd H4 x (.ins d.Roof dx (bZ "heights" (.ref hA) fs2))) dA (IV (RM.bX (Roof.halvesOf C))):=by unfold D2;rw[aB yd];exact s4 _ _ mx
 have l3:=dQ "heights" (.ref hA) fs2;have a3:∀g,g≠("heights" : Str)->(bZ "heights" (.ref hA) fs2).lookup g=fs2.lookup g:=fun g hg=>by rw[bS,af hg]
 have q3:(bZ "heights" (.ref hA) fs2).lookup ("heights" : Str)=some (.ref hA):=by rw[bS,ah rfl]
 have zg:cA≠hA:=fun z=>by have:=c2 _ _ zf hC;rw[z,fh4]at this;cases this
 have ndh:dA≠hA:=fun z=>by have:=mx;unfold D2 at this;rw[z,fh4]at this;cases this
 generalize bZ "heights" (V.ref hA) fs2=fs3 at*;generalize (upd H4 x (.ins d.Roof dx fs3))=H5 at c3 x3 hH5 mw ⊢;have q32:fs3.lookup ("depths" : Str)=some (.ref dA):=by rw[a3 _ (by decide)];exact q2
 refine⟨_,rfl,x,d.Roof,dx,fs3,_,rfl,x3,T.cQ,T.nV,q32,_,rfl,x,d.Roof,dx,fs3,_,rfl,x3,T.cQ,T.lR,q3,?_⟩;refine⟨dA,hA,Roof.halvesOf C,ht,rfl,mw,hH5,ndh,Cm,rp,hl,fun fA H6 s6 ff6 Dy=>?_⟩;refine⟨_,rfl,x,d.Roof,dx,fs3,rfl,s6 _ _ x3,T.cQ,T.j0,by simp at l1;omega,?_⟩;have c4:But x H (upd H6 x (.ins d.Roof dx (bZ "facings" (.ref fA) fs3))):=(c3.trans (a9.but s6)).here;have x4:(upd H6 x (.ins d.Roof dx (bZ "facings" (.ref fA) fs3))) x=some (.ins d.Roof dx (bZ "facings" (.ref fA) fs3)):=a8;have nfx:fA≠x:=dF Dy (s6 _ _ x3) (by intro z;cases z);have hF7:D3 (upd H6 x (.ins d.Roof dx (bZ "facings" (.ref fA) fs3))) fA (IV (RM.c6 (Roof.halvesOf C))):=by unfold D3;rw[aB nfx];exact Dy
 have hH7:D2 (upd H6 x (.ins d.Roof dx (bZ "facings" (.ref fA) fs3))) hA (IV ht):=by unfold D2;rw[aB nhx];exact s6 _ _ hH5
 have Bi:D2 (upd H6 x (.ins d.Roof dx (bZ "facings" (.ref fA) fs3))) dA (IV (RM.bX (Roof.halvesOf C))):=by unfold D2;rw[aB yd];exact s6 _ _ mw
 have l4:=dQ "facings" (.ref fA) fs3;have a4:∀g,g≠("facings" : Str)->(bZ "facings" (.ref fA) fs3).lookup g=fs3.lookup g:=fun g hg=>by rw[bS,af hg]
 have q4:(bZ "facings" (.ref fA) fs3).lookup ("facings" : Str)=some (.ref fA):=by rw[bS,ah rfl]
 have ncf:cA≠fA:=fun z=>by have:=c3 _ _ zf hC;rw[z,ff6]at this;cases this
 have ndf:dA≠fA:=fun z=>by have:=mw;unfold D2 at this;rw[z,ff6]at this;cases this
 have nhf:hA≠fA:=fun z=>by have:=hH5;unfold D2 at this;rw[z,ff6]at this;cases this
 generalize bZ "facings" (V.ref fA) fs3=fs4 at*;generalize (upd H6 x (.ins d.Roof dx fs4))=H7 at c4 x4 hF7 hH7 Bi ⊢;refine⟨_,rfl,x,d.Roof,dx,fs4,_,rfl,x4,T.cQ,T.j0,q4,?_⟩;refine⟨fA,Roof.halvesOf C,rfl,hF7,hok,hl,fun nA Ns H8 s8 fn8 hN8 nok=>?_⟩;refine⟨_,rfl,x,d.Roof,dx,fs4,rfl,s8 _ _ x4,T.cQ,T.vO,by simp at l1;omega,?_⟩;have c5:But x H (upd H8 x (.ins d.Roof dx (bZ "numbers" (.ref nA) fs4))):=(c4.trans (a9.but s8)).here;have x5:(upd H8 x (.ins d.Roof dx (bZ "numbers" (.ref nA) fs4))) x=some (.ins d.Roof dx (bZ "numbers" (.ref nA) fs4)):=a8;have nnx:nA≠x:=dF hN8 (s8 _ _ x4) (by intro z;cases z);have hN9:D3 (upd H8 x (.ins d.Roof dx (bZ "numbers" (.ref nA) fs4))) nA (IV (RM.aF 0 Ns)):=by unfold D3;rw[aB nnx];exact hN8
 have hF9:D3 (upd H8 x (.ins d.Roof dx (bZ "numbers" (.ref nA) fs4))) fA (IV (RM.c6 (Roof.halvesOf C))):=by unfold D3;rw[aB nfx];exact s8 _ _ hF7
 have hH9:D2 (upd H8 x (.ins d.Roof dx (bZ "numbers" (.ref nA) fs4))) hA (IV ht):=by unfold D2;rw[aB nhx];exact s8 _ _ hH7
 have Bh:D2 (upd H8 x (.ins d.Roof dx (bZ "numbers" (.ref nA) fs4))) dA (IV (RM.bX (Roof.halvesOf C))):=by unfold D2;rw[aB yd];exact s8 _ _ Bi
 have l5:=dQ "numbers" (.ref nA) fs4;have a5:∀g,g≠("numbers" : Str)->(bZ "numbers" (.ref nA) fs4).lookup g=fs4.lookup g:=fun g hg=>by rw[bS,af hg]
 have q5:(bZ "numbers" (.ref nA) fs4).lookup ("numbers" : Str)=some (.ref nA):=by rw[bS,ah rfl]
 have ncn:cA≠nA:=fun z=>by have:=c4 _ _ zf hC;rw[z,fn8]at this;cases this
 have ndn:dA≠nA:=fun z=>by have:=Bi;unfold D2 at this;rw[z,fn8]at this;cases this
 have nhn:hA≠nA:=fun z=>by have:=hH7;unfold D2 at this;rw[z,fn8]at this;cases this
 have nfn:fA≠nA:=fun z=>by have:=hF7;unfold D3 at this;rw[z,fn8]at this;cases this
 generalize bZ "numbers" (V.ref nA) fs4=fs5 at*;generalize (upd H8 x (.ins d.Roof dx fs5))=H9 at c5 x5 hN9 hF9 hH9 Bh ⊢;obtain⟨ki,lr,O,_,_⟩:=nok.ex;have tl:=RM.xX (Roof.halvesOf C);have nl:(RM.aF 0 Ns).length<=4096:=by have h1:=congrArg List.length (RM.bF Ns 0);have h2:=RM.cO O.nd O.sub;rw[ag]at h1 h2;omega
 refine⟨_,rfl,x,d.Roof,dx,fs5,_,rfl,x5,T.cQ,T.vO,q5,?_⟩;refine⟨nA,Ns,rfl,hN9,O.ne,nl,fun gA HA sA Ef hG=>?_⟩;refine⟨_,rfl,x,d.Roof,dx,fs5,rfl,sA _ _ x5,T.cQ,T.K8,by simp at l1;omega,?_⟩;have a6:∀g,g≠("faces" : Str)->(bZ "faces" (.ref gA) fs5).lookup g=fs5.lookup g:=fun g hg=>by rw[bS,af hg]
 have q6:(bZ "faces" (.ref gA) fs5).lookup ("faces" : Str)=some (.ref gA):=by rw[bS,ah rfl]
 have xA:=sA _ _ x5;have ncg:cA≠gA:=fun z=>by have:=c5 _ _ zf hC;rw[z,Ef]at this;cases this
 have ndg:dA≠gA:=fun z=>by have:=Bh;unfold D2 at this;rw[z,Ef]at this;cases this
 have nhg:hA≠gA:=fun z=>by have:=hH9;unfold D2 at this;rw[z,Ef]at this;cases this
 have nfg:fA≠gA:=fun z=>by have:=hF9;unfold D3 at this;rw[z,Ef]at this;cases this
 have nng:nA≠gA:=fun z=>by have:=hN9;unfold D3 at this;rw[z,Ef]at this;cases this
 refine k dA hA fA nA gA ht Ns _ (fun b o e nb=>by rw[aB nb];exact sA _ _ (c5 b o nb e)) ⟨⟨dx,_,a8,?_,?_,?_,?_,?_,q6⟩,?_,?_,?_,Cm,?_,?_,nok,LLS.SX hG xA,?_⟩
 ·rw[a6 _ (by decide),a5 _ (by decide),a4 _ (by decide),a3 _ (by decide),a2 _ (by decide)];exact q1
 ·rw[a6 _ (by decide),a5 _ (by decide),a4 _ (by decide)];exact q32
 ·rw[a6 _ (by decide),a5 _ (by decide),a4 _ (by decide)];exact q3
 ·rw[a6 _ (by decide),a5 _ (by decide)];exact q4
 ·rw[a6 _ (by decide)];exact q5
 ·unfold D2;rw[aB zf];exact sA _ _ (c5 _ _ zf hC)
 ·unfold D2;rw[aB yd];exact sA _ _ Bh
 ·unfold D2;rw[aB nhx];exact sA _ _ hH9
 ·unfold D3;rw[aB nfx];exact sA _ _ hF9
 ·unfold D3;rw[aB nnx];exact sA _ _ hN9
 ·simp only[de,ar,gg,or_false,not_or,not_false_eq_true,nodup_nil,and_true];exact⟨⟨ncd,zg,ncf,ncn,ncg⟩,⟨ndh,ndf,ndn,ndg⟩,⟨nhf,nhn,nhg⟩,⟨nfn,nfg⟩,nng⟩
abbrev s_rt:Stmt:=(top 77)
theorem sc_rt:aM ["t"] ["t"] (aI s_rt):=fS
structure wL(h:List Nat)(R:Addr)(H:Hp)(x:Addr):Prop where
 ex:∃dx fs dA hA fA ht,H x=some (.ins R dx fs)/\fs.lookup ("depths" : Str)=some (.ref dA)/\fs.lookup ("heights" : Str)=some (.ref hA)/\fs.lookup ("facings" : Str)=some (.ref fA)/\R2 H dA (IV (RM.bX h))/\R2 H hA (IV ht)/\RM.A6 h ht/\R3 H fA (IV (RM.c6 h))
theorem wL.mono{h:List Nat}{R:Addr}{H H':Hp}{x:Addr}(r:wL h R H x)(e:a9 H H'):wL h R H' x:=
 let⟨dx,fs,dA,hA,fA,ht,h1,q1,q2,q3,h2,h3,h4,h5⟩:=r.ex
 ⟨dx,fs,dA,hA,fA,ht,e _ _ h1,q1,q2,q3,h2.mono e,h3.mono e,h4,h5.mono e⟩
noncomputable def sp_rt(K:W.Frag)(d:Adr):Sp:=fun vs H Q E=>∃(a:Addr)(ns:List Int),vs=[.ref a]/\SqL K H a (ns.map V.int)/\ns.length<=4096/\RM.inB ns/\(∀F,Roof.houseOf (RoofBNeutral.text ns)=some (RM.aV F)->Roof.isHouse (RM.aV F)=true->∀x cA dA hA fA nA gA ht Ns H',a9 H H'->CF (RM.aV F) d.Roof H' x cA dA hA fA nA gA ht Ns->Q (.ref x) H')/\(Roof.houseOf (RoofBNeutral.text ns)=none->E (.ref d.cH) none H)
theorem ok_rt(F:Fun K "roof_told" "roof_told" s_rt f fd)(T:Txt K mg base d)(D_ht:aQ P w K mg base CXf 6 "house_told" ["t"] (sp_ht K d)){fI:Addr}{fdI:FuncData}(oh:Mk K d.Roof fI)(D_i:bO P w K mg base CX0 7 fI fdI ["self","cells"] (sp_i K d))(Ei:Binds K fdI ["self","cells"] []):bO P w K mg base CXf 9 f fd ["t"] (sp_rt K d):=by
 refine okX F sc_rt (fun vs H Q E h=>by obtain⟨a,ns,rfl,_⟩:=h;rfl) (fun _ _ _ _ H _ Q E hr hok h=>?_);have hu:=bK hr;obtain⟨a,ns,rfl,hS,hl,hB,k1,k2⟩:=h;refine⟨_,(aE (aR (K1 oh D_i (hm hr) rfl T.MW Ei .nil aX (a7 (aT D_ht (hm hr) (HK hok) rfl (a7 (pv 0) aD)) aD)))),?_⟩;refine⟨_,rfl,a,ns,rfl,hS,hl,hB,fun F hF hH cA H1 s1 fc hC=>?_,k2⟩;obtain⟨tj,sq,kb⟩:=mE hH;refine fun x dx nx yd nex=>?_
 have hxx:(upd (upd H1 dx (.own x)) x (.ins d.Roof dx [])) x=some (.ins d.Roof dx []):=a8;refine⟨x,dx,cA,RM.aV F,rfl,hxx,by unfold D2;rw[aB (aH hC nx),aB (aH hC yd)];exact hC,rB F,fun c hc=>⟨(RM.mW.mp hc).1,(RM.mW.mp hc).2.1⟩,tj,kb,fun dA hA fA nA gA ht Ns H2 kp ra=>⟨rfl,k1 F hF hH x cA dA hA fA nA gA ht Ns H2 (a9.trans s1 (a9.made nx yd kp)) ra⟩⟩
abbrev s_c:Stmt:=(top 78)
theorem sc_c:aM ["rows","answer","row"] ["rows"] (aI s_c):=fS
noncomputable def sp_c(K:W.Frag)(d:Adr):Sp:=fun vs H Q _=>∃(a:Addr)(mr:List (List Int)),vs=[.ref a]/\LLI H a mr/\mr.length<=20000/\mr.flatten.length<=50000/\∀r H',a9 H H'->H r=none->H' r=some (.lst (((mr.length:Int)::mr.flatten).map V.int))->Q (.ref r) H'
theorem ok_c(F:Fun K "counted" "counted" s_c f fd)(T:Txt K mg base d):bO P w K mg base CX0 1 f fd ["rows"] (sp_c K d):=by
 refine F.ok sc_c (fun vs H Q E h=>by obtain⟨a,mr,rfl,_⟩:=h;rfl) (fun _ _ _ _ H _ Q E hr h=>?_);have hu:=bK hr;obtain⟨a,mr,rfl,⟨xs,ha,pr⟩,hl,hl2,k⟩:=h;have lx:=pairs_len pr;refine⟨_,(aA (psN (i:=1) sc_c.nd (eZ (a7 (bR bP (by rfl) T.len PySem.boot_len (a7 (pv 0) aD)) aD)))
   (aA (bY PassesOwn.never rfl (d8 (pv 0)) (pgN (i:=2) sc_c.nd) (aE (cZ (gQ PySem.F.plainAttrs_list PySem.F.slot_list_extend PySem.F.type_list_extend EU (pv 1) (a7 (pv 2) aD)))))
   (aE (aR (pv 1))))),?_⟩
 have tf:∀i,(mr.take i).flatten.length<=50000:=fun i=>by have e:=congrArg List.length (congrArg List.flatten (jf i mr));rw[fi,aj]at e;omega
 refine⟨_,rfl,a,_,rfl,.inl (SqL.of ha),(by show 1<=sizeLine;decide),fun l rq=>?_⟩;have s1:a9 H (upd H l (.lst [.int (xs.length:Int)])):=a9.upd rq;have su:(upd H l (.lst [.int (xs.length:Int)])) l=some (.lst [.int (xs.length:Int)]):=a8;generalize (upd H l (.lst [.int (xs.length:Int)]))=H1 at s1 su ⊢;refine⟨_,rfl,a,rfl,⟨_,SqL.of (s1 _ _ ha)⟩,fW (K:=K) (a:=a) (xs:=xs) (fun i σ H2=>∃(v2:Option V),σ=[some (.ref a),some (.ref l),v2]/\a9 H H2/\H2 l=some (.lst (((mr.length:Int)::(mr.take i).flatten).map V.int))) ⟨none,rfl,s1,by rw[su,lx];rfl⟩ (fun i σ H2 _ ⟨_,_,s2,_⟩=>s2.seq (SqL.of ha)) ?_ ?_⟩
 ·rintro i v σ H2 hv ⟨v2,rfl,s2,h2⟩;obtain⟨row,hr,⟨b,rfl,hb⟩⟩:=pairs_at pr hv;have et:(mr.take (i+1)).flatten=(mr.take i).flatten++row:=by rw[RM.take_snoc hr,fi];simp
  have h1:=tf (i+1);rw[et,aj]at h1;refine⟨_,rfl,.inl ⟨rfl,_,SqL.of h2⟩,_,rfl,l,b,_,_,rfl,rfl,h2,s2 _ _ hb,?_,_,rfl,a9.put s2 rq,?_⟩
  ·rw[ag,ag,bq];exact le_of_lt (few (m:=50002) (by omega))
  ·rw[a8,et];simp
 ·rintro σ H2 ⟨v2,rfl,s2,h2⟩;rw[lx,br (ay _)]at h2;exact⟨_,rfl,k l H2 s2 rq h2⟩
abbrev s_fb:Stmt:=(top 45)
theorem sc_fb:aM ["corner","following","headings","feet","point"] ["corner","following","headings"] (aI s_fb):=fS
def nX(H:Hp)(r:Addr):Nat:=match H r with|some (.lst xs)=>xs.length|_=>0
theorem D7{H:Hp}{r:Addr}{xs:List V}(h:H r=some (.lst xs)):nX H r=xs.length:=by unfold nX;rw[h]
noncomputable def sp_fb(K:W.Frag)(d:Adr):Sp:=fun vs H Q _=>∃(v u:V)(hA:Addr)(a b:Roof.Point)(hs:List (PI×Int)),vs=[v,u,.ref hA]/\T2 H v (RM.iP a)/\T2 H u (RM.iP b)/\R2 H hA (IV hs)/\RM.StP a b/\(∀x∈Roof.feet a b,RM.aN hs (RM.iP x.1)=some (RM.hdg x.2))/\(Roof.feet a b).length<=4000/\∀r H',a9 H H'->H r=none->LT H' (.ref r) ((Roof.feet a b).map fun x=>RM.iP x.1)->Q (.ref r) H'
theorem ok_fb(F:Fun K "feet_between" "feet_between" s_fb f fd)(T:Txt K mg base d)(D_b:aQ P w K mg base CX0 2 "beyond" ["place","direction"] (sp_b K d)):bO P w K mg base CX0 3 f fd ["corner","following","headings"] (sp_fb K d):=by
 refine F.ok sc_fb (fun vs H Q E h=>by obtain⟨v,u,hA,a,b,hs,rfl,_⟩:=h;rfl) (fun _ _ _ _ H _ Q E hr h=>?_);have hu:=bK hr;obtain⟨v,u,hA,a,b,hs,rfl,⟨va,rfl,hva⟩,⟨ub,rfl,hub⟩,hH,sp,hh,hl,k⟩:=h;refine⟨_,(aA (psN (i:=3) sc_fb.nd (eZ aD))
   (aA (psN (i:=4) sc_fb.nd (pv 0))
   (aA (iV PassesOwn.never (bU (HQ hr.units) (pv 4) (pv 1) (c7 _)) (aA (cZ (gQ PySem.F.plainAttrs_list PySem.F.slot_list_append PySem.F.type_list_append cC (pv 3) (a7 (pv 4) aD)))
   (aE (psN (i:=4) sc_fb.nd (aT D_b (hm hr) aX rfl (a7 (pv 4) (a7 (fN hu (pv 2) (pv 4) (fun _ _=>rfl)) aD)))))))
   (aE (aR (pv 3)))))),?_⟩
 obtain⟨e0,k0,he0,hk0,b2,b3,rfl⟩:=sp;have fs:=RM.fO he0 b2 b3;rw[fs]at hh hl k;have lk:(RM.bM a e0 k0).length=k0:=by simp[RM.bM]
 refine⟨cj _,fun r qy=>⟨_,rfl,?_⟩⟩;dsimp only[iB,AK];refine iS (fun σ H2=>∃(i:Nat)(pa:Addr)(xs:List V),σ=[some (.ref va),some (.ref ub),some (.ref hA),some (.ref r),some (.ref pa)]/\i<=k0/\a9 H H2/\H2 pa=some (.tup [.int (RM.iP (RM.bI a e0 i)).1,.int (RM.iP (RM.bI a e0 i)).2])/\H2 r=some (.lst xs)/\Paired (T2 H2) xs ((RM.bM a e0 i).map fun x=>RM.iP x.1))
  (fun _ H2=>5000 - nX H2 r)
  ⟨0,va,[],rfl,cj _,a9.upd qy,by rw[RM.D4];exact a9.upd qy _ _ hva,a8,.nil⟩ ?_ (fun _ _ _ _ f ⟨v,e,w,e2,d,e',h1,h2,h3,h4,b,eb,q⟩=>⟨v,e,w,e2,d,e',h1,h2,h3,h4,b,eb,f _ _ q⟩)
 rintro σ H2 ⟨i,pa,xs,rfl,hi,s2,hpa,h2,pr⟩;have lx:=pairs_len pr;have li:(RM.bM a e0 i).length=i:=by simp[RM.bM]
 rw[ag,li]at lx;refine⟨_,rfl,_,rfl,_,_,N9 ⟨pa,rfl,hpa⟩,N9 ⟨ub,rfl,s2 _ _ hub⟩,rfl,rfl,_,rfl,?_⟩;rw[LR];refine cB (fun c=>?_) (fun c=>?_)
 ·have c:RM.iP (RM.bI a e0 i)≠RM.iP (RM.bI a e0 k0):=by simpa using c
  have kh:i<k0:=by
   rcases Nat.lt_or_ge i k0 with z|z
   ·exact z
   ·exact absurd (by rw[show i=k0 by omega]) c
  have g:=hh (RM.bI a e0 i,e0) (au.mpr ⟨i,by simpa using kh,rfl⟩);refine⟨_,rfl,.inl ⟨rfl,_,SqL.of h2⟩,_,rfl,r,xs,.ref pa,rfl,rfl,h2,few (m:=5000) (by omega),?_⟩;have t3:=T2.upd (D:=r) (o:=.lst (xs++[.ref pa])) ⟨pa,rfl,hpa⟩ h2;have s3:a9 H (upd H2 r (.lst (xs++[.ref pa]))):=a9.put s2 qy;have h3:(upd H2 r (.lst (xs++[.ref pa]))) r=some (.lst (xs++[.ref pa])):=a8;have oq:Paired (T2 (upd H2 r (.lst (xs++[.ref pa])))) (xs++[.ref pa]) ((RM.bM a e0 (i+1)).map fun x=>RM.iP x.1):=by rw[RM.mC,cg];exact aY t3 (aJ (fun _ _ z=>z.upd h2) pr)
  generalize (upd H2 r (.lst (xs++[.ref pa])))=H3 at t3 s3 h3 oq ⊢;obtain⟨_,e,Cs⟩:=t3;cases e;have dg:=(R2.mono s3 hH).get (p:=RM.iP (RM.bI a e0 i)) Cs;rw[fE,g]at dg;have yl:0<=RM.hdg e0/\RM.hdg e0<4:=by unfold RM.hdg;omega
  refine⟨_,rfl,_,rfl,_,rfl,hA,_,rfl,dg,.ref pa,RM.iP (RM.bI a e0 i),(RM.hdg e0).toNat,congrArg (fun z=>[V.ref pa,V.int z]) (fj yl.1).symm,T2.c ⟨pa,rfl,Cs⟩,by omega,fun vn H4 s4 t4=>?_⟩;have st:RM.aK (RM.iP (RM.bI a e0 i)) (RM.hdg e0).toNat=RM.iP (RM.bI a e0 (i+1)):=by
   have cs:e0=0\/e0=1\/e0=2\/e0=3:=by omega
   rcases cs with rfl|rfl|rfl|rfl
   ·simp[RM.aK,RM.hdg,RM.iP,RM.bI];omega
   ·simp[RM.aK,RM.hdg,RM.iP,RM.bI];omega
   ·have:=b2 rfl;simp[RM.aK,RM.hdg,RM.iP,RM.bI];omega
   ·have:=b3 rfl;simp[RM.aK,RM.hdg,RM.iP,RM.bI];omega
  rw[st]at t4;obtain⟨na,rfl,ot⟩:=t4;refine⟨⟨i+1,na,_,rfl,kh,a9.trans s3 s4,ot,s4 _ _ h3,aJ (fun _ _ z=>z.mono s4) oq⟩,?_⟩;rw[D7 h2,D7 (s4 _ _ h3),aj];show 5000 - (xs.length+1)<5000 - xs.length
  omega
 ·have c:RM.iP (RM.bI a e0 i)=RM.iP (RM.bI a e0 k0):=by simpa using c
  have ei:i=k0:=by
   have c1:((RM.bI a e0 i).1:Int)=((RM.bI a e0 k0).1:Int):=congrArg Prod.fst c;have c2:((RM.bI a e0 i).2:Int)=((RM.bI a e0 k0).2:Int):=congrArg Prod.snd c;have cs:e0=0\/e0=1\/e0=2\/e0=3:=by omega
   rcases cs with rfl|rfl|rfl|rfl
   ·simp[RM.bI]at c1;omega
   ·simp[RM.bI]at c2;omega
   ·have:=b2 rfl;simp[RM.bI]at c1;omega
   ·have:=b3 rfl;simp[RM.bI]at c2;omega
  subst ei;exact⟨_,rfl,k r H2 s2 qy ⟨r,xs,rfl,h2,pr⟩⟩
abbrev s_wr3:Stmt:=(top 46)
theorem sc_wr3:aM ["cells","headings","walls","walk","number","corner"] ["cells"] (aI s_wr3):=fS
theorem D5{α β:Type}{f:α->β}{l:List α}{i:Nat}{y:β}(h:(l.map f)[i]? =some y):∃x,l[i]? =some x/\y=f x:=by
 rw[ax]at h;cases e:l[i]? with
 |none=>rw[e]at h;cases h
 |some x=>rw[e]at h;cases h;exact⟨x,rfl,rfl⟩
noncomputable def PLw(w:Addr)(H:Hp)(v:V)(z:List PI):Prop:=∃b,v=V.ref b/\b≠w/\LT H (.ref b) z
theorem PLw.keep{w:Addr}{H H':Hp}{v:V}{z:List PI}{o:List V}(b:But w H H')(hw:H w=some (.lst o))(h:PLw w H v z):PLw w H' v z:=by obtain⟨a,rfl,n,_,ys,e,ha,py⟩:=h;cases e;exact⟨a,rfl,n,a,ys,rfl,b _ _ n ha,aJ (fun _ _ t=>t.but b hw (by intro _ z;cases z)) py⟩
noncomputable def sp_wr3(K:W.Frag)(d:Adr):Sp:=fun vs H Q _=>∃(c:Addr)(C:List (Nat×Nat)),vs=[.ref c]/\D2 H c (CS C)/\C.length<=256/\Roof.pinched C=false/\∀r H',a9 H H'->LLT H' (.ref r) (RM.bE C)->Q (.ref r) H'
theorem ok_wr3(F:Fun K "walls_round" "walls_round" s_wr3 f fd)(T:Txt K mg base d)(D_haw:aQ P w K mg base CX0 3 "headings_along_walls" ["cells"] (sp_haw K d))(D_wr:aQ P w K mg base CX0 5 "walks_round" ["cells"] (sp_wr K d))(D_fb:aQ P w K mg base CX0 3 "feet_between" ["corner","following","headings"] (sp_fb K d)):bO P w K mg base CX0 6 f fd ["cells"] (sp_wr3 K d):=by
 refine F.ok sc_wr3 (fun vs H Q E h=>by obtain⟨c,C,rfl,_⟩:=h;rfl) (fun _ _ _ _ H _ Q E hr h=>?_);have hu:=bK hr;obtain⟨c,C,rfl,hC,hl,hp,k⟩:=h;refine⟨_,(aA (psN (i:=1) sc_wr3.nd (aT D_haw (hm hr) aX rfl (a7 (pv 0) aD)))
   (aA (psN (i:=2) sc_wr3.nd (eZ aD))
   (aA (bY PassesOwn.never rfl (d8 (aT D_wr (hm hr) aX rfl (a7 (pv 0) aD))) (pgN (i:=3) sc_wr3.nd) (aE (bY PassesOwn.never rfl (wW rfl T.enumerate (a7 (pv 3) aD)) (kG rfl (bW (pgN (i:=4) sc_wr3.nd) (bW (pgN (i:=5) sc_wr3.nd) hO))) (aE (cZ (gQ PySem.F.plainAttrs_list PySem.F.slot_list_append PySem.F.type_list_append cC (pv 2) (a7 (aT D_fb (hm hr) aX rfl (a7 (pv 5) (a7 (bG iA (pv 3) (dE wY (dE kI (pv 4) aL) (bR bP (by rfl) T.len PySem.boot_len (a7 (pv 3) aD))) (fun _ _=>rfl)) (a7 (pv 1) aD)))) aD)))))))
   (aE (aR (pv 2)))))),?_⟩
 refine⟨_,rfl,c,C,rfl,hC,hl,fun h H1 s1 hh hH=>?_⟩;refine⟨cj _,fun w hw=>?_⟩;have sw:a9 H1 (upd H1 w (.lst [])):=a9.upd hw;have hw1:(upd H1 w (.lst [])) w=some (.lst []):=a8;have fw:H w=none:=s1.free hw;generalize (upd H1 w (.lst []))=Hw at sw hw1 ⊢;refine⟨_,rfl,c,C,rfl,(a9.trans s1 sw) _ _ hC,hl,hp,fun r H2 s2 hr=>?_⟩;obtain⟨_,ws,e,hr,pr⟩:=hr;cases e;have vm:=s2 _ _ hw1;have s3:=a9.trans (a9.trans s1 sw) s2;have hH2:D2 H2 h (IV (RM.cT (RM.iW C))):=(a9.trans sw s2) _ _ hH;have Aw:h≠w:=aH hH hw;have lP:=RM.hJ hp;have eP:RM.bE C=(Roof.wallsOf (Roof.walksOf C)).map RM.wpt:=rfl;rw[eP,ag]at lP;refine⟨r,rfl,⟨_,SqL.of hr⟩,fW (K:=K) (a:=r) (xs:=ws) (fun i σ H3=>∃(xs:List V)(v3 v4 v5:Option V),σ=[some (.ref c),some (.ref h),some (.ref w),v3,v4,v5]/\But w H2 H3/\H3 r=some (.lst ws)/\H3 w=some (.lst xs)/\Paired (PLw w H3) xs ((Roof.wallsOf ((Roof.walksOf C).take i)).map RM.wpt))
  ⟨[],none,none,none,rfl,But.refl _ _,hr,vm,.nil⟩ (fun i σ H3 _ ⟨_,_,_,_,_,_,h3,_⟩=>SqL.of h3) ?_ ?_⟩
 ·rintro i v σ H3 hv ⟨xs,v3,v4,v5,rfl,b3,hr3,hw3,px⟩;obtain⟨z,hz,ba,ys,rfl,yn,py⟩:=pairs_at pr hv;obtain⟨wk,Ba,rfl⟩:=D5 hz;have lw:ys.length=wk.length:=(pairs_len py).trans (ag _);have hm:=az Ba;have lw0:0<wk.length:=by obtain⟨_,_,_,_,e,_⟩:=(RM.d7 hp (RM.d6.start C)).1 wk hm;rw[e];exact Nat.zero_lt_succ _
  have nbw:ba≠w:=fun e=>by rw[e,vm]at yn;cases yn;rw[<- lw]at lw0;cases lw0
  have wu:r≠w:=fun e=>by rw[e,vm]at hr;cases hr;cases hv
  have fl:Roof.wallsOf ((Roof.walksOf C).take (i+1))=Roof.wallsOf ((Roof.walksOf C).take i)++Roof.sides wk:=by unfold Roof.wallsOf;rw[RM.take_snoc Ba,gf];simp
  have fle:(Roof.wallsOf ((Roof.walksOf C).take i)).length+wk.length<=1024:=by
   have:=congrArg (fun z=>(Roof.wallsOf z).length) (jf (i+1) (Roof.walksOf C));have e2:∀a b:List Roof.Walk,Roof.wallsOf (a++b)=Roof.wallsOf a++Roof.wallsOf b:=fun a b=>gf
   rw[e2,fl,aj,aj,RM.pG]at this;omega
  refine⟨_,rfl,ba,ys,rfl,SqL.of (b3 _ _ nbw yn),tR (K:=K) (a:=ba) (xs:=ys) (fun j σ H4=>∃(xs:List V)(v4 v5:Option V),σ=[some (.ref c),some (.ref h),some (.ref w),some (.ref ba),v4,v5]/\But w H2 H4/\H4 w=some (.lst xs)/\Paired (PLw w H4) xs ((Roof.wallsOf ((Roof.walksOf C).take i)).map RM.wpt++((Roof.sides wk).take j).map RM.wpt))
   ⟨xs,v4,v5,rfl,b3,hw3,by rw[take_zero,ja,dc];exact px⟩ (fun j σ H4 _ ⟨_,_,_,_,b4,_⟩=>SqL.of (b4 _ _ nbw yn)) ?_ ?_⟩
  ·rintro j v σ H4 Tt hj ⟨xs,v4,v5,rfl,b4,wz,px⟩ hT;obtain⟨_,hp',ca,rfl,Bf⟩:=pairs_at py hj;obtain⟨p,hp0,rfl⟩:=D5 hp';obtain⟨q,hq,hs⟩:=RM.j9 hp0;have hjl:=tQ hp0;have sj:(j+1)%wk.length<wk.length:=mod_lt _ lw0;obtain⟨u,qx,tu⟩:∃u,ys[(j+1)%wk.length]? =some u/\T2 H2 u (RM.iP q):=by
    have e:ys[(j+1)%wk.length]? =some (ys[(j+1)%wk.length]'(by rw[lw];exact sj)):=bf _;obtain⟨p2,e2,t2⟩:=pairs_at py e;have e3:(RM.iW wk)[(j+1)%wk.length]? =some (RM.iP q):=by unfold RM.iW;rw[ax,hq];rfl
    rw[e3]at e2;cases e2;exact⟨_,e,t2⟩
   have sT:a9 H4 (upd H4 Tt (.tup [.int (j:Nat),.ref ca])):=a9.upd hT;refine⟨Tt,_,rfl,SqT.of a8,rfl,_,_,rfl,_,_,rfl,rfl,?_⟩;generalize (upd H4 Tt (.tup [.int (j:Nat),.ref ca]))=H5 at sT ⊢;have b5:But w H2 H5:=fun b u n e=>sT _ _ (b4 b u n e)
   have hw5:=sT _ _ wz;have Ai:=b5 _ _ nbw yn;have tt:∀{v:V}{p:PI},T2 H2 v p->T2 H5 v p:=fun t=>t.but b5 vm (by intro _ z;cases z)
   have mem:(p,q)∈Roof.wallsOf (Roof.walksOf C):=bx.mpr ⟨wk,hm,az hs⟩;have lx:=pairs_len px;rw[aj,ag,ag,bw,RM.pG]at lx;have ei:((j:Int)+1)% (ys.length:Int)=(((j+1)%wk.length:Nat):Int):=by rw[lw,Int.natCast_emod];rfl
   have fe:(Roof.feet p q).length<=4*C.length:=RM.G7 hp _ mem;refine⟨_,rfl,.inl ⟨rfl,_,SqL.of hw5⟩,_,rfl,_,rfl,_,rfl,_,_,rfl,rfl,_,rfl,ba,ys,rfl,.inl (SqL.of Ai),_,_,rfl,rfl,by rw[lw];exact Int.ofNat_lt.mpr lw0,ba,_,_,u,rfl,rfl,SqL.of Ai,aU (by rw[ei];exact gc _) (by rw[ei];exact qx),_,rfl,.ref ca,u,h,p,q,RM.cT (RM.iW C),rfl,tt ⟨ca,rfl,Bf⟩,tt tu,D2.rd (b5 _ _ Aw hH2),RM.gN hp _ mem,RM.zM hp _ mem,by omega,fun rr H6 s6 fr lt=>?_⟩;have nrr:rr≠w:=fun z=>by rw[z,hw5]at fr;cases fr
   refine⟨w,xs,.ref rr,rfl,rfl,s6 _ _ hw5,few (m:=5000) (by omega),xs++[.ref rr],_,_,rfl,But.here (fun b u n e=>s6 _ _ (b5 b u n e)),a8,?_⟩;rw[RM.take_snoc hs,cg,<- dv];have b6:But w H4 (upd H6 w (.lst (xs++[.ref rr]))):=But.here (fun b u n e=>s6 _ _ (sT _ _ e));exact aY ⟨rr,rfl,nrr,lt.upd (s6 _ _ hw5) nrr⟩ (aJ (fun v z t=>PLw.keep b6 wz t) px)
  ·rintro σ H4 ⟨xs,v4,v5,rfl,b4,wz,px⟩;rw[lw,<- RM.pG,take_length,<- cg,<- fl]at px;exact⟨xs,_,_,_,rfl,b4,b4 _ _ wu hr,wz,px⟩
 ·rintro σ H3 ⟨xs,v3,v4,v5,rfl,b3,hr3,hw3,px⟩;rw[show ws.length=(Roof.walksOf C).length from(pairs_len pr).trans (ag _),take_length]at px;exact⟨_,rfl,k w H3 (b3.same s3 fw) ⟨w,xs,rfl,hw3,aJ (fun v z ⟨b,e,_,t⟩=>by rw[e];exact t) px⟩⟩
abbrev s_wn:Stmt:=(top 74)
theorem sc_wn:aM ["walls","numbers","number","feet","foot"] ["walls"] (aI s_wn):=fS
noncomputable def sp_wn(K:W.Frag)(d:Adr):Sp:=fun vs H Q _=>∃(w:Addr)(P:List (List PI)),vs=[.ref w]/\LLT H (.ref w) P/\P.length<=4000/\P.flatten.length<=4000/\P.flatten.Nodup/\∀r oo H',a9 H H'->H r=none->D2 H' r (IV oo)->(∀(j:Nat) L p,P[j]? =some L->p∈L->RM.aN oo p=some (j:Int))->Q (.ref r) H'
theorem ok_wn(F:Fun K "wall_numbers" "wall_numbers" s_wn f fd)(T:Txt K mg base d):bO P w K mg base CX0 1 f fd ["walls"] (sp_wn K d):=by
 refine F.ok sc_wn (fun vs H Q E h=>by obtain⟨w,P,rfl,_⟩:=h;rfl) (fun _ _ _ _ H _ Q E hr h=>?_);have hu:=bK hr;obtain⟨w,P,rfl,hw,hl,hl2,nd,k⟩:=h;refine⟨_,(aA (psN (i:=1) sc_wn.nd eB)
   (aA (bY PassesOwn.never rfl (wW rfl T.enumerate (a7 (pv 0) aD)) (kG rfl (bW (pgN (i:=2) sc_wn.nd) (bW (pgN (i:=3) sc_wn.nd) hO))) (aE (bY PassesOwn.never rfl (d8 (pv 3)) (pgN (i:=4) sc_wn.nd) (aE (fM hu (pv 1) (pv 4) (pv 2) rfl)))))
   (aE (aR (pv 1))))),?_⟩
 obtain⟨_,ys,e,hw,pw⟩:=hw;cases e;have ly:=pairs_len pw;refine fun f hf=>?_
 have s1:a9 H (upd H f (.dT (kvF k2 (IV [])))):=a9.upd hf;have fl:∀j L,P[j]? =some L->(P.take (j+1)).flatten.length=(P.take j).flatten.length+L.length:=fun j L hL=>by rw[RM.take_snoc hL,fi,aj];simp
 refine⟨_,rfl,w,ys,rfl,s1.seq (SqL.of hw),tR (K:=K) (a:=w) (xs:=ys) (fun j σ H2=>∃(oo:List (PI×Int))(v2 v3 v4:Option V),σ=[some (.ref w),some (.ref f),v2,v3,v4]/\a9 H H2/\D2 H2 f (IV oo)/\oo.length<=(P.take j).flatten.length/\∀(i:Nat) L p,i<j->P[i]? =some L->p∈L->RM.aN oo p=some (i:Int))
  ⟨[],none,none,none,rfl,s1,a8,cj _,fun i L p hi=>absurd hi (Nat.not_lt_zero _)⟩ (fun i σ H2 _ ⟨_,_,_,_,_,s2,_⟩=>s2.seq (SqL.of hw)) ?_ ?_⟩
 ·rintro j v σ H2 Tt hj ⟨oo,v2,v3,v4,rfl,s2,hD,lt,W⟩ hT;obtain⟨L,hL,b,zs,rfl,hb,pb⟩:=pairs_at pw hj;have sT:a9 H2 (upd H2 Tt (.tup [.int (j:Nat),.ref b])):=a9.upd hT;have s3:=a9.trans s2 sT;have mx:D2 (upd H2 Tt (.tup [.int (j:Nat),.ref b])) f (IV oo):=sT _ _ hD;refine⟨Tt,_,rfl,SqT.of a8,rfl,_,_,rfl,_,_,rfl,rfl,?_⟩;generalize (upd H2 Tt (.tup [.int (j:Nat),.ref b]))=H3 at s3 mx ⊢;have flj:=fl j L hL;have fle:(P.take (j+1)).flatten.length<=4000:=by have:=congrArg (fun z:List (List PI)=>z.flatten.length) (jf (j+1) P);simp only[fi,aj]at this;omega
  have lb:=pairs_len pb;refine⟨_,rfl,b,rfl,⟨_,s3.seq (SqL.of hb)⟩,fW (K:=K) (a:=b) (xs:=zs) (fun i' σ H4=>∃(oo:List (PI×Int))(v4:Option V),σ=[some (.ref w),some (.ref f),some (.int (j:Nat)),some (.ref b),v4]/\a9 H H4/\D2 H4 f (IV oo)/\oo.length<=(P.take j).flatten.length+i'/\(∀(i:Nat) L p,i<j->P[i]? =some L->p∈L->RM.aN oo p=some (i:Int))/\∀p∈L.take i',RM.aN oo p=some (j:Int))
   ⟨oo,v4,rfl,s3,mx,lt,W,fun p hp=>(by cases hp)⟩ (fun i σ H4 _ ⟨_,_,_,s4,_⟩=>s4.seq (SqL.of hb)) ?_ ?_⟩
  ·rintro i' z σ H4 hz ⟨oo,v4,rfl,s4,lu,lt4,W4,V4⟩;obtain⟨q,hq,qa,rfl,rj⟩:=pairs_at pb hz;have qh:=tQ hq;refine⟨_,rfl,_,rfl,_,rfl,f,_,rfl,D2.put lu (s4 _ _ rj) (.int (j:Nat)) (by rw[fD];exact few (m:=5000) (by omega)),RM.dO oo q (j:Int),_,rfl,a9.put s4 hf,by unfold D2;rw[a8,<- qH],by have:=RM.lB oo q (j:Int);omega,fun i L' p hi yq hp=>?_,fun p hp=>?_⟩
   ·rw[RM.gX];by_cases c:p=q
    ·subst c;have:=RM.qA (f:=fun x:List PI=>x) (l:=P) (by rw[List.flatMap_id'];exact nd) i j L' L p yq hL hp (az hq);omega
    ·rw[af c];exact W4 i L' p hi yq hp
   ·rw[RM.gX];by_cases c:p=q
    ·rw[ah c]
    ·rw[af c];rw[RM.take_snoc hq]at hp;rcases aw.mp hp with hp|hp
     ·exact V4 p hp
     ·exact absurd (iq.mp hp) c
  ·rintro σ H4 ⟨oo,v4,rfl,s4,lu,lt4,W4,V4⟩;rw[lb,br (ay _)]at V4;refine⟨oo,_,_,_,rfl,s4,lu,by omega,fun i L' p hi yq hp=>?_⟩;by_cases c:i<j
   ·exact W4 i L' p c yq hp
   ·have:i=j:=by omega
    subst this;rw[hL]at yq;cases yq;exact V4 p hp
 ·rintro σ H2 ⟨oo,v2,v3,v4,rfl,s2,hD,lt,W⟩;exact⟨_,rfl,k f oo H2 s2 hf hD fun j L p hj hp=>W j L p (by rw[ly];exact tQ hj) hj hp⟩
abbrev s_fo4:Stmt:=(top 70)
theorem sc_fo4:aM ["half","roof","corners","low","side","corner"] ["half","roof"] (aI s_fo4):=fS
theorem KA{α β:Type}{f:α->β}{l:List α}{i:Nat}{y:β}(h:(l.map f)[i]? =some y):∃x,l[i]? =some x/\y=f x:=by
 rw[ax]at h;cases e:l[i]? with
 |none=>rw[e]at h;cases h
 |some x=>rw[e]at h;cases h;exact⟨x,rfl,rfl⟩
theorem BH(h:List Nat)(p:PI):(∀c,RM.fU h p=some c->((List.range 4).filter fun n=>decide (RM.hgt h (RM.aC p n)=RM.aS h p))=[c])/\(RM.fU h p=none->((List.range 4).filter fun n=>decide (RM.hgt h (RM.aC p n)=RM.aS h p)).length≠1):=by unfold RM.fU;rw[show List.range 4=[0,1,2,3]from rfl];simp only[List.filter_cons,filter_nil];generalize decide (RM.hgt h (RM.aC p 0)=RM.aS h p)=b0;generalize decide (RM.hgt h (RM.aC p 1)=RM.aS h p)=b1;generalize decide (RM.hgt h (RM.aC p 2)=RM.aS h p)=b2;generalize decide (RM.hgt h (RM.aC p 3)=RM.aS h p)=b3;cases b0<;>cases b1<;>cases b2<;>cases b3<;>first|exact⟨fun c h=>(by cases h;rfl),fun h=>(by cases h)⟩|exact⟨fun c h=>(by cases h),fun _=>(by decide)⟩
noncomputable def sp_fo4(K:W.Frag)(d:Adr):Sp:=fun vs H Q _=>∃(v:V)(x:Addr)(r:Nat)(h:List Nat),vs=[v,.ref x]/\T2 H v (RM.hP r)/\r∈h/\wL h d.Roof H x/\(∀c,RM.fU h (RM.hP r)=some c->∀w H',a9 H H'->T2 H' w (RM.aC (RM.hP r) c)->Q w H')/\(RM.fU h (RM.hP r)=none->∀H',a9 H H'->Q .non H')
theorem ok_fo4(F:Fun K "foot_of" "foot_of" s_fo4 f fd)(T:Txt K mg base d)(D_ss:aQ P w K mg base CX0 2 "side_start" ["square","side"] (sp_ss K d)):bO P w K mg base CX0 3 f fd ["half","roof"] (sp_fo4 K d):=by
 refine F.ok sc_fo4 (fun vs H Q E h=>by obtain⟨v,x,r,h,rfl,_⟩:=h;rfl) (fun _ _ _ _ H _ Q E hr h=>?_);have hu:=bK hr;obtain⟨aALL_SIDES,bC,c_ALL_SIDES⟩:=T.bC;obtain⟨v,x,r,h,rfl,⟨a,rfl,ha⟩,qy,hx,k1,k2⟩:=h;obtain⟨dx,fs,dA,hA,fA,ht,x1,x2,x3,x4,x5,x6,x7,x8⟩:=hx.ex;refine⟨_,(aA (nJ (i:=2) (own:=[("side",4)]) rfl sc_fo4.nd rfl rfl (by exact lJ rfl rfl rfl rfl) (jD (f6 bC rfl)) (eG (by first|decide+kernel|kernel_rfl)) (fun _ _ _ _ _=>(pgN (i:=4) sc_fo4.nd)) (fun _ _ _ _ _=>nI) (fun _ _ _ _ _=>(aT D_ss (hm hr) aX rfl (a7 (pv 0) (a7 (pv 4) aD)))))
   (aA (nJ (i:=3) (own:=[("corner",5)]) rfl sc_fo4.nd rfl rfl (by exact lJ rfl rfl rfl rfl) (d8 (pv 2)) (eG (by first|decide+kernel|kernel_rfl)) (fun _ _ _ _ _=>(pgN (i:=5) sc_fo4.nd)) (fun _ _ _ _ _=>(CQ (bU hV (fN hu (CW (K:=K) (pv 1) rfl rfl) (pv 5) (fun _ _=>rfl)) (fN hu (CW (K:=K) (pv 1) rfl rfl) (pv 0) (fun _ _=>rfl)) (c7 _)))) (fun _ _ _ _ _=>(pv 5)))
   (aA (cI (bU hV (bR bP (by rfl) T.len PySem.boot_len (a7 (pv 3) aD)) aL (c7 _)) (aE (aR (bG iA (pv 3) aL (fun _ _=>rfl)))) bH)
   (aE (aR HG))))),?_⟩
 refine⟨_,rfl,⟨_,c_ALL_SIDES _⟩,fun D hD=>IJ (K:=K) (a:=aALL_SIDES) (xs:=[.int 0,.int 1,.int 2,.int 3])
  (fun i H2=>a9 H H2/\∃cs:List Addr,H2 D=some (.lst (cs.map V.ref))/\Paired (fun c n=>c≠D/\H2 c=some (.tup [.int (RM.aC (RM.hP r) n).1,.int (RM.aC (RM.hP r) n).2])) cs (List.range i)) ⟨a9.upd hD,[],a8,.nil⟩ (fun i H2 _ _=>c_ALL_SIDES H2) ?_ ?_⟩
 ·rintro i v H2 hv ⟨s2,cs,h2,pc⟩;have hi:i<4/\v=.int (i:Nat):=by
   match i,hv with
   |0,hv=>cases hv;exact⟨by decide,rfl⟩
   |1,hv=>cases hv;exact⟨by decide,rfl⟩
   |2,hv=>cases hv;exact⟨by decide,rfl⟩
   |3,hv=>cases hv;exact⟨by decide,rfl⟩
   |n+4,hv=>cases hv
  obtain⟨hi,rfl⟩:=hi;have lc:=pairs_len pc;rw[length_range]at lc;refine⟨rfl,_,rfl,_,rfl,.ref a,RM.hP r,i,rfl,T2.c ⟨a,rfl,s2 _ _ ha⟩,hi,fun n H3 s3 t3=>?_⟩;obtain⟨na,rfl,ot⟩:=t3;have nn:na≠D:=dF ot (s3 _ _ h2) (fun z=>nomatch z);refine⟨_,s3 _ _ h2,by rw[ag];exact few (m:=10) (by omega),a9.put (a9.trans s2 s3) hD,cs++[na],by rw[a8];simp,?_⟩;rw[jj];exact aY ⟨nn,by rw[aB nn];exact ot⟩ (aJ (fun c n ⟨n1,z⟩=>⟨n1,by rw[aB n1];exact s3 _ _ z⟩) pc)
 ·rintro H2 ⟨s2,cs,h2,pc⟩;have lc:=pairs_len pc;rw[length_range]at lc;have lc4:cs.length=4:=lc;have x1:=s2 _ _ x1;have hm:RM.hP r∈h.map RM.hP:=au.mpr ⟨r,qy,rfl⟩;refine⟨_,rfl,D,rfl,⟨_,SqL.of h2⟩,fun D' Ea=>jI (K:=K) (a:=D) (xs:=cs.map V.ref)
   (fun i H3=>a9 H2 H3/\∃ls:List Addr,H3 D'=some (.lst (ls.map V.ref))/\ls.length<=i/\Paired (fun c n=>H3 c=some (.tup [.int (RM.aC (RM.hP r) n).1,.int (RM.aC (RM.hP r) n).2])) ls ((List.range i).filter fun n=>decide (RM.hgt h (RM.aC (RM.hP r) n)=RM.aS h (RM.hP r)))) ⟨a9.upd Ea,[],a8,ay _,.nil⟩ (fun i H3 _ ⟨s3,_⟩=>s3.seq (SqL.of h2)) ?_ ?_⟩
  ·rintro i v H3 hv ⟨s3,ls,h3,ll,pl⟩;obtain⟨c,hc,rfl⟩:=KA hv;obtain⟨n,hn,_,hcn⟩:=pairs_at pc hc;have sj:=tQ hc;have en:n=i:=by have:=(ak.mp hn).2;simpa using this.symm
   subst en;have hc3:=s3 _ _ hcn;have sH:=a9.trans s2 s3;have g3:=(x6.mono sH).get (p:=RM.aC (RM.hP r) n) hc3;rw[fE,x7.at hm (by omega)]at g3;have g1:=(x5.mono sH).get (p:=RM.hP r) (sH _ _ ha);rw[fE,RM.FO hm]at g1;refine⟨rfl,_,rfl,x,d.Roof,dx,fs,_,rfl,s3 _ _ x1,T.cQ,T.lR,x3,_,rfl,hA,_,rfl,g3,_,rfl,x,d.Roof,dx,fs,_,rfl,s3 _ _ x1,T.cQ,T.nV,x2,_,rfl,dA,_,rfl,g1,rfl,_,rfl,?_⟩;rw[jT];refine cB (fun c0=>?_) (fun c0=>?_)
   ·have c1:RM.hgt h (RM.aC (RM.hP r) n)=RM.aS h (RM.hP r):=by simpa using c0
    refine⟨_,rfl,_,h3,by rw[ag];exact few (m:=10) (by omega),a9.put s3 Ea,ls++[c],by rw[a8,cg];rfl,by rw[aj];exact Nat.succ_le_succ ll,?_⟩;rw[jj,gj,List.filter_cons_of_pos (by rw[c1];exact decide_eq_true rfl),filter_nil];exact aY (by rw[aB (dF hc3 h3 (fun z=>nomatch z))];exact hc3) (aJ (fun c n z=>by rw[aB (dF z h3 (fun z=>nomatch z))];exact z) pl)
   ·have c1:¬RM.hgt h (RM.aC (RM.hP r) n)=RM.aS h (RM.hP r):=by simpa using c0
    refine⟨s3,ls,h3,Nat.le_succ_of_le ll,?_⟩;rw[jj,gj,List.filter_cons_of_neg (by rw[decide_eq_false c1];decide),filter_nil,dc];exact pl
  ·rintro H3 ⟨s3,ls,h3,ll,pl⟩;rw[ag,lc4]at pl;have lf:=pairs_len pl;obtain⟨f1,f2⟩:=BH h (RM.hP r);refine⟨_,rfl,D',_,rfl,.inl (SqL.of h3),rfl,_,rfl,?_⟩;rw[jT];refine cB (fun c0=>?_) (fun c0=>?_)
   ·have c1:ls.length=1:=by simp at c0;omega
    cases hc:RM.fU h (RM.hP r)with
    |none=>exact absurd (lf.symm.trans c1) (f2 hc)
    |some c=>
     rw[f1 c hc]at pl;cases pl with
     |cons z1 z2=>cases z2;refine⟨_,rfl,D',_,_,_,rfl,rfl,SqL.of h3,aU (by decide) rfl,k1 c hc _ _ (a9.trans s2 s3) ⟨_,rfl,z1⟩⟩
   ·have c1:¬ls.length=1:=by simp at c0;omega
    cases hc:RM.fU h (RM.hP r)with
    |none=>exact k2 hc _ (a9.trans s2 s3)
    |some c=>exact absurd (by rw[lf,f1 c hc];rfl) c1
abbrev s_ha:Stmt:=(top 71)
theorem sc_ha:aM ["half","corner"] ["half","corner"] (aI s_ha):=fS
noncomputable def sp_ha(K:W.Frag)(d:Adr):Sp:=fun vs H Q _=>∃(v u:V)(p c:PI),vs=[v,u]/\T2 H v p/\T2 H u c/\∀r H',a9 H H'->T2 H' r (2*c.1 - 1 - p.1,2*c.2 - 1 - p.2)->Q r H'
theorem ok_ha(F:Fun K "half_across" "half_across" s_ha f fd)(T:Txt K mg base d):bO P w K mg base CX0 1 f fd ["half","corner"] (sp_ha K d):=by refine F.ok sc_ha (fun vs H Q E h=>by obtain⟨v,u,p,c,rfl,_⟩:=h;rfl) (fun _ _ _ _ H _ Q E hr h=>?_);have hu:=bK hr;obtain⟨v,u,p,c,rfl,⟨a,rfl,ha⟩,⟨b,rfl,hb⟩,k⟩:=h;refine⟨_,(aE (aR (d4 (a7 (dE pO (dE pO (dE t9 aL (bG bB (pv 1) aL (fun _ _=>rfl))) aL) (bG bB (pv 0) aL (fun _ _=>rfl))) (a7 (dE pO (dE pO (dE t9 aL (bG bB (pv 1) aL (fun _ _=>rfl))) aL) (bG bB (pv 0) aL (fun _ _=>rfl))) aD))))),?_⟩;refine⟨_,rfl,b,_,_,_,rfl,rfl,SqT.of hb,aU (by decide) rfl,_,_,rfl,rfl,.inl ⟨by decide,by decide⟩,_,_,rfl,rfl,_,rfl,a,_,_,_,rfl,rfl,SqT.of ha,aU (by decide) rfl,_,_,rfl,rfl,_,rfl,b,_,_,_,rfl,rfl,SqT.of hb,aU (by decide) rfl,_,_,rfl,rfl,.inl ⟨by decide,by decide⟩,_,_,rfl,rfl,_,rfl,a,_,_,_,rfl,rfl,SqT.of ha,aU (by decide) rfl,_,_,rfl,rfl,by show 2<=sizeLine;decide,fun q hq=>k _ _ (a9.upd hq) ⟨q,rfl,a8⟩⟩
abbrev s_we:Stmt:=(top 72)
theorem sc_we:aM ["triangle","roof","half","foot","leaving","below"] ["triangle","roof"] (aI s_we):=fS
noncomputable def NC(h:List Nat)(σ:List (Option V))(H:Hp):Nat:=match σ with|some (.ref a)::_=>(match H a with|some (.tup (.int i::.int j::_))=>(RM.aS h (i,j)).toNat|_=>0)|_=>0
theorem xO{h:List Nat}{a:Addr}{σ:List (Option V)}{H:Hp}{i j:Int}{r:List V}(e:H a=some (.tup (.int i::.int j::r))):NC h (some (.ref a)::σ) H=(RM.aS h (i,j)).toNat:=by unfold NC;dsimp only;rw[e]
theorem GK{C:List (Nat×Nat)}(hb:∀c∈C,c.1<64/\c.2<64){u:Nat}{e:Roof.End}(hu:u∈(Roof.topOf C).tris):∀{n:Nat},(Roof.topOf C).endFrom n u=some e->RM.rY (Roof.halvesOf C) (RM.tP u)=.inl (RM.jR e)\/∃u' m,RM.rY (Roof.halvesOf C) (RM.tP u)=.inr (RM.tP u')/\u'∈(Roof.topOf C).tris/\(Roof.topOf C).endFrom m u'=some e/\RM.aS (Roof.halvesOf C) (RM.hP (u'/4))=RM.aS (Roof.halvesOf C) (RM.hP (u/4)) - 1
 |0,h=>by cases h
 |n+1,h=>by
  have ws:=RM.mK hb hu;unfold Roof.Top.endFrom at h;cases hg:(Roof.topOf C).goesOn u with
  |inl e'=>rw[hg]at h ws;cases h;exact .inl ws
  |inr u'=>rw[hg]at h ws;exact .inr ⟨u',n,ws.2.1,ws.1,h,ws.2.2⟩
noncomputable def sp_we(K:W.Frag)(d:Adr):Sp:=fun vs H Q _=>∃(v:V)(x:Addr)(t:Nat)(C:List (Nat×Nat)),vs=[v,.ref x]/\T3 H v (RM.tP t)/\t∈(Roof.topOf C).tris/\(∀c∈C,c.1<64/\c.2<64)/\wL (Roof.halvesOf C) d.Roof H x/\∀e,(Roof.topOf C).endOf t=some e->∀r H',a9 H H'->H' r=some (.tup ((RM.jR e).map V.int))->Q (.ref r) H'
theorem ok_we(F:Fun K "water_end" "water_end" s_we f fd)(T:Txt K mg base d)(D_fo4:aQ P w K mg base CX0 3 "foot_of" ["half","roof"] (sp_fo4 K d))(D_ta:aQ P w K mg base CX0 3 "triangle_across" ["triangle"] (sp_ta K d))(D_ha:aQ P w K mg base CX0 1 "half_across" ["half","corner"] (sp_ha K d)):bO P w K mg base CX0 4 f fd ["triangle","roof"] (sp_we K d):=by
 refine F.ok sc_we (fun vs H Q E h=>by obtain⟨v,x,t,C,rfl,_⟩:=h;rfl) (fun _ _ _ _ H _ Q E hr h=>?_);have hu:=bK hr;obtain⟨v,x,t,C,rfl,⟨va,rfl,hva⟩,ht0,hb,hx,k⟩:=h;obtain⟨e,he⟩:=RM.J8 hb ht0;have ke:=k e he;clear k;obtain⟨dx,fs,dA,hA,fA,ht,x1,x2,x3,x4,x5,x6,x7,x8⟩:=hx.ex;refine⟨_,(aE (iV PassesOwn.never (jB iX (fun _=>rfl)) (aA (psN (i:=2) sc_we.nd (d4 (a7 (bG bB (pv 0) aL (fun _ _=>rfl)) (a7 (bG bB (pv 0) aL (fun _ _=>rfl)) aD))))
   (aA (psN (i:=3) sc_we.nd (aT D_fo4 (hm hr) aX rfl (a7 (pv 2) (a7 (pv 1) aD))))
   (aE (cI (eS (MI (pv 3))) (aA (psN (i:=4) sc_we.nd (d4 (a7 (bG bB (pv 2) aL (fun _ _=>rfl)) (a7 (bG bB (pv 2) aL (fun _ _=>rfl)) (a7 (fN hu (gP (pv 1) rfl) (pv 0) (fun _ _=>rfl)) aD)))))
   (aA (psN (i:=0) sc_we.nd (aT D_ta (hm hr) aX rfl (a7 (pv 4) aD)))
   (aE (cI (eS (d5 hu (pv 0) (gP (pv 1) rfl))) (aE (aR (d4 (a7 (d3 T.FC rfl) (a7 (bG bB (pv 4) aL (fun _ _=>rfl)) (a7 (bG bB (pv 4) aL (fun _ _=>rfl)) (a7 (bG bB (pv 4) aL (fun _ _=>rfl)) aD))))))) bH)))) (aE (cI (bU hV (fN hu (gP (pv 1) rfl) (pv 3) (fun _ _=>rfl)) aL (c7 _)) (aE (aR (d4 (a7 (d3 T.qZ rfl) (a7 (bG bB (pv 3) aL (fun _ _=>rfl)) (a7 (bG bB (pv 3) aL (fun _ _=>rfl)) aD)))))) (aA (psN (i:=5) sc_we.nd (aT D_ha (hm hr) aX rfl (a7 (pv 2) (a7 (pv 3) aD))))
   (aE (psN (i:=0) sc_we.nd (d4 (a7 (bG bB (pv 5) aL (fun _ _=>rfl)) (a7 (bG bB (pv 5) aL (fun _ _=>rfl)) (a7 (bG bB (pv 0) aL (fun _ _=>rfl)) aD))))))))))))))),?_⟩
 dsimp only[iB,AK];refine iS (fun σ H2=>∃(ta:Addr)(u n:Nat)(o2 o3 o4 o5:Option V),σ=[some (.ref ta),some (.ref x),o2,o3,o4,o5]/\a9 H H2/\H2 ta=some (.tup [.int (RM.tP u).1,.int (RM.tP u).2.1,.int (RM.tP u).2.2])/\u∈(Roof.topOf C).tris/\(Roof.topOf C).endFrom n u=some e)
  (NC (Roof.halvesOf C)) ⟨va,t,_,_,_,_,_,rfl,a9.refl _,hva,ht0,he⟩ ?_ ?_
 ·rintro σ H2 ⟨ta,u,n,o2,o3,o4,o5,rfl,s2,hta,Cj,hn⟩;have zu:u/4∈Roof.halvesOf C:=RM.cV.mp Cj;have ws:=GK hb Cj hn;have m0:=xO (h:=Roof.halvesOf C) (σ:=[some (.ref x),o2,o3,o4,o5]) hta;have dp:0<=RM.aS (Roof.halvesOf C) (RM.hP (u/4)):=(RM.jS (RM.aP hb) _).mpr (au.mpr ⟨_,zu,rfl⟩);refine⟨_,rfl,cB (fun _=>?_) (fun z=>absurd rfl z)⟩;rw[m0];clear m0;refine⟨_,rfl,ta,_,_,_,rfl,rfl,SqT.of hta,aU (by decide) rfl,_,rfl,ta,_,_,_,rfl,rfl,SqT.of hta,aU (by decide) rfl,by show 2<=sizeLine;decide,fun q hq=>?_⟩;have s3:=a9.trans s2 (a9.upd (o:=.tup [.int (RM.tP u).1,.int (RM.tP u).2.1]) hq);have ht3:=a9.upd (o:=.tup [.int (RM.tP u).1,.int (RM.tP u).2.1]) hq _ _ hta;have vp:(upd H2 q (.tup [.int (RM.tP u).1,.int (RM.tP u).2.1])) q=some (.tup [.int (RM.hP (u/4)).1,.int (RM.hP (u/4)).2]):=a8;generalize (upd H2 q (.tup [.int (RM.tP u).1,.int (RM.tP u).2.1]))=H3 at s3 ht3 vp ⊢;refine⟨_,rfl,_,rfl,.ref q,x,u/4,Roof.halvesOf C,rfl,⟨q,rfl,vp⟩,zu,hx.mono s3,fun c hc w H4 s4 tw=>?_,fun hc H4 s4=>?_⟩
  ·obtain⟨c4,_,_⟩:=RM.lX hb zu hc;have hc:RM.fU (Roof.halvesOf C) ((RM.tP u).1,(RM.tP u).2.1)=some c:=hc;unfold RM.rY at ws;rw[hc]at ws;dsimp only at ws;obtain⟨fa,rfl,Bd⟩:=tw;have s5:=a9.trans s3 s4;have g3:=(x6.mono s5).get (p:=RM.aC (RM.hP (u/4)) c) Bd;rw[fE,x7.at (au.mpr ⟨_,zu,rfl⟩) (jb c4)]at g3;refine⟨_,rfl,_,rfl,cB (fun z=>absurd (bb z) (fun z=>nomatch z)) (fun _=>?_)⟩;refine⟨_,rfl,x,d.Roof,dx,fs,_,rfl,s5 _ _ x1,T.cQ,T.lR,x3,_,rfl,hA,_,rfl,g3,rfl,_,rfl,?_⟩;rw[jT];refine cB (fun c0=>?_) (fun c0=>?_)
   ·have c0:RM.hgt (Roof.halvesOf C) (RM.aC ((RM.tP u).1,(RM.tP u).2.1) c)=0:=eq_of_beq c0;rw[ah c0]at ws;rcases ws with ws|⟨u',m,ws,_⟩
    ·injection ws with ws
     refine⟨_,rfl,fa,_,_,_,rfl,rfl,SqT.of Bd,aU (by decide) rfl,_,rfl,fa,_,_,_,rfl,rfl,SqT.of Bd,aU (by decide) rfl,by show 3<=sizeLine;decide,fun r hr=>ke r _ (a9.trans s5 (a9.upd hr)) (by rw[a8,<- ws];rfl)⟩
    ·cases ws
   ·have c0:¬RM.hgt (Roof.halvesOf C) (RM.aC ((RM.tP u).1,(RM.tP u).2.1) c)=0:=fun z=>c0 (beq_iff_eq.mpr z)
    rw[af c0]at ws;rcases ws with ws|⟨u',m,ws,qx,hm,dd⟩
    ·cases ws
    ·injection ws with ws
     refine⟨_,rfl,_,rfl,.ref q,.ref fa,RM.hP (u/4),RM.aC (RM.hP (u/4)) c,rfl,⟨q,rfl,s4 _ _ vp⟩,⟨fa,rfl,Bd⟩,fun b H5 s6 tb=>?_⟩;obtain⟨ba,rfl,yn⟩:=tb;have ht5:=s6 _ _ (s4 _ _ ht3);refine⟨_,rfl,ba,_,_,_,rfl,rfl,SqT.of yn,aU (by decide) rfl,_,rfl,ba,_,_,_,rfl,rfl,SqT.of yn,aU (by decide) rfl,_,rfl,ta,_,_,_,rfl,rfl,SqT.of ht5,aU (by decide) rfl,by show 3<=sizeLine;decide,fun z hz=>?_⟩;have hd:RM.aS (Roof.halvesOf C) (RM.bQ (RM.hP (u/4)) c)=RM.aS (Roof.halvesOf C) (RM.hP (u/4)) - 1:=(congrArg (fun t:PI3=>RM.aS (Roof.halvesOf C) (t.1,t.2.1)) ws).trans dd;refine⟨⟨z,u',m,_,_,_,_,rfl,a9.trans (a9.trans s5 s6) (a9.upd hz),by rw[a8,<- ws];rfl,qx,hm⟩,?_⟩;refine gk (ie (xO a8)) ?_;show(RM.aS (Roof.halvesOf C) (RM.bQ (RM.hP (u/4)) c)).toNat<(RM.aS (Roof.halvesOf C) (RM.hP (u/4))).toNat
     have:=(RM.jS (RM.aP hb) (RM.hP (u'/4))).mpr (au.mpr ⟨_,RM.cV.mp qx,rfl⟩);omega
  ·have hc:RM.fU (Roof.halvesOf C) ((RM.tP u).1,(RM.tP u).2.1)=none:=hc;unfold RM.rY at ws;rw[hc]at ws;dsimp only at ws;have s5:=a9.trans s3 s4;have ht4:=s4 _ _ ht3;have hq4:=s4 _ _ vp;have fl:=RM.L1 (RM.aP hb) Cj;have g3:=R3.get (p:=RM.tP u) (x8.mono s5) ht4;rw[fE,RM.FJ (by show(0:Int)<=((u%4:Nat):Int);omega) (by show((u%4:Nat):Int)<4;omega) (au.mpr ⟨_,zu,rfl⟩)]at g3;refine⟨_,rfl,_,rfl,cB (fun _=>?_) (fun z=>absurd (by decide) z)⟩;refine⟨_,rfl,q,_,_,_,rfl,rfl,SqT.of hq4,aU (by decide) rfl,_,rfl,q,_,_,_,rfl,rfl,SqT.of hq4,aU (by decide) rfl,_,rfl,x,d.Roof,dx,fs,_,rfl,s5 _ _ x1,T.cQ,T.j0,x4,_,rfl,fA,_,rfl,g3,by show 3<=sizeLine;decide,fun l hl=>?_⟩;have s6:=a9.trans s5 (a9.upd (o:=.tup [.int (RM.hP (u/4)).1,.int (RM.hP (u/4)).2,.int (RM.e7 (Roof.halvesOf C) (RM.tP u))]) hl);have hl6:(upd H4 l (.tup [.int (RM.hP (u/4)).1,.int (RM.hP (u/4)).2,.int (RM.e7 (Roof.halvesOf C) (RM.tP u))])) l=_:=a8;generalize (upd H4 l (.tup [.int (RM.hP (u/4)).1,.int (RM.hP (u/4)).2,.int (RM.e7 (Roof.halvesOf C) (RM.tP u))]))=H6 at s6 hl6 ⊢;refine⟨_,rfl,.ref l,((RM.hP (u/4)).1,(RM.hP (u/4)).2,RM.e7 (Roof.halvesOf C) (RM.tP u)),rfl,⟨l,rfl,hl6⟩,fl.1,fl.2,fun z H7 s7 tz=>?_⟩;obtain⟨za,rfl,hza⟩:=tz;have s8:=a9.trans s6 s7;have g4:=R3.get (x8.mono s8) hza;refine⟨_,rfl,_,rfl,x,d.Roof,dx,fs,_,rfl,s8 _ _ x1,T.cQ,T.j0,x4,fA,_,rfl,g4,_,rfl,?_⟩
   have fm:(RM.aN (RM.c6 (Roof.halvesOf C)) ((RM.aK ((RM.tP u).1,(RM.tP u).2.1) (RM.e7 (Roof.halvesOf C) (RM.tP u)).toNat).1,(RM.aK ((RM.tP u).1,(RM.tP u).2.1) (RM.e7 (Roof.halvesOf C) (RM.tP u)).toNat).2,(RM.e7 (Roof.halvesOf C) (RM.tP u)+2)%4)).isSome=true↔RM.aK ((RM.tP u).1,(RM.tP u).2.1) (RM.e7 (Roof.halvesOf C) (RM.tP u)).toNat∈(Roof.halvesOf C).map RM.hP:=RM.zO (by dsimp only;omega) (by dsimp only;omega);rw[DZ];refine cB (fun c0=>?_) (fun c0=>?_)
   ·have c1:¬RM.aK ((RM.tP u).1,(RM.tP u).2.1) (RM.e7 (Roof.halvesOf C) (RM.tP u)).toNat∈(Roof.halvesOf C).map RM.hP:=fun z=>absurd (c0.symm.trans (congrArg (! ·) (fm.mpr z))) (by decide)
    rw[af c1]at ws;rcases ws with ws|⟨u',m,ws,_⟩
    ·injection ws with ws
     have hl7:=s7 _ _ hl6;refine⟨_,rfl,l,_,_,_,rfl,rfl,SqT.of hl7,aU (by decide) rfl,_,rfl,l,_,_,_,rfl,rfl,SqT.of hl7,aU (by decide) rfl,_,rfl,l,_,_,_,rfl,rfl,SqT.of hl7,aU (by decide) rfl,by show 4<=sizeLine;decide,fun r hr=>ke r _ (a9.trans s8 (a9.upd hr)) (by rw[a8,<- ws];rfl)⟩
    ·cases ws
   ·have c1:RM.aK ((RM.tP u).1,(RM.tP u).2.1) (RM.e7 (Roof.halvesOf C) (RM.tP u)).toNat∈(Roof.halvesOf C).map RM.hP:=by
     apply fm.mp;apply Classical.byContradiction;exact fun z=>c0 (by rw[Bool.not_eq_true]at z;show(! (RM.aN (RM.c6 (Roof.halvesOf C)) _).isSome)=true;exact congrArg (! ·) z)
    rw[ah c1]at ws;rcases ws with ws|⟨u',m,ws,qx,hm,dd⟩
    ·cases ws
    ·injection ws with ws
     have hd:RM.aS (Roof.halvesOf C) (RM.aK (RM.hP (u/4)) (RM.e7 (Roof.halvesOf C) (RM.tP u)).toNat)=RM.aS (Roof.halvesOf C) (RM.hP (u/4)) - 1:=(congrArg (fun t:PI3=>RM.aS (Roof.halvesOf C) (t.1,t.2.1)) ws).trans dd;refine⟨⟨za,u',m,_,_,_,_,rfl,s8,by rw[hza,<- ws];rfl,qx,hm⟩,?_⟩;refine gk (ie (xO hza)) ?_;show(RM.aS (Roof.halvesOf C) (RM.aK (RM.hP (u/4)) (RM.e7 (Roof.halvesOf C) (RM.tP u)).toNat)).toNat<(RM.aS (Roof.halvesOf C) (RM.hP (u/4))).toNat
     have:=(RM.jS (RM.aP hb) (RM.hP (u'/4))).mpr (au.mpr ⟨_,RM.cV.mp qx,rfl⟩);omega
 ·exact fun σ H Q Q' f ⟨b,e,z⟩=>⟨b,e,f _ _ z⟩
abbrev s_fa:Stmt:=(top 73)
theorem sc_fa:aM ["end","cell"] ["end"] (aI s_fa):=fS
noncomputable def sp_fa(K:W.Frag)(d:Adr):Sp:=fun vs H Q _=>∃(a:Addr)(e:Roof.End),vs=[.ref a]/\H a=some (.tup ((RM.jR e).map V.int))/\∀r H',a9 H H'->T2 H' r (RM.kQ (RM.jR e))->Q r H'
theorem ok_fa(F:Fun K "foot_at" "foot_at" s_fa f fd)(T:Txt K mg base d)(D_ss:aQ P w K mg base CX0 2 "side_start" ["square","side"] (sp_ss K d)):bO P w K mg base CX0 3 f fd ["end"] (sp_fa K d):=by
 refine F.ok sc_fa (fun vs H Q E h=>by obtain⟨a,e,rfl,_⟩:=h;rfl) (fun _ _ _ _ H _ Q E hr h=>?_);have hu:=bK hr;obtain⟨a,e,rfl,ha,k⟩:=h;refine⟨_,(aA (psN (i:=1) sc_fa.nd (d4 (a7 (dE CY (bG bB (pv 0) aL (fun _ _=>rfl)) aL) (a7 (dE CY (bG bB (pv 0) aL (fun _ _=>rfl)) aL) aD))))
   (aA (cI (bU hV (bG bB (pv 0) aL (fun _ _=>rfl)) (d3 T.qZ rfl) (c7 _)) (aE (aR (pv 1))) bH)
   (aE (aR (aT D_ss (hm hr) aX rfl (a7 (pv 1) (a7 (bG bB (pv 0) aL (fun _ _=>rfl)) aD))))))),?_⟩
 cases e with
 |eave t=>have ha:H a=some (.tup [.int 0,.int (Roof.iOf (t/4):Int),.int (Roof.jOf (t/4):Int),.int ((t%4:Nat):Int)]):=ha;refine⟨_,rfl,a,_,_,_,rfl,rfl,SqT.of ha,aU (by decide) rfl,_,_,rfl,rfl,⟨by decide,by decide⟩,_,rfl,a,_,_,_,rfl,rfl,SqT.of ha,aU (by decide) rfl,_,_,rfl,rfl,⟨by decide,by decide⟩,by show 2<=sizeLine;decide,fun q hq=>?_⟩;have s1:=a9.upd (o:=.tup [.int ((Roof.iOf (t/4):Int)/2),.int ((Roof.jOf (t/4):Int)/2)]) hq;have ha1:=s1 _ _ ha;refine⟨_,rfl,a,_,_,_,rfl,rfl,SqT.of ha1,aU (by decide) rfl,rfl,_,rfl,?_⟩;rw[jT];refine cB (fun c=>absurd c (by decide)) (fun c=>?_);refine⟨_,rfl,_,rfl,a,_,_,_,rfl,rfl,SqT.of ha1,aU (by decide) rfl,.ref q,((Roof.iOf (t/4):Int)/2,(Roof.jOf (t/4):Int)/2),t%4,rfl,T2.c ⟨q,rfl,a8⟩,mod_lt _ (by decide),fun r H2 s2 t2=>k r H2 (a9.trans s1 s2) t2⟩
 |corner p=>have ha:H a=some (.tup [.int 1,.int (p.1:Int),.int (p.2:Int)]):=ha;refine⟨_,rfl,a,_,_,_,rfl,rfl,SqT.of ha,aU (by decide) rfl,_,_,rfl,rfl,⟨by decide,by decide⟩,_,rfl,a,_,_,_,rfl,rfl,SqT.of ha,aU (by decide) rfl,_,_,rfl,rfl,⟨by decide,by decide⟩,by show 2<=sizeLine;decide,fun q hq=>?_⟩;have s1:=a9.upd (o:=.tup [.int ((p.1:Int)/2),.int ((p.2:Int)/2)]) hq;have ha1:=s1 _ _ ha;refine⟨_,rfl,a,_,_,_,rfl,rfl,SqT.of ha1,aU (by decide) rfl,rfl,_,rfl,?_⟩;rw[jT];exact cB (fun c=>⟨_,rfl,k _ _ s1 ⟨q,rfl,a8⟩⟩) (fun c=>absurd (by decide) c)
abbrev s_wr2:Stmt:=(top 75)
theorem sc_wr2:aM ["roof","walls","numbers","rows","triangle","end","feet"] ["roof"] (aI s_wr2):=fS
theorem G1{X:Cx}{K:W.Frag}(hK:X.K=K):lH X (.builtin "len") (fun xs H Q=>∃p ys,xs=[.ref p]/\(SqL K H p ys\/SqT K H p ys)/\Q (.int ys.length) H):=hK▸bP
theorem EK{C:List (Nat×Nat)}{i j:Nat}(h:∀c,c<(RM.bE C).length->c≠j->RM.m7 C (i+1) c=RM.m7 C i c):RM.gB C (i+1)=(RM.gB C i).set j (RM.m7 C (i+1) j):=by
 apply ext_getElem?;intro c;rw[List.getElem?_set];by_cases hc:c<(RM.bE C).length
 ·rw[RM.nF hc,RM.nF hc];by_cases e:j=c
  ·subst e;rw[ah rfl,ah (by rw[RM.dY];exact hc)]
  ·rw[af e,h c hc (fun z=>e z.symm)]
 ·rw[ik (by rw[RM.dY];omega),ik (by rw[RM.dY];omega)];split
  ·rw[af (by rw[RM.dY];omega)]
  ·rfl
noncomputable def sp_wr2(K:W.Frag)(d:Adr):Sp:=fun vs H Q _=>∃(x cA dA hA fA nA gA:Addr)(C:List (Nat×Nat))(ht:List (PI×Int))(Ns:List (List PI3)),vs=[.ref x]/\CF C d.Roof H x cA dA hA fA nA gA ht Ns/\Roof.isHouse C=true/\∀r H',a9 H H'->LLI H' r (RM.gB C (Roof.topOf C).tris.length)->Q (.ref r) H'
theorem ok_wr2(F:Fun K "wall_rows" "wall_rows" s_wr2 f fd)(T:Txt K mg base d)(D_wr3:aQ P w K mg base CX0 6 "walls_round" ["cells"] (sp_wr3 K d))(D_wn:aQ P w K mg base CX0 1 "wall_numbers" ["walls"] (sp_wn K d))(D_we:aQ P w K mg base CX0 4 "water_end" ["triangle","roof"] (sp_we K d))(D_fa:aQ P w K mg base CX0 3 "foot_at" ["end"] (sp_fa K d)):bO P w K mg base CX0 7 f fd ["roof"] (sp_wr2 K d):=by
 refine F.ok sc_wr2 (fun vs H Q E h=>by obtain⟨x,cA,dA,hA,fA,nA,gA,C,ht,Ns,rfl,_⟩:=h;rfl) (fun _ _ _ _ H _ Q E hr h=>?_);have hu:=bK hr;obtain⟨x,cA,dA,hA,fA,nA,gA,C,ht,Ns,rfl,ra,hH,k⟩:=h;refine⟨_,(aA (psN (i:=1) sc_wr2.nd (aT D_wr3 (hm hr) aX rfl (a7 (gP (pv 0) rfl) aD)))
   (aA (psN (i:=2) sc_wr2.nd (aT D_wn (hm hr) aX rfl (a7 (pv 1) aD)))
   (aA (nJ (i:=3) (own:=[("feet",6)]) rfl sc_wr2.nd rfl rfl (by exact lJ rfl rfl rfl rfl) (d8 (pv 1)) (eG (by first|decide+kernel|kernel_rfl)) (fun _ _ _ _ _=>(pgN (i:=6) sc_wr2.nd)) (fun _ _ _ _ _=>nI) (fun _ _ _ _ _=>(eZ (a7 aL (a7 aL (a7 (bR (G1 (K:=K) rfl) (by rfl) T.len PySem.boot_len (a7 (pv 6) aD)) aD))))))
   (aA (jC (bY PassesOwn.never rfl (lO (gP (pv 0) rfl)) (pgN (i:=4) sc_wr2.nd) (aA (psN (i:=5) sc_wr2.nd (aT D_we (hm hr) aX rfl (a7 (pv 4) (a7 (pv 0) aD))))
   (aE (JX (bG iA (pv 3) (fN hu (pv 2) (aT D_fa (hm hr) aX rfl (a7 (pv 5) aD)) (fun _ _=>rfl)) (fun _ _=>rfl)) (bG bB (pv 5) aL (fun _ _=>rfl)) J0 aL BN set_list)))))
   (aE (aR (pv 3))))))),?_⟩
 obtain⟨_,hl,hb,_,hp⟩:=RM.kN hH;obtain⟨dx,fs,hx,q1,q2,q3,q4,_⟩:=ra.ins;have lf:=RM.k9 hp;have ln:=RM.hJ hp;refine⟨_,rfl,x,d.Roof,dx,fs,_,rfl,hx,T.cQ,T.D1,q1,cA,C,rfl,ra.cells,hl,hp,fun w H1 s1 lw=>?_⟩;refine⟨_,rfl,w,RM.bE C,rfl,lw,by omega,by omega,RM.rV hp,fun n oo H2 s2 fn hn W=>?_⟩;obtain⟨_,ws,e,hw,pw⟩:=lw.mono s2;cases e;have lws:=pairs_len pw;have sH:=a9.trans s1 s2;refine⟨_,rfl,w,rfl,⟨_,SqL.of hw⟩,fun D hD=>jI (K:=K) (a:=w) (xs:=ws)
  (fun i H3=>a9 H2 H3/\∃bs:List Addr,H3 D=some (.lst (bs.map V.ref))/\bs.Nodup/\Paired (fun b row=>b≠D/\H2 b=none/\H3 b=some (.lst (row.map V.int))) bs ((RM.gB C 0).take i)) ⟨a9.upd hD,[],a8,nodup_nil,.nil⟩ (fun i H3 _ ⟨s3,_⟩=>s3.seq (SqL.of hw)) ?_ ?_⟩
 ·rintro i v H3 hv ⟨s3,bs,h3,nd,pb⟩;obtain⟨L,hL,la,ls,rfl,su,pl⟩:=pairs_at pw hv;have qy:(RM.gB C 0)[i]? =some [0,0,(L.length:Int)]:=by rw[RM.JU,ax,hL];rfl
  have ll:=pairs_len pl;have lb:=pairs_len pb;rw[bw,RM.dY]at lb;refine⟨rfl,_,rfl,la,ls,rfl,.inl (s3.seq (SqL.of su)),by show 3<=sizeLine;decide,fun r hr=>?_⟩;have s4:=a9.trans s3 (a9.upd (o:=.lst [.int 0,.int 0,.int (ls.length:Nat)]) hr);have nrD:r≠D:=fun z=>by rw[z,h3]at hr;cases hr
  refine⟨_,a9.upd hr _ _ h3,by rw[ag];exact few (m:=5000) (by omega),a9.put s4 hD,bs++[r],by rw[a8,cg];rfl,?_,?_⟩
  ·rw[cv];refine⟨nd,de.mpr ⟨gg,nodup_nil⟩,fun a ha b sv e=>?_⟩;obtain⟨i',qh⟩:=dt.mp ha;obtain⟨row,_,_,_,z⟩:=pairs_at pb qh;rw[e,iq.mp sv,hr]at z;cases z
  ·rw[RM.take_snoc qy];exact aY ⟨nrD,s3.free hr,by rw[aB nrD,a8,ll];rfl⟩ (aJ (fun b row ⟨n1,n2,z⟩=>⟨n1,n2,by rw[aB n1];exact a9.upd hr _ _ z⟩) pb)
 ·rintro H3 ⟨s3,bs,h3,nd,pb⟩;rw[lws,<- RM.dY C 0,take_length]at pb;have sH3:=a9.trans sH s3;have hF2:D3 H2 fA (IV (RM.c6 (Roof.halvesOf C))):=sH _ _ ra.DL;have Ak:D3 H3 fA (IV (RM.c6 (Roof.halvesOf C))):=s3 _ _ hF2;have z:=ra.apart;have nhf:hA≠fA:=fun e=>by simp[e]at z
  have ndf:dA≠fA:=fun e=>by simp[e]at z
  have nxf:x≠fA:=dF (sH3 _ _ hx) Ak (fun z=>nomatch z);have nDf:D≠fA:=dF h3 Ak (fun z=>nomatch z);have nnf:n≠fA:=(aH (s1 _ _ ra.DL) fn).symm;refine⟨fA,.dT (kvF k3 (IV (RM.c6 (Roof.halvesOf C)))),Ak,trivial,fun od=>?_⟩;have RL:∀H4,a9 (upd H2 fA (.frz od (.dT (kvF k3 (IV (RM.c6 (Roof.halvesOf C))))))) H4->wL (Roof.halvesOf C) d.Roof H4 x:=fun H4 s4=>
   ⟨dx,fs,dA,hA,fA,ht,s4 _ _ (by rw[aB nxf];exact sH _ _ hx),q2,q3,q4,D2.rd (s4 _ _ (by rw[aB ndf];exact sH _ _ ra.NB)),D2.rd (s4 _ _ (by rw[aB nhf];exact sH _ _ ra.KP)),ra.hok,.inr ⟨od,s4 _ _ a8⟩⟩
  refine⟨_,rfl,x,d.Roof,dx,fs,_,rfl,by rw[aB nxf];exact sH3 _ _ hx,T.cQ,T.j0,q4,fA,od,rfl,.inr ⟨_,a8,kP (d:=fA) (od:=od) (kvs:=kvF k3 (IV (RM.c6 (Roof.halvesOf C))))
   (fun i σ H4=>∃(v4 v5 v6:Option V),σ=[some (.ref x),some (.ref w),some (.ref n),some (.ref D),v4,v5,v6]/\a9 (upd H2 fA (.frz od (.dT (kvF k3 (IV (RM.c6 (Roof.halvesOf C))))))) H4/\H4 D=some (.lst (bs.map V.ref))/\Paired (fun b row=>H4 b=some (.lst (row.map V.int))) bs (RM.gB C i))
   ⟨none,none,none,rfl,a9.both s3,by rw[aB nDf];exact h3,aJ (fun b row ⟨_,_,z⟩=>by rw[aB (dF z Ak (fun z=>nomatch z))];exact z) pb⟩ (fun i σ H4 ⟨_,_,_,_,s4,_⟩=>s4 _ _ a8) ?_ ?_⟩⟩
  ·rintro i kk vv q σ H4 hi hq ⟨v4,v5,v6,rfl,s4,h4,p4⟩;obtain⟨t,Cn,rfl⟩:=BJ hi;obtain⟨tn,Bb,rfl⟩:∃tn,(Roof.trianglesOf (Roof.halvesOf C))[i]? =some tn/\t=RM.tP tn:=by
    have:=congrArg (Option.map Prod.fst) Cn;rw[<- ax,rQ,RM.gM,ax]at this;cases e:(Roof.trianglesOf (Roof.halvesOf C))[i]? with
    |none=>rw[e]at this;cases this
    |some tn=>rw[e]at this;exact⟨tn,rfl,(Option.some.inj this).symm⟩
   have hm:tn∈(Roof.topOf C).tris:=az Bb;obtain⟨e,he⟩:=RM.J8 hb hm;obtain⟨u,Cj,hg⟩:=RM.last_step hb _ hm he;obtain⟨j,⟨P',hP,hmP⟩,_⟩:=RM.zS hb hp Cj hg;obtain⟨⟨s0,a0,b0,c0,ee,er,cs,_,_,_,_⟩,rest⟩:=RM.AS (i:=i) hb hp hl Bb he hP hmP;have rn:=EK rest;have hjl:=tQ hP;obtain⟨b,hbj,hb4⟩:=gS p4 (RM.nF hjl);refine⟨_,rfl,_,rfl,.ref q,x,tn,C,rfl,⟨q,rfl,hq⟩,hm,hb,RL H4 s4,fun e' Dn r H5 s5 hr=>?_⟩;cases he.symm.trans Dn;refine⟨_,rfl,_,rfl,_,rfl,r,e,rfl,hr,fun y H6 s6 ty=>?_⟩;obtain⟨ya,rfl,uw⟩:=ty;have Br:=a9.trans s5 s6;have s26:=a9.trans s4 Br;have g:=R2.get (p:=RM.kQ (RM.jR e)) (D2.rd (s26 _ _ (by rw[aB nnf];exact hn))) uw;rw[fE,W j P' _ hP hmP]at g;have hr6:=s6 _ _ hr;rw[ee]at hr6;have Du:=Br _ _ hb4;rw[er]at Du;obtain⟨row,_,nbD,fb,_⟩:=pairs_at pb hbj;have fb2:(upd H2 fA (.frz od (.dT (kvF k3 (IV (RM.c6 (Roof.halvesOf C))))))) b=none:=fH hF2 fb;refine⟨n,_,rfl,g,D,_,_,.ref b,rfl,rfl,SqL.of (Br _ _ h4),aU (gc _) (by show(bs.map V.ref)[j]? = _;rw[ax,hbj];rfl),_,rfl,r,_,_,_,rfl,rfl,SqT.of hr6,aU (by decide) rfl,?_⟩;have fin:∀ui:List Int,RM.m7 C (i+1) j=ui->a9 (upd H2 fA (.frz od (.dT (kvF k3 (IV (RM.c6 (Roof.halvesOf C))))))) (upd H6 b (.lst (ui.map V.int)))/\(upd H6 b (.lst (ui.map V.int))) D=some (.lst (bs.map V.ref))/\Paired (fun b2 row=>(upd H6 b (.lst (ui.map V.int))) b2=some (.lst (row.map V.int))) bs (RM.gB C (i+1)):=fun ui e'=>by
    refine⟨a9.put s26 fb2,by rw[aB nbD.symm];exact Br _ _ h4,?_⟩;rw[rn,e'];refine sX p4 (fun i' a c ha _ ne h=>?_) (fun a ha=>?_)
    ·rw[aB (HY nd ha hbj ne)];exact Br _ _ h
    ·rw[hbj]at ha;cases ha;exact a8
   rcases cs with⟨rfl,ew⟩|⟨rfl,ew⟩
   ·obtain⟨f1,f2,f3⟩:=fin _ ew;exact⟨b,_,_,_,rfl,rfl,SqL.of Du,by decide,rfl,_,_,rfl,rfl,b,_,_,0,rfl,rfl,Du,rfl,_,_,_,rfl,f1,f2,f3⟩
   ·obtain⟨f1,f2,f3⟩:=fin _ ew;exact⟨b,_,_,_,rfl,rfl,SqL.of Du,by decide,rfl,_,_,rfl,rfl,b,_,_,1,rfl,rfl,Du,rfl,_,_,_,rfl,f1,f2,f3⟩
  ·rintro σ H4 ⟨v4,v5,v6,rfl,s4,h4,p4⟩;have el:(kvF k3 (IV (RM.c6 (Roof.halvesOf C)))).length=(Roof.topOf C).tris.length:=by have:=congrArg List.length (RM.gM (Roof.halvesOf C));rw[ag,ag]at this;rw[f9,fD,this];rfl
   rw[el]at p4;refine⟨s4 _ _ a8,_,rfl,k D _ (a9.trans sH (a9.unlock hF2 s4)) ⟨bs.map V.ref,by rw[aB nDf];exact h4,sZ (aJ (fun b row z=>⟨b,rfl,?_⟩) p4)⟩⟩;rw[aB (dF z (s4 _ _ a8) (fun z=>nomatch z))];exact z
abbrev uZ:Stmt:=(top 18)
theorem MA:aM ["tell"] ["tell"] (aI uZ):=fS
noncomputable def hds(d:Adr):List HD:=[⟨"NoHouse",d.cH,1,⟨35,11,35,18⟩,⟨36,17,36,18⟩,⟨36,16,36,18⟩,⟨36,15,36,19⟩,⟨36,8,36,19⟩,⟨35,4,36,19⟩⟩,⟨"OutOfBounds",d.cK,3,⟨37,11,37,22⟩,⟨38,17,38,18⟩,⟨38,16,38,18⟩,⟨38,15,38,19⟩,⟨38,8,38,19⟩,⟨37,4,38,19⟩⟩,⟨"Outside",d.fQ,5,⟨39,11,39,18⟩,⟨40,17,40,18⟩,⟨40,16,40,18⟩,⟨40,15,40,19⟩,⟨40,8,40,19⟩,⟨39,4,40,19⟩⟩,⟨"NoFace",d.iO,6,⟨41,11,41,17⟩,⟨42,17,42,18⟩,⟨42,16,42,18⟩,⟨42,15,42,19⟩,⟨42,8,42,19⟩,⟨41,4,42,19⟩⟩,⟨"NoSize",d.iN,7,⟨43,11,43,17⟩,⟨44,17,44,18⟩,⟨44,16,44,18⟩,⟨44,15,44,19⟩,⟨44,8,44,19⟩,⟨43,4,44,19⟩⟩]
theorem NL(d:Adr):fB uZ=[.Try [.Return (some (.Call (.Name "tell" ⟨34,15,34,19⟩) [] [] ⟨34,15,34,21⟩)) ⟨34,8,34,21⟩] ((hds d).map HD.h) [] [] ⟨33,4,44,19⟩]:=rfl
structure Ans(K:W.Frag)(mg:Str->Option Value)(base:Heap)(d:Adr)(fA:Addr)(fdA:FuncData):Prop where
 fn:Fun K "answer_or_refusal" "answer_or_refusal" uZ fA fdA
 at_:mg "answer_or_refusal" =some (.ref fA)
 bind:Binds K fdA ["tell"] []
 j5:mg "NoHouse" =some (.ref d.cH)
 iR:gY base d.cH
 eJ:mg "OutOfBounds" =some (.ref d.cK)
 e9:gY base d.cK
 j4:mg "Outside" =some (.ref d.fQ)
 iQ:gY base d.fQ
 lA:mg "NoFace" =some (.ref d.iO)
 k8:gY base d.iO
 l9:mg "NoSize" =some (.ref d.iN)
 k7:gY base d.iN
 ap:[d.cH,d.cK,d.fQ,d.iO,d.iN].Nodup
 bm:NP mg base
theorem Ans.MU{K:W.Frag}{mg:Str->Option Value}{base:Heap}{d:Adr}{fA:Addr}{fdA:FuncData}(A:Ans K mg base d fA fdA):∀h∈hds d,mg h.x=some (.ref h.C)/\(aI uZ).names.lookup h.x=some .globalImplicit/\gY base h.C/\(h.x==("__debug__" : Str))=false:=by
 intro h hh;rcases ar.mp hh with rfl|hh
 ·exact⟨A.j5,rfl,A.iR,rfl⟩
 rcases ar.mp hh with rfl|hh
 ·exact⟨A.eJ,rfl,A.e9,rfl⟩
 rcases ar.mp hh with rfl|hh
 ·exact⟨A.j4,rfl,A.iQ,rfl⟩
 rcases ar.mp hh with rfl|hh
 ·exact⟨A.lA,rfl,A.k8,rfl⟩
 rcases ar.mp hh with rfl|hh
 ·exact⟨A.l9,rfl,A.k7,rfl⟩
 exact(nomatch hh)
theorem Ans.BS{K:W.Frag}{mg:Str->Option Value}{base:Heap}{d:Adr}{fA:Addr}{fdA:FuncData}(A:Ans K mg base d fA fdA){H H0:Hp}{Q:VK}(h:∀p,H p=none->Q (.ref p) (upd H p (.lst [.int (-1)]))):XA (hds d) H Q (.ref d.cH) none H0:=by
 have nd:=A.ap;simp only[de,ar,gg,or_false,not_or]at nd;refine⟨_,rfl,⟨_,az (i:=0) rfl,rfl⟩,fun e he hC p hp=>?_⟩;rcases ar.mp he with rfl|he
 ·exact h p hp
 rcases ar.mp he with rfl|he
 ·exact absurd hC (by intro z;simp_all)
 rcases ar.mp he with rfl|he
 ·exact absurd hC (by intro z;simp_all)
 rcases ar.mp he with rfl|he
 ·exact absurd hC (by intro z;simp_all)
 rcases ar.mp he with rfl|he
 ·exact absurd hC (by intro z;simp_all)
 exact(nomatch he)
theorem M9{K:W.Frag}{H:Hp}{tb a:Addr}{xs:List V}{ps qs:Array Value}(h:SqL K H a xs)(ht:H tb=some (.tbl ps)):SqL K (hT H tb qs) a xs:=by
 rcases h with h|h
 ·left;have n:a≠tb:=fun z=>by rcases h with h|⟨o,h⟩<;>(rw[z,ht]at h;cases h)
  rcases h with h|⟨o,h⟩
  ·exact .inl (by unfold hT;rw[aB n];exact h)
  ·exact .inr ⟨o,by unfold hT;rw[aB n];exact h⟩
 ·exact .inr h
abbrev s_f:Stmt:=(top 79)
theorem sc_f:aM ["t"] ["t"] (aI s_f):=fS
noncomputable def sp_f(K:W.Frag)(tb:Addr):Sp:=fun vs H Q _=>∃(rt:Addr)(nt:List Int),vs=[.ref rt]/\SqL K H rt (nt.map V.int)/\nt.length<=4096/\RM.inB nt/\p9 tb H/\
 ∀p H',H' p=some (.lst ((RoofBNeutral.f [[5],nt]).map V.int))->Q (.ref p) H'
noncomputable def JN(K:W.Frag)(d:Adr):XK->Hp->TE:=fun E H=>(xY (sp_c K d) [] E0 (CK (xY (sp_wr2 K d) [] E0 (CK (xY (sp_rt K d) [] (fun c _ _=>E c none H) (CK (M0 0) JP)) JP)) JP))
theorem ok_f{P:Program}{w:World}{K:W.Frag}{mg:Str->Option Value}{base:Heap}{d:Adr}{f fA c tb:Addr}{fd fdA:FuncData}(F:Fun K "walls" "walls" s_f f fd)(T:Txt K mg base d)(AN:Ans K mg base d fA fdA)(Dl:fd.code=.ref c)(hC:W.CodeHd base c tb)(D_c:aQ P w K mg base CX0 1 "counted" ["rows"] (sp_c K d))(D_wr2:aQ P w K mg base CX0 7 "wall_rows" ["roof"] (sp_wr2 K d))(D_rt:aQ P w K mg base CXf 9 "roof_told" ["t"] (sp_rt K d)):bO P w K mg base CXf 12 f fd ["t"] (sp_f K tb):=by
 obtain⟨oc,od,kV,mm,pm,an,kc,ct,nv,rfl,lk,pf⟩:=F.ex;obtain⟨oc2,od2,kV2,doc2,pm2,an2,cdv2,ct2,osl2,e2,lk2,hcd2⟩:=AN.fn.ex;obtain rfl:kc=.ref c:=Dl;subst e2;refine J1 lk pf sc_f (fun vs H Q E h=>by obtain⟨rt,nt,rfl,_⟩:=h;rfl) (fun A outer s H vs Q E hr hok h=>?_);obtain⟨rt,nt,rfl,hSt,kh,hBt,⟨hE1,hE2⟩,k⟩:=h;refine⟨_,aE (aR (MH (k:=9) (teL:=JN K d) (T:=tb) AN.at_ lk2 hcd2 AN.fn.kp AN.bind MA rfl (NL d) rfl AN.MU rfl (by decide) hr (fun _=>rfl) rfl hC AN.bm rfl (fun _ _ _ _=>rfl) rfl rfl rfl (by decide+kernel) (fun y hy=>absurd rfl ((by decide+kernel:∀z∈ _,z.2≠NameKind.local) _ (PySem.mem_of_lookup hy))) (fun y hy he=>(by decide+kernel:∀z:Str×NameKind,z∈(_:List (Str×NameKind))->z.2=NameKind.free->(aI s_f).names.lookup z.1=some NameKind.cell) y hy he)
  (fun fl c' cl A outer s H E hr hok=>(aT D_c (hm hr) aX rfl (a7 (aT D_wr2 (hm hr) aX rfl (a7 (aT D_rt hr (OB hok) rfl (a7 (pv 0) aD)) aD)) aD))))),?_⟩
 refine⟨[.ref rt],#[],rfl,hE1,trivial,rfl,p9.flat hE2,fun more=>?_⟩;have hTb:hT H tb (#[]++more) tb≠none:=by unfold hT;rw[a8];intro z;cases z
 have hQ:∀(r:List Int)(H1:Hp)(p:Addr),RoofBNeutral.f [[5],nt]=r->p≠tb->H1 p=some (.lst (r.map V.int))->Q (.ref p) (upd H1 tb (.tbl (#[]++more))):=fun r H1 p e n q=>k p _ (by rw[aB n,e];exact q)
 have hX:∀r:Int,RoofBNeutral.f [[5],nt]=[r]->∀p,hT H tb (#[]++more) p=none->upd (hT H tb (#[]++more)) p (.lst [.int r]) tb=some (.frz (W.tabObj (#[]++more)) (.tbl (#[]++more)))->Q (.ref p) (upd (upd (hT H tb (#[]++more)) p (.lst [.int r])) tb (.tbl (#[]++more))):=fun r e p hp _=>
  hQ [r] _ p e (fun z=>hTb (z▸hp)) a8
 have xq:hT H tb (#[]++more) tb=some (.frz (W.tabObj (#[]++more)) (.tbl (#[]++more))):=by unfold hT;rw[a8]
 refine⟨_,rfl,rt,nt,rfl,M9 hSt hE1,kh,hBt,fun F hF hH x cA dA hA fA nA gA ht Ns H1 s1 ra=>?_,fun c=>AN.BS (hX _ (RM.uC c))⟩;obtain⟨_,tj,_,_,hp⟩:=RM.kN hH;have ln:=RM.hJ hp;have f3:∀L:List (List Int),(∀r∈L,r.length=3)->L.flatten.length=3*L.length:=fun L=>by
  induction L with
  |nil=>exact fun _=>rfl
  |cons a L ih=>intro h;rw[iw,aj,bq,h a (bj ..),ih fun r hr=>h r (aq _ hr)];omega
 have fl:=f3 (RM.gB (RM.aV F) (Roof.topOf (RM.aV F)).tris.length) (fun r hr=>by obtain⟨c,_,rfl⟩:=au.mp hr;rfl);have rl:=RM.dY (RM.aV F) (Roof.topOf (RM.aV F)).tris.length;refine⟨x,cA,dA,hA,fA,nA,gA,RM.aV F,ht,Ns,rfl,ra,hH,fun r H3 s3 rw_=>?_⟩;exact⟨r,_,rfl,rw_,by omega,by omega,fun p H4 s4 hp he _=>hQ _ H4 p (RM.A9 hF) (fun z=>by rw[z,s3 _ _ (s1 _ _ xq)]at hp;cases hp) he⟩
@[elab_as_elim] theorem el1{α:Type}{C:List α->Prop}:∀(us:List α),us.length=1->(∀x0,C [x0])->C us
 |[x0],_,k=>k x0
@[elab_as_elim] theorem el2{α:Type}{C:List α->Prop}:∀(us:List α),us.length=2->(∀x0 x1,C [x0,x1])->C us
 |[x0,x1],_,k=>k x0 x1
@[elab_as_elim] theorem el3{α:Type}{C:List α->Prop}:∀(us:List α),us.length=3->(∀x0 x1 x2,C [x0,x1,x2])->C us
 |[x0,x1,x2],_,k=>k x0 x1 x2
@[elab_as_elim] theorem el4{α:Type}{C:List α->Prop}:∀(us:List α),us.length=4->(∀x0 x1 x2 x3,C [x0,x1,x2,x3])->C us
 |[x0,x1,x2,x3],_,k=>k x0 x1 x2 x3
theorem JH{P:Program}{w:World}{K:W.Frag}{mg:Str->Option Value}{base:Heap}{d:Adr}(M:Mod K mg base)(T:Txt K mg base d){fI:Addr}{fdI:FuncData}(oh:Mk K d.Roof fI)(F_init:Fun K "__init__" "Roof.__init__" s_i fI fdI)
  (D_c:aG K "counted" s_c)
  (D_m:aG K "moved" s_m)
  (D_b:aG K "beyond" s_b)
  (D_ss:aG K "side_start" s_ss)
  (D_lo:aG K "left_of" s_lo)
  (D_haw:aG K "headings_along_walls" s_haw)
  (D_br:aG K "by_row" s_br)
  (D_wf:aG K "walk_from" s_wf)
  (D_wr:aG K "walks_round" s_wr)
  (D_fb:aG K "feet_between" s_fb)
  (D_wr3:aG K "walls_round" s_wr3)
  (D_wn:aG K "wall_numbers" s_wn)
  (D_fo4:aG K "foot_of" s_fo4)
  (D_o:aG K "opposite" s_o)
  (D_ta:aG K "triangle_across" s_ta)
  (D_ha:aG K "half_across" s_ha)
  (D_we:aG K "water_end" s_we)
  (D_fa:aG K "foot_at" s_fa)
  (D_wr2:aG K "wall_rows" s_wr2)
  (D_hco:aG K "half_cells_of" s_hco)
  (D_id:aG K "is_deeper" s_id)
  (D_do:aG K "depths_of" s_do)
  (D_ho:aG K "height_over" s_ho)
  (D_ho2:aG K "heights_of" s_ho2)
  (D_se:aG K "side_end" s_se)
  (D_ro:aG K "right_of" s_ro)
  (D_fo2:aG K "facing_of" s_fo2)
  (D_fo3:aG K "facings_of" s_fo3)
  (D_tol:aG K "triangle_on_left" s_tol)
  (D_tor:aG K "triangle_on_right" s_tor)
  (D_nf:aG K "number_face" s_nf)
  (D_no:aG K "numbers_of" s_no)
  (D_fo:aG K "faces_of" s_fo)
  (D_pb:aG K "parts_between" s_pb)
  (D_dt:aG K "digit_told" s_dt)
  (D_nt:aG K "number_told" s_nt)
  (D_ct:aG K "corner_told" s_ct)
  (D_wt:aG K "walk_told" s_wt)
  (D_wt2:aG K "walks_told" s_wt2)
  (D_far:aG K "feet_across_rows" s_far)
  (D_cw:aG K "cells_within" s_cw)
  (D_miap:aG K "meets_in_a_point" s_miap)
  (D_ij:aG K "is_joined" s_ij)
  (D_ih:aG K "is_house" s_ih)
  (D_ht:aG K "house_told" s_ht)
  (D_rt:aG K "roof_told" s_rt)
  : aQ P w K mg base CX0 1 "counted" ["rows"] (sp_c K d)/\aQ P w K mg base CX0 7 "wall_rows" ["roof"] (sp_wr2 K d)/\aQ P w K mg base CXf 9 "roof_told" ["t"] (sp_rt K d):=by
 have E_c:=D_c.ok M (fun _ _ F=>ok_c F T (P:=P) (w:=w)) fun _ _ _ _ _ _ us h=>el1 us h fun _=>rfl
 have E_m:=D_m.ok M (fun _ _ F=>ok_m F T (P:=P) (w:=w)) fun _ _ _ _ _ _ us h=>el2 us h fun _ _=>rfl
 have E_b:=D_b.ok M (fun _ _ F=>ok_b F T E_m) fun _ _ _ _ _ _ us h=>el2 us h fun _ _=>rfl
 have E_ss:=D_ss.ok M (fun _ _ F=>ok_ss F T E_m) fun _ _ _ _ _ _ us h=>el2 us h fun _ _=>rfl
 have E_lo:=D_lo.ok M (fun _ _ F=>ok_lo F T (P:=P) (w:=w)) fun _ _ _ _ _ _ us h=>el1 us h fun _=>rfl
 have E_haw:=D_haw.ok M (fun _ _ F=>ok_haw F T E_b E_ss E_lo) fun _ _ _ _ _ _ us h=>el1 us h fun _=>rfl
 have E_br:=D_br.ok M (fun _ _ F=>ok_br F T (P:=P) (w:=w)) fun _ _ _ _ _ _ us h=>el1 us h fun _=>rfl
 have E_wf:=D_wf.ok M (fun _ _ F=>ok_wf F T E_b) fun _ _ _ _ _ _ us h=>el3 us h fun _ _ _=>rfl
 have E_wr:=D_wr.ok M (fun _ _ F=>ok_wr F T E_haw E_br E_wf) fun _ _ _ _ _ _ us h=>el1 us h fun _=>rfl
 have E_fb:=D_fb.ok M (fun _ _ F=>ok_fb F T E_b) fun _ _ _ _ _ _ us h=>el3 us h fun _ _ _=>rfl
 have E_wr3:=D_wr3.ok M (fun _ _ F=>ok_wr3 F T E_haw E_wr E_fb) fun _ _ _ _ _ _ us h=>el1 us h fun _=>rfl
 have E_wn:=D_wn.ok M (fun _ _ F=>ok_wn F T (P:=P) (w:=w)) fun _ _ _ _ _ _ us h=>el1 us h fun _=>rfl
 have E_fo4:=D_fo4.ok M (fun _ _ F=>ok_fo4 F T E_ss) fun _ _ _ _ _ _ us h=>el2 us h fun _ _=>rfl
 have E_o:=D_o.ok M (fun _ _ F=>ok_o F T (P:=P) (w:=w)) fun _ _ _ _ _ _ us h=>el1 us h fun _=>rfl
 have E_ta:=D_ta.ok M (fun _ _ F=>ok_ta F T E_b E_o) fun _ _ _ _ _ _ us h=>el1 us h fun _=>rfl
 have E_ha:=D_ha.ok M (fun _ _ F=>ok_ha F T (P:=P) (w:=w)) fun _ _ _ _ _ _ us h=>el2 us h fun _ _=>rfl
 have E_we:=D_we.ok M (fun _ _ F=>ok_we F T E_fo4 E_ta E_ha) fun _ _ _ _ _ _ us h=>el2 us h fun _ _=>rfl
 have E_fa:=D_fa.ok M (fun _ _ F=>ok_fa F T E_ss) fun _ _ _ _ _ _ us h=>el1 us h fun _=>rfl
 have E_wr2:=D_wr2.ok M (fun _ _ F=>ok_wr2 F T E_wr3 E_wn E_we E_fa) fun _ _ _ _ _ _ us h=>el1 us h fun _=>rfl
 have E_hco:=D_hco.ok M (fun _ _ F=>ok_hco F T E_m E_br) fun _ _ _ _ _ _ us h=>el1 us h fun _=>rfl
 have E_id:=D_id.ok M (fun _ _ F=>ok_id F T E_m) fun _ _ _ _ _ _ us h=>el2 us h fun _ _=>rfl
 have E_do:=D_do.ok M (fun _ _ F=>ok_do F T E_hco E_id) fun _ _ _ _ _ _ us h=>el1 us h fun _=>rfl
 have E_ho:=D_ho.ok M (fun _ _ F=>ok_ho F T E_m) fun _ _ _ _ _ _ us h=>el2 us h fun _ _=>rfl
 have E_ho2:=D_ho2.ok M (fun _ _ F=>ok_ho2 F T E_ss E_ho) fun _ _ _ _ _ _ us h=>el1 us h fun _=>rfl
 have E_se:=D_se.ok M (fun _ _ F=>ok_se F T E_ss E_lo) fun _ _ _ _ _ _ us h=>el2 us h fun _ _=>rfl
 have E_ro:=D_ro.ok M (fun _ _ F=>ok_ro F T (P:=P) (w:=w)) fun _ _ _ _ _ _ us h=>el1 us h fun _=>rfl
 have E_fo2:=D_fo2.ok M (fun _ _ F=>ok_fo2 F T E_ss E_se E_lo E_ro E_o) fun _ _ _ _ _ _ us h=>el4 us h fun _ _ _ _=>rfl
 have E_fo3:=D_fo3.ok M (fun _ _ F=>ok_fo3 F T E_fo2) fun _ _ _ _ _ _ us h=>el2 us h fun _ _=>rfl
 have E_tol:=D_tol.ok M (fun _ _ F=>ok_tol F T E_lo) fun _ _ _ _ _ _ us h=>el1 us h fun _=>rfl
 have E_tor:=D_tor.ok M (fun _ _ F=>ok_tor F T E_ro) fun _ _ _ _ _ _ us h=>el1 us h fun _=>rfl
 have E_nf:=D_nf.ok M (fun _ _ F=>ok_nf F T E_tol E_tor E_ta) fun _ _ _ _ _ _ us h=>el4 us h fun _ _ _ _=>rfl
 have E_no:=D_no.ok M (fun _ _ F=>ok_no F T E_nf) fun _ _ _ _ _ _ us h=>el1 us h fun _=>rfl
 have E_fo:=D_fo.ok M (fun _ _ F=>ok_fo F T (P:=P) (w:=w)) fun _ _ _ _ _ _ us h=>el1 us h fun _=>rfl
 have b_init:Binds K fdI ["self","cells"] []:=F_init.binds fun _ _ _ _ _ _ us hl=>el2 us hl fun _ _=>rfl
 have E_i:bO P w K mg base CX0 7 fI fdI ["self","cells"] (sp_i K d):=ok_i F_init T E_do E_ho2 E_fo3 E_no E_fo;have E_pb:=D_pb.ok M (fun _ _ F=>ok_pb F T (P:=P) (w:=w)) fun _ _ _ _ _ _ us h=>el2 us h fun _ _=>rfl
 have E_dt:=D_dt.ok M (fun _ _ F=>ok_dt F T (P:=P) (w:=w)) fun _ _ _ _ _ _ us h=>el1 us h fun _=>rfl
 have E_nt:=D_nt.ok M (fun _ _ F=>ok_nt F T E_dt) fun _ _ _ _ _ _ us h=>el1 us h fun _=>rfl
 have E_ct:=D_ct.ok M (fun _ _ F=>ok_ct F T E_pb E_nt) fun _ _ _ _ _ _ us h=>el1 us h fun _=>rfl
 have E_wt:=D_wt.ok M (fun _ _ F=>ok_wt F T E_pb E_ct) fun _ _ _ _ _ _ us h=>el1 us h fun _=>rfl
 have E_wt2:=D_wt2.ok M (fun _ _ F=>ok_wt2 F T E_pb E_wt) fun _ _ _ _ _ _ us h=>el1 us h fun _=>rfl
 have E_far:=D_far.ok M (fun _ _ F=>ok_far F T (P:=P) (w:=w)) fun _ _ _ _ _ _ us h=>el1 us h fun _=>rfl
 have E_cw:=D_cw.ok M (fun _ _ F=>ok_cw F T E_far) fun _ _ _ _ _ _ us h=>el1 us h fun _=>rfl
 have E_miap:=D_miap.ok M (fun _ _ F=>ok_miap F T E_b E_lo) fun _ _ _ _ _ _ us h=>el2 us h fun _ _=>rfl
 have E_ij:=D_ij.ok M (fun _ _ F=>ok_ij F T E_b) fun _ _ _ _ _ _ us h=>el1 us h fun _=>rfl
 have E_ih:=D_ih.ok M (fun _ _ F=>ok_ih F T E_miap E_ij) fun _ _ _ _ _ _ us h=>el1 us h fun _=>rfl
 have E_ht:=D_ht.ok M (fun _ _ F=>ok_ht F T E_wt2 E_cw E_wr E_ih) fun _ _ _ _ _ _ us h=>el1 us h fun _=>rfl
 have E_rt:=D_rt.ok M (fun _ _ F=>ok_rt F T E_ht oh E_i b_init) fun _ _ _ _ _ _ us h=>el1 us h fun _=>rfl
 exact⟨E_c,E_wr2,E_rt⟩
abbrev rwL:W.OpenSpec:=PySem.Challenge.rw_rooftold_s05_walls
theorem O6:rwL.wellSaid=true:=by decide+kernel
theorem G3{args:List W.WData}(h:rwL.pre args=true):∃(nt:List Int),nt.length<=4096/\RM.inB nt/\args=[.list (nt.map W.WData.int)]/\
  ∀ds,rwL.claim.post args (.list ((RoofBNeutral.f [[5],nt]).map W.WData.int)) ds=true:=by
 obtain⟨a,h1,h2,rfl⟩:=(W.OpenSpec.pre_iff O6 args).mp h;clear h2 h;have key:∀a:List Int×Unit,W.Codec.withinAll rwL.args a=true->∃(nt:List Int),nt.length<=4096/\RM.inB nt/\W.Codec.encAll rwL.args a=[.list (nt.map W.WData.int)]/\
   ∀ds,rwL.claim.post (W.Codec.encAll rwL.args a) (.list ((RoofBNeutral.f [[5],nt]).map W.WData.int)) ds=true:=by
  rintro⟨nt,u'⟩ h1;have w1:((W.Codec.inNat 0 4096 nt.length&& nt.all (W.Codec.inInt 0 255))&& true)=true:=h1;simp only[dm,W.Codec.inInt_iff,W.Codec.inNat_iff,ir]at w1;exact⟨nt,w1.1.1.2,fun x hx=>w1.1.2 x hx,rfl,fun ds=>(W.OpenSpec.post_iff O6 h1 _ ds).mpr rfl⟩
 exact key a h1
theorem E9{K:W.Frag}{w:World}{s1:Shared}{mg mb:Str->Option Value}{q:Program}{loose:List Str}{zh mn:ExcName->Option Value}{cl:Str->Option Addr}{fa f fA fI c tb:Addr}{fd fdA fdI:FuncData}{args:List W.WData}{nz:List Value}{d:Adr}{dr:DefRec}
  (KX:K.In s1.heap) (T:PyProof.Rows.Top q loose zh mg mb s1.heap) (hg:s1.gens=#[]) (hmg:mg "walls" =some (.ref fa)) (zw:rwL.pre args=true) (Cg:W.WellAll w.params s1.heap nz args)
  (TX:∀{mb2:Str->Option Value}{base:Heap},Mod K mg base->W.TopRead q loose mg mb2 base->Txt K mg base d) (oh:Mk K d.Roof fI) (F_init:Fun K "__init__" "Roof.__init__" s_i fI fdI)
  (D_c:aG K "counted" s_c)
  (D_m:aG K "moved" s_m)
  (D_b:aG K "beyond" s_b)
  (D_ss:aG K "side_start" s_ss)
  (D_lo:aG K "left_of" s_lo)
  (D_haw:aG K "headings_along_walls" s_haw)
  (D_br:aG K "by_row" s_br)
  (D_wf:aG K "walk_from" s_wf)
  (D_wr:aG K "walks_round" s_wr)
  (D_fb:aG K "feet_between" s_fb)
  (D_wr3:aG K "walls_round" s_wr3)
  (D_wn:aG K "wall_numbers" s_wn)
  (D_fo4:aG K "foot_of" s_fo4)
  (D_o:aG K "opposite" s_o)
  (D_ta:aG K "triangle_across" s_ta)
  (D_ha:aG K "half_across" s_ha)
  (D_we:aG K "water_end" s_we)
  (D_fa:aG K "foot_at" s_fa)
  (D_wr2:aG K "wall_rows" s_wr2)
  (D_hco:aG K "half_cells_of" s_hco)
  (D_id:aG K "is_deeper" s_id)
  (D_do:aG K "depths_of" s_do)
  (D_ho:aG K "height_over" s_ho)
  (D_ho2:aG K "heights_of" s_ho2)
  (D_se:aG K "side_end" s_se)
  (D_ro:aG K "right_of" s_ro)
  (D_fo2:aG K "facing_of" s_fo2)
  (D_fo3:aG K "facings_of" s_fo3)
  (D_tol:aG K "triangle_on_left" s_tol)
  (D_tor:aG K "triangle_on_right" s_tor)
  (D_nf:aG K "number_face" s_nf)
  (D_no:aG K "numbers_of" s_no)
  (D_fo:aG K "faces_of" s_fo)
  (D_pb:aG K "parts_between" s_pb)
  (D_dt:aG K "digit_told" s_dt)
  (D_nt:aG K "number_told" s_nt)
  (D_ct:aG K "corner_told" s_ct)
  (D_wt:aG K "walk_told" s_wt)
  (D_wt2:aG K "walks_told" s_wt2)
  (D_far:aG K "feet_across_rows" s_far)
  (D_cw:aG K "cells_within" s_cw)
  (D_miap:aG K "meets_in_a_point" s_miap)
  (D_ij:aG K "is_joined" s_ij)
  (D_ih:aG K "is_house" s_ih)
  (D_ht:aG K "house_told" s_ht)
  (D_rt:aG K "roof_told" s_rt)
  (n_face:W.nsIn K mainGlobals "walls" =some (some (.ref f))) (F_face:Fun K "walls" "walls" s_f f fd) (Dl:fd.code=.ref c) (oj:W.tabIn K "walls" =some (c,tb)) (zr:(PyProof.Rows.recsOf q).find? (fun e=>e.name==("walls" : Str))=some dr) (Dx:K.lookup tb=none)
  (n_ans:W.nsIn K mainGlobals "answer_or_refusal" =some (some (.ref fA))) (F_ans:Fun K "answer_or_refusal" "answer_or_refusal" uZ fA fdA)
  (j5:W.nsIn K mainGlobals "NoHouse" =some (some (.ref d.cH))) (iR:∀{h:Heap},K.In h->gY h d.cH)
  (eJ:W.nsIn K mainGlobals "OutOfBounds" =some (some (.ref d.cK))) (e9:∀{h:Heap},K.In h->gY h d.cK)
  (j4:W.nsIn K mainGlobals "Outside" =some (some (.ref d.fQ))) (iQ:∀{h:Heap},K.In h->gY h d.fQ)
  (lA:W.nsIn K mainGlobals "NoFace" =some (some (.ref d.iO))) (k8:∀{h:Heap},K.In h->gY h d.iO)
  (l9:W.nsIn K mainGlobals "NoSize" =some (some (.ref d.iN))) (k7:∀{h:Heap},K.In h->gY h d.iN)
  (ap:[d.cH,d.cK,d.fQ,d.iO,d.iN].Nodup):
  wpAny (model rwL.prog w) callerA (call (.ref fa) nz) (fun v s'=>W.GoodWG rwL.claim cl mn args s1 (.ok (.ret v)) s') (fun e s'=>W.GoodWG rwL.claim cl mn args s1 (.error e) s') s1:=by
 obtain⟨nt,kh,hBt,rfl,Cq⟩:=G3 zw;have e:=hmg.symm.trans (W.mg_of KX T.g n_face);cases e;obtain⟨hC,ht⟩:=W.tab_of (x:= "walls") T KX zr oj;obtain⟨rt,ut,rfl,hOt,hIt⟩:∃rt ut,nz=[.ref rt]/\s1.heap.get? rt=some (IE ut)/\PyProof.Rows.IntsAre ut nt:=by
  cases Cg with
  |cons ht Cg=>
   cases Cg;cases ht with
   |list hot hwt=>exact⟨_,_,rfl,hot,uS hwt⟩
 refine wpAny_call (codeAny_mono (F2 (P:=rwL.prog) (w:=w) (K:=K) (k:=12) (tb:=tb) (fd:=fd) (ps:=["t"]) (sp:=sp_f K tb) (LA:=[(rt,ut,nt)]) (vs:=[.ref rt]) (R:=fun r=>r=RoofBNeutral.f [[5],nt])
  KX T.g T.b T.builtins T.nolimit hg ?_ ht (FW hC) Dx ⟨rfl,by decide,by decide⟩ (.cons rfl .nil) ?_ ?_ ?_) fun r s' h=>?_)
 ·intro p hp;rcases ar.mp hp with rfl|hp
  ·exact⟨hOt,hIt,df kh (by decide)⟩
  exact(nomatch hp)
 ·intro base M kp;obtain⟨mb2,hb1,Bg⟩:=M.blt;have TR:W.TopRead q loose mg mb2 base:=⟨M.glob,hb1,M.nolimit,Bg,T.free⟩;have TX0:=TX M TR;have AN:Ans K mg base d fA fdA:=⟨F_ans,W.mg_of M.kin M.glob n_ans,F_ans.binds (fun _ _ _ _ _ _ us hl=>match us,hl with|[_],_=>rfl),W.mg_of M.kin M.glob j5,iR M.kin,W.mg_of M.kin M.glob eJ,e9 M.kin,W.mg_of M.kin M.glob j4,iQ M.kin,W.mg_of M.kin M.glob lA,k8 M.kin,W.mg_of M.kin M.glob l9,k7 M.kin,ap,L9 T ht kp⟩;obtain⟨E_c,E_wr2,E_rt⟩:=JH (P:=rwL.prog) (w:=w) M TX0 oh F_init D_c D_m D_b D_ss D_lo D_haw D_br D_wf D_wr D_fb D_wr3 D_wn D_fo4 D_o D_ta D_ha D_we D_fa D_wr2 D_hco D_id D_do D_ho D_ho2 D_se D_ro D_fo2 D_fo3 D_tol D_tor D_nf D_no D_fo D_pb D_dt D_nt D_ct D_wt D_wt2 D_far D_cw D_miap D_ij D_ih D_ht D_rt;exact ok_f F_face TX0 AN Dl (zX hC kp) E_c E_wr2 E_rt
 ·exact F_face.binds (ps:=["t"]) (fun _ _ _ _ _ _ us hl=>match us,hl with|[_],_=>rfl) s1 _ KX rfl
 ·intro H hA hS;exact⟨rt,nt,rfl,hS (rt,ut,nt) (bj),kh,hBt,hA,fun p H' hp=>⟨p,_,rfl,hp,rfl⟩⟩
 ·obtain⟨⟨p,its,n,ms,rfl,Ad,pr,rfl⟩,h2,h3,h4⟩:=h;exact⟨.inl ⟨.ref p,.list ((RoofBNeutral.f [[5],nt]).map W.WData.int),_,rfl,fun _=>rfl,.list Ad rfl rfl (by simpa using sQ pr),Cq _,fun z=>(nomatch z)⟩,h2,h3,h4⟩
structure Facts(K:W.Frag)(d:Adr)(fI:Addr)(fdI:FuncData):Prop where
 txt:∀{p:Program}{loose:List Str}{mg mb:Str->Option Value}{base:Heap},Mod K mg base->W.TopRead p loose mg mb base->Txt K mg base d
 mkR:Mk K d.Roof fI
 init:Fun K "__init__" "Roof.__init__" s_i fI fdI
 j5:W.nsIn K mainGlobals "NoHouse" =some (some (.ref d.cH))
 iR:∀{h:Heap},K.In h->gY h d.cH
 eJ:W.nsIn K mainGlobals "OutOfBounds" =some (some (.ref d.cK))
 e9:∀{h:Heap},K.In h->gY h d.cK
 j4:W.nsIn K mainGlobals "Outside" =some (some (.ref d.fQ))
 iQ:∀{h:Heap},K.In h->gY h d.fQ
 lA:W.nsIn K mainGlobals "NoFace" =some (some (.ref d.iO))
 k8:∀{h:Heap},K.In h->gY h d.iO
 l9:W.nsIn K mainGlobals "NoSize" =some (some (.ref d.iN))
 k7:∀{h:Heap},K.In h->gY h d.iN
 ap:[d.cH,d.cK,d.fQ,d.iO,d.iN].Nodup
theorem J4{K:W.Frag}{lg kj mj ng mz kr rALL_SIDES rg rSIDE_STARTS nj rHALVES_ABOUT rHALVES_AT_A_POINT fI:Addr}{tLINE_FEED uf ue tDIGIT_ZERO tDIGIT_NINE tGREATEST_NUMBER tMOST_DIGITS tFEWEST_CORNERS tCELLS_IN_A_ROW tMOST_CELLS tAT_EAVE tAT_CORNER:Tok}
  {nm0 q0 nm1 q1 nm2 q2 nm3 q3 nm4 q4:Str}{N0 N1 N2 N3 N4:Addr}{bs0 sub0 bs1 sub1 bs2 sub2 bs3 sub3 bs4 sub4:List Value}{yl ab0 hd1 ab1 xl ab2 hd3 ab3 hd4 ab4:Bool}{sn0 sn1 sn2 sn3 sn4:List Str}{col0 col1 col2 col3 col4:Option Bool}{dd0 dd1 dd2 dd3 dd4:Option Addr}{u0 v0 w0 x0 y0 u1 v1 w1 x1 y1 u2 v2 w2 x2 y2 u3 v3 w3 x3 y3 u4 v4 w4 x4 y4:Option Value}{id0 id1 id2 id3 id4:String}
  {oc:Value}{od an:Option Addr}{nv:Array (Option Value)}{kV mm pm kc ct:Value}
  (n_ALL_SIDES:W.nsIn K mainGlobals "ALL_SIDES" =some (some (.ref rALL_SIDES)))
  (c_ALL_SIDES:wU K rALL_SIDES=true)
  (n_STEPS:W.nsIn K mainGlobals "STEPS" =some (some (.ref rg)))
  (c_STEPS:u5 K rg [(0,-1),(1,0),(0,1),(-1,0)]=true)
  (n_SIDE_STARTS:W.nsIn K mainGlobals "SIDE_STARTS" =some (some (.ref rSIDE_STARTS)))
  (c_SIDE_STARTS:u5 K rSIDE_STARTS [(0,0),(1,0),(1,1),(0,1)]=true)
  (n_QUARTERS:W.nsIn K mainGlobals "QUARTERS" =some (some (.ref nj)))
  (c_QUARTERS:u5 K nj [(0,0),(1,0),(0,1),(1,1)]=true)
  (n_HALVES_ABOUT:W.nsIn K mainGlobals "HALVES_ABOUT" =some (some (.ref rHALVES_ABOUT)))
  (c_HALVES_ABOUT:u5 K rHALVES_ABOUT [(-1,-1),(0,-1),(1,-1),(-1,0),(1,0),(-1,1),(0,1),(1,1)]=true)
  (n_HALVES_AT_A_POINT:W.nsIn K mainGlobals "HALVES_AT_A_POINT" =some (some (.ref rHALVES_AT_A_POINT)))
  (c_HALVES_AT_A_POINT:u5 K rHALVES_AT_A_POINT [(-1,-1),(0,-1),(-1,0),(0,0)]=true)
  (n_LINE_FEED:W.nsIn K mainGlobals "LINE_FEED" =some (some (.int 10 tLINE_FEED)))
  (n_BLANK:W.nsIn K mainGlobals "BLANK" =some (some (.int 32 uf)))
  (n_COMMA:W.nsIn K mainGlobals "COMMA" =some (some (.int 44 ue)))
  (n_DIGIT_ZERO:W.nsIn K mainGlobals "DIGIT_ZERO" =some (some (.int 48 tDIGIT_ZERO)))
  (n_DIGIT_NINE:W.nsIn K mainGlobals "DIGIT_NINE" =some (some (.int 57 tDIGIT_NINE)))
  (n_GREATEST_NUMBER:W.nsIn K mainGlobals "GREATEST_NUMBER" =some (some (.int 64 tGREATEST_NUMBER)))
  (n_MOST_DIGITS:W.nsIn K mainGlobals "MOST_DIGITS" =some (some (.int 2 tMOST_DIGITS)))
  (n_FEWEST_CORNERS:W.nsIn K mainGlobals "FEWEST_CORNERS" =some (some (.int 4 tFEWEST_CORNERS)))
  (n_CELLS_IN_A_ROW:W.nsIn K mainGlobals "CELLS_IN_A_ROW" =some (some (.int 64 tCELLS_IN_A_ROW)))
  (n_MOST_CELLS:W.nsIn K mainGlobals "MOST_CELLS" =some (some (.int 256 tMOST_CELLS)))
  (z_len:W.nsIn K mainGlobals "len" =some none)
  (z_min:W.nsIn K mainGlobals "min" =some none)
  (z_max:W.nsIn K mainGlobals "max" =some none)
  (z_any:W.nsIn K mainGlobals "any" =some none)
  (z_list:W.nsIn K mainGlobals "list" =some none)
  (z_dict:W.nsIn K mainGlobals "dict" =some none)
  (z_sorted:W.nsIn K mainGlobals "sorted" =some none)
  (z_range:W.nsIn K mainGlobals "range" =some none)
  (z_enumerate:W.nsIn K mainGlobals "enumerate" =some none)
  (n_NoHouse:W.nsIn K mainGlobals "NoHouse" =some (some (.ref lg)))
  (e_NoHouse:W.excIn K lg bmE "Exception.__new__" =true)
  (n_Roof:W.nsIn K mainGlobals "Roof" =some (some (.ref kr)))
  (q_pg:W.plainGet K kr Str.empty=true)
  (q_hd:W.hasDictIn K kr=true)
  (q_po:W.plainOver K kr=true)
  (q_sa:W.findIn K (.ref kr) "__setattr__" =some (some (.builtin "object.__setattr__")))
  (f_cells:W.findIn K (.ref kr) "cells" =some none)
  (f_depths:W.findIn K (.ref kr) "depths" =some none)
  (f_heights:W.findIn K (.ref kr) "heights" =some none)
  (f_facings:W.findIn K (.ref kr) "facings" =some none)
  (f_numbers:W.findIn K (.ref kr) "numbers" =some none)
  (xK:W.findIn K (.ref kr) "faces" =some none)
  (n_AT_EAVE:W.nsIn K mainGlobals "AT_EAVE" =some (some (.int 0 tAT_EAVE)))
  (n_AT_CORNER:W.nsIn K mainGlobals "AT_CORNER" =some (some (.int 1 tAT_CORNER)))
  (n_OutOfBounds:W.nsIn K mainGlobals "OutOfBounds" =some (some (.ref kj)))
  (n_Outside:W.nsIn K mainGlobals "Outside" =some (some (.ref mj)))
  (n_NoFace:W.nsIn K mainGlobals "NoFace" =some (some (.ref ng)))
  (n_NoSize:W.nsIn K mainGlobals "NoSize" =some (some (.ref mz)))
  (l_NoHouse:K.lookup lg=some (excClassObj nm0 q0 lg N0 bs0 bmE yl sn0 sub0 ab0 col0 dd0 u0 v0 w0 x0 y0 id0))
  (l_OutOfBounds:K.lookup kj=some (excClassObj nm1 q1 kj N1 bs1 bmE hd1 sn1 sub1 ab1 col1 dd1 u1 v1 w1 x1 y1 id1))
  (l_Outside:K.lookup mj=some (excClassObj nm2 q2 mj N2 bs2 bmE xl sn2 sub2 ab2 col2 dd2 u2 v2 w2 x2 y2 id2))
  (l_NoFace:K.lookup ng=some (excClassObj nm3 q3 ng N3 bs3 bmE hd3 sn3 sub3 ab3 col3 dd3 u3 v3 w3 x3 y3 id3))
  (l_NoSize:K.lookup mz=some (excClassObj nm4 q4 mz N4 bs4 bmE hd4 sn4 sub4 ab4 col4 dd4 u4 v4 w4 x4 y4 id4))
  (ap:[lg,kj,mj,ng,mz].Nodup)
  (m_mk:W.makesIn K kr=true)
  (m_in:W.findIn K (.ref kr) "__init__" =some (some (.ref fI)))
  (m_fn:W.isFn K (.ref fI)=true)
  (m_kp:W.keepIn K (.ref kr)=true)
  (i_l:K.lookup fI=some ⟨oc,od,.func (W.fnOf "__init__" "Roof.__init__" (iD s_i) (fB s_i) (aI s_i) .none kV mm pm an kc ct),nv⟩)
  (i_c:W.codeIn K kc "Roof.__init__" =true)
  (i_k:W.keepIn K (.ref fI)=true)
  : ∃d fI fdI,Facts K d fI fdI:=
 ⟨⟨lg,kj,mj,ng,mz,kr⟩,fI,_,⟨fun M TR=>⟨⟨rALL_SIDES,W.mg_of M.kin M.glob n_ALL_SIDES,fun H=>GO c_ALL_SIDES H⟩,⟨rg,W.mg_of M.kin M.glob n_STEPS,tZ c_STEPS⟩,⟨rSIDE_STARTS,W.mg_of M.kin M.glob n_SIDE_STARTS,tZ c_SIDE_STARTS⟩,⟨nj,W.mg_of M.kin M.glob n_QUARTERS,tZ c_QUARTERS⟩,⟨rHALVES_ABOUT,W.mg_of M.kin M.glob n_HALVES_ABOUT,tZ c_HALVES_ABOUT⟩,⟨rHALVES_AT_A_POINT,W.mg_of M.kin M.glob n_HALVES_AT_A_POINT,tZ c_HALVES_AT_A_POINT⟩,⟨tLINE_FEED,W.mg_of M.kin M.glob n_LINE_FEED⟩,⟨uf,W.mg_of M.kin M.glob n_BLANK⟩,⟨ue,W.mg_of M.kin M.glob n_COMMA⟩,⟨tDIGIT_ZERO,W.mg_of M.kin M.glob n_DIGIT_ZERO⟩,⟨tDIGIT_NINE,W.mg_of M.kin M.glob n_DIGIT_NINE⟩,⟨tGREATEST_NUMBER,W.mg_of M.kin M.glob n_GREATEST_NUMBER⟩,⟨tMOST_DIGITS,W.mg_of M.kin M.glob n_MOST_DIGITS⟩,⟨tFEWEST_CORNERS,W.mg_of M.kin M.glob n_FEWEST_CORNERS⟩,⟨tCELLS_IN_A_ROW,W.mg_of M.kin M.glob n_CELLS_IN_A_ROW⟩,⟨tMOST_CELLS,W.mg_of M.kin M.glob n_MOST_CELLS⟩,W.mg_none_of M.kin M.glob z_len,W.mg_none_of M.kin M.glob z_min,W.mg_none_of M.kin M.glob z_max,W.mg_none_of M.kin M.glob z_any,W.mg_none_of M.kin M.glob z_list,W.mg_none_of M.kin M.glob z_dict,W.mg_none_of M.kin M.glob z_sorted,W.mg_none_of M.kin M.glob z_range,W.mg_none_of M.kin M.glob z_enumerate,W.own_of_in M.kin TR n_NoHouse e_NoHouse,W.mg_of M.kin M.glob n_Roof,⟨q_pg,q_hd,q_po,q_sa⟩,f_cells,f_depths,f_heights,f_facings,f_numbers,xK,⟨tAT_EAVE,W.mg_of M.kin M.glob n_AT_EAVE⟩,⟨tAT_CORNER,W.mg_of M.kin M.glob n_AT_CORNER⟩⟩,⟨m_mk,m_in,m_fn,m_kp⟩,BV i_l i_c i_k,n_NoHouse,(fun X=>oP X l_NoHouse),n_OutOfBounds,(fun X=>oP X l_OutOfBounds),n_Outside,(fun X=>oP X l_Outside),n_NoFace,(fun X=>oP X l_NoFace),n_NoSize,(fun X=>oP X l_NoSize),ap⟩⟩
theorem KY{K:W.Frag}{f c tb:Addr}{oc oc2:Value}{od od2 an:Option Addr}{nv uh:Array (Option Value)}{vs:Array Value}{kV mm pm kc ct:Value}(a:W.nsIn K mainGlobals "walls" =some (some (.ref f)))
  (l:K.lookup f=some ⟨oc,od,.func (W.fnOf "walls" "walls" (iD s_f) (fB s_f) (aI s_f) .none kV mm pm an kc ct),nv⟩) (e:kc=.ref c) (h:W.codeIn K kc "walls" =true) (k:W.keepIn K (.ref f)=true)
  (l2:K.lookup c=some ⟨oc2,od2,.fields vs,uh⟩) (hv:vs[11]? =some (.ref tb)) (kt:K.lookup tb=none):∃f fd c tb,W.nsIn K mainGlobals "walls" =some (some (.ref f))/\Fun K "walls" "walls" s_f f fd/\fd.code=.ref c/\W.tabIn K "walls" =some (c,tb)/\K.lookup tb=none:=
 ⟨f,_,c,tb,a,BV l h k,e,LZ a l e l2 hv,kt⟩
end RT
open PySem
set_option maxHeartbeats 0 in
theorem PySem.Challenge.cw_rooftold_s05_walls_holds : PySem.Challenge.rw_rooftold_s05_walls.Holds := by
 refine W.holds_os (q:=HP.vw) (loose:=[]) (Xt:=HP.xt) (XP:=W.XL HP.vw []) (Yf:=W.Hook.obs (W.kHook HP.hpK HP.as HP.hkE)) (Ya:=W.Hook.val (W.kHook HP.hpK HP.as HP.hkE)) (YP:=W.Hook.says (W.kHook HP.hpK HP.as HP.hkE)) (N:=6292) HP.left (W.Hook.of _) (W.Hook.keeps _) (fun s e=>W.xl_of s (Bool.and_eq_true_iff.mp e).1) W.XL.keeps (by rfl) (by rfl) (by rfl) (fun s e=>W.recFacts_of (Bool.and_eq_true_iff.mp e).2) W.os_shapes (by decide+kernel) (by decide+kernel) ⟨rfl,rfl,rfl,rfl,rfl,by decide+kernel⟩ ⟨[.list []],by decide+kernel,by decide+kernel⟩ ?_;k_fillS;intro w s0 s1 mg mb G Y fa o pm cd mm dV kV ho hd pf hD hmg hg args nz as zw hlay zt Cg hlo;have KX:=W.kIn_of Y;have FX:∃d fI fdI,RT.Facts (L2.KOf KX) d fI fdI:=by
  dsimp only[L2.KOf];refine' RT.J4 ?n_ALL_SIDES ?c_ALL_SIDES ?n_STEPS ?c_STEPS ?n_SIDE_STARTS ?c_SIDE_STARTS ?n_QUARTERS ?c_QUARTERS ?n_HALVES_ABOUT ?c_HALVES_ABOUT ?n_HALVES_AT_A_POINT ?c_HALVES_AT_A_POINT ?n_LINE_FEED ?n_BLANK ?n_COMMA ?n_DIGIT_ZERO ?n_DIGIT_NINE ?n_GREATEST_NUMBER ?n_MOST_DIGITS ?n_FEWEST_CORNERS ?n_CELLS_IN_A_ROW ?n_MOST_CELLS ?z_len ?z_min ?z_max ?z_any ?z_list ?z_dict ?z_sorted ?z_range ?z_enumerate ?n_NoHouse ?e_NoHouse ?n_Roof ?q_pg ?q_hd ?q_po ?q_sa ?f_cells ?f_depths ?f_heights ?f_facings ?f_numbers ?xK ?n_AT_EAVE ?n_AT_CORNER ?n_OutOfBounds ?n_Outside ?n_NoFace ?n_NoSize ?l_NoHouse ?l_OutOfBounds ?l_Outside ?l_NoFace ?l_NoSize ?ap ?m_mk ?m_in ?m_fn ?m_kp ?i_l ?i_c ?i_k;case n_ALL_SIDES|n_STEPS|n_SIDE_STARTS|n_QUARTERS|n_HALVES_ABOUT|n_HALVES_AT_A_POINT|n_LINE_FEED|n_BLANK|n_COMMA|n_DIGIT_ZERO|n_DIGIT_NINE|n_GREATEST_NUMBER|n_MOST_DIGITS|n_FEWEST_CORNERS|n_CELLS_IN_A_ROW|n_MOST_CELLS|z_len|z_min|z_max|z_any|z_list|z_dict|z_sorted|z_range|z_enumerate|n_NoHouse|n_Roof|q_pg|q_hd|q_po|q_sa|f_cells|f_depths|f_heights|f_facings|f_numbers|xK|n_AT_EAVE|n_AT_CORNER|n_OutOfBounds|n_Outside|n_NoFace|n_NoSize|l_NoHouse|l_OutOfBounds|l_Outside|l_NoFace|l_NoSize|m_mk|m_in|m_fn|m_kp|i_l|i_c|i_k=>k_is
  case c_ALL_SIDES|c_STEPS|c_SIDE_STARTS|c_QUARTERS|c_HALVES_ABOUT|c_HALVES_AT_A_POINT=>kernel_rfl
  case e_NoHouse=>k_exc
  case ap=>decide
 have FF:∃f fd c tb,W.nsIn (L2.KOf KX) mainGlobals "walls" =some (some (.ref f))/\L2.Fun (L2.KOf KX) "walls" "walls" RT.s_f f fd/\fd.code=.ref c/\W.tabIn (L2.KOf KX) "walls" =some (c,tb)/\(L2.KOf KX).lookup tb=none:=by
  dsimp only[L2.KOf];refine' RT.KY ?a ?l ?e ?h ?k ?l2 ?hv ?kt
  (case a=>k_is)
  (case l=>k_is)
  (case e=>rfl)
  (case h=>k_is)
  (case k=>k_is)
  (case l2=>k_is)
  (case hv=>rfl)
  (case kt=>kernel_rfl)
 have D_c:L3.aG (L2.KOf KX) "counted" RT.s_c:=RT.dI;have D_m:L3.aG (L2.KOf KX) "moved" RT.s_m:=RT.dI;have D_b:L3.aG (L2.KOf KX) "beyond" RT.s_b:=RT.dI;have D_ss:L3.aG (L2.KOf KX) "side_start" RT.s_ss:=RT.dI;have D_lo:L3.aG (L2.KOf KX) "left_of" RT.s_lo:=RT.dI;have D_haw:L3.aG (L2.KOf KX) "headings_along_walls" RT.s_haw:=RT.dI;have D_br:L3.aG (L2.KOf KX) "by_row" RT.s_br:=RT.dI;have D_wf:L3.aG (L2.KOf KX) "walk_from" RT.s_wf:=RT.dI;have D_wr:L3.aG (L2.KOf KX) "walks_round" RT.s_wr:=RT.dI;have D_fb:L3.aG (L2.KOf KX) "feet_between" RT.s_fb:=RT.dI;have D_wr3:L3.aG (L2.KOf KX) "walls_round" RT.s_wr3:=RT.dI;have D_wn:L3.aG (L2.KOf KX) "wall_numbers" RT.s_wn:=RT.dI;have D_fo4:L3.aG (L2.KOf KX) "foot_of" RT.s_fo4:=RT.dI;have D_o:L3.aG (L2.KOf KX) "opposite" RT.s_o:=RT.dI;have D_ta:L3.aG (L2.KOf KX) "triangle_across" RT.s_ta:=RT.dI;have D_ha:L3.aG (L2.KOf KX) "half_across" RT.s_ha:=RT.dI;have D_we:L3.aG (L2.KOf KX) "water_end" RT.s_we:=RT.dI;have D_fa:L3.aG (L2.KOf KX) "foot_at" RT.s_fa:=RT.dI;have D_wr2:L3.aG (L2.KOf KX) "wall_rows" RT.s_wr2:=RT.dI;have D_hco:L3.aG (L2.KOf KX) "half_cells_of" RT.s_hco:=RT.dI;have D_id:L3.aG (L2.KOf KX) "is_deeper" RT.s_id:=RT.dI;have D_do:L3.aG (L2.KOf KX) "depths_of" RT.s_do:=RT.dI;have D_ho:L3.aG (L2.KOf KX) "height_over" RT.s_ho:=RT.dI;have D_ho2:L3.aG (L2.KOf KX) "heights_of" RT.s_ho2:=RT.dI;have D_se:L3.aG (L2.KOf KX) "side_end" RT.s_se:=RT.dI;have D_ro:L3.aG (L2.KOf KX) "right_of" RT.s_ro:=RT.dI
 have D_fo2:L3.aG (L2.KOf KX) "facing_of" RT.s_fo2:=RT.dI;have D_fo3:L3.aG (L2.KOf KX) "facings_of" RT.s_fo3:=RT.dI;have D_tol:L3.aG (L2.KOf KX) "triangle_on_left" RT.s_tol:=RT.dI;have D_tor:L3.aG (L2.KOf KX) "triangle_on_right" RT.s_tor:=RT.dI;have D_nf:L3.aG (L2.KOf KX) "number_face" RT.s_nf:=RT.dI;have D_no:L3.aG (L2.KOf KX) "numbers_of" RT.s_no:=RT.dI;have D_fo:L3.aG (L2.KOf KX) "faces_of" RT.s_fo:=RT.dI;have D_pb:L3.aG (L2.KOf KX) "parts_between" RT.s_pb:=RT.dI;have D_dt:L3.aG (L2.KOf KX) "digit_told" RT.s_dt:=RT.dI;have D_nt:L3.aG (L2.KOf KX) "number_told" RT.s_nt:=RT.dI;have D_ct:L3.aG (L2.KOf KX) "corner_told" RT.s_ct:=RT.dI;have D_wt:L3.aG (L2.KOf KX) "walk_told" RT.s_wt:=RT.dI;have D_wt2:L3.aG (L2.KOf KX) "walks_told" RT.s_wt2:=RT.dI;have D_far:L3.aG (L2.KOf KX) "feet_across_rows" RT.s_far:=RT.dI;have D_cw:L3.aG (L2.KOf KX) "cells_within" RT.s_cw:=RT.dI;have D_miap:L3.aG (L2.KOf KX) "meets_in_a_point" RT.s_miap:=RT.dI;have D_ij:L3.aG (L2.KOf KX) "is_joined" RT.s_ij:=RT.dI;have D_ih:L3.aG (L2.KOf KX) "is_house" RT.s_ih:=RT.dI;have D_ht:L3.aG (L2.KOf KX) "house_told" RT.s_ht:=RT.dI;have D_rt:L3.aG (L2.KOf KX) "roof_told" RT.s_rt:=RT.dI;have D_answer_or_refusal:L3.aG (L2.KOf KX) "answer_or_refusal" RT.uZ:=RT.dI;obtain⟨d,fI,fdI,FX⟩:=FX;obtain⟨f,fd,c,tb,n_f,F_f,Dl,oj,Dx⟩:=FF;obtain⟨fA,fdA,n_ans,F_ans⟩:=D_answer_or_refusal.ex
 exact RT.E9 KX G.T hg hmg zw Cg FX.txt FX.mkR FX.init D_c D_m D_b D_ss D_lo D_haw D_br D_wf D_wr D_fb D_wr3 D_wn D_fo4 D_o D_ta D_ha D_we D_fa D_wr2 D_hco D_id D_do D_ho D_ho2 D_se D_ro D_fo2 D_fo3 D_tol D_tor D_nf D_no D_fo D_pb D_dt D_nt D_ct D_wt D_wt2 D_far D_cw D_miap D_ij D_ih D_ht D_rt n_f F_f Dl oj rfl Dx n_ans F_ans FX.j5 FX.iR FX.eJ FX.e9 FX.j4 FX.iQ FX.lA FX.k8 FX.l9 FX.k7 FX.ap
