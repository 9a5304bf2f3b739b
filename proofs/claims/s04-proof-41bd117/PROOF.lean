import PyProof.Rows.All
import Wide.All
import OpenK.AllK
import Wide.FinOn
import PyProof.EqAt
import PyProof.EqKinds
import PyProof.TupleCall
import KE.BitLaws
import RoofBuilt
import WqajbzNeutral
import KE.KSortTupG
import KE.KLam
import KE.OsGo
import Open.SpecLaws
import PySem.Challenge.RW_rooftold_s04_drop
set_option Elab.async false
set_option linter.all false
set_option genSizeOfSpec false
set_option maxRecDepth 100000
set_option maxHeartbeats 4000000
noncomputable section
open Int (le_min zero_add lt_or_le le_refl min_assoc min_comm)
open Nat (not_lt le_of_lt mod_lt mod_mod)
open List (of_mem_zip any_cons filter_nil any_map nil_append countP_cons filter_congr map_id take_zero nodup_nil flatMap_map mem_flatten getElem?_drop map_flatMap cons_ne_nil)
open Bool (or_eq_true)
open Array (getElem?_eq_none)
def aa:=@PySem.wpAny_bind
def af:=@if_neg
def ag:=@if_pos
def ah:=@PySem.wpAny_pure
def ai:=@List.length_map
def aj:=@List.length_append
def ak:=@List.mem_cons
def ao:=@List.getElem?_eq_some_iff
def aq:=@PySem.Heap.get?_push_of_some
def ar:=@List.mem_map
def au:=@List.mem_cons_of_mem
def aw:=@List.mem_append
def ax:=@Nat.le_refl
def ay:=@of_decide_eq_true
def az:=@List.mem_of_getElem?
def bb:=@PySem.Heap.get?_push_size
def bc:=@List.getElem?_map
def bf:=@List.mem_append_right
def bg:=@List.size_toArray
def bh:=@List.mem_cons_self
def bj:=@List.getElem?_eq_getElem
def bo:=@Bool.false_ne_true
def bp:=@List.map_cons
def bq:=@PySem.Heap.lt_size
def br:=@List.length_cons
def bu:=@List.take_of_length_le
def bw:=@List.mem_flatMap
def bx:=@Nat.mod_two_eq_zero_or_one
def bz:=@List.length_take
def cb:=@Int.toNat_of_nonneg
def cc:=@Nat.lt_of_lt_of_le
def cf:=@List.mem_append_left
def cg:=@List.mem_filter
def cj:=@List.map_append
def cv:=@Nat.zero_le
def da:=@Nat.ne_of_lt
def dc:=@List.nodup_cons
def de:=@List.nodup_append
def df:=@List.append_nil
def dh:=@Array.getD_eq_getD_getElem?
def di:=@Bool.eq_iff_iff
def dj:=@Nat.le_trans
def dk:=@Bool.and_eq_true
def dm:=@List.getElem?_append_right
def dq:=@Array.length_toList
def dt:=@List.flatMap_cons
def dv:=@List.append_assoc
def dz:=@List.mem_iff_getElem?
def ej:=@Int.not_lt
def fg:=@List.filterMap_cons
def fh:=@List.length_nil
def fi:=@List.map_congr_left
def fj:=@List.length_drop
def fk:=@List.any_eq_true
def fo:=@List.not_mem_nil
def fu:=@List.eq_nil_of_length_eq_zero
def fx:=@PySem.Heap.size_push
def fy:=@List.getElem?_take_of_lt
def gb:=@List.map_map
def gc:=@Array.getElem?_eq_getElem
def gd:=@List.flatMap_append
def gf:=@List.pairwise_cons
def gg:=@List.filter_append
def gh:=@Nat.lt_of_le_of_lt
def gj:=@List.getElem?_append_left
def gk:=@List.lookup_cons
def gm:=@List.length_pos_iff
def gp:=@List.flatten_append
def gr:=@Array.getElem?_eq_some_iff
def gu:=@Int.min_le_right
def gw:=@List.length_filter_le
def gx:=@List.length_dropLast
def gy:=@Nat.lt_irrefl
def gz:=@List.getElem?_cons_succ
def ia:=@Int.min_le_left
def ib:=@Nat.le_of_eq
def ie:=@Bool.not_eq_true'
def ig:=@Bool.eq_false_iff
def ij:=@List.all_eq_true
def ik:=@Array.getElem?_toList
def iq:=@Int.not_le
def ir:=@Nat.lt_succ_of_lt
def iu:=@Bool.false_eq_true
def iw:=@List.mem_singleton
def iy:=@Int.le_trans
def iz:=@List.mem_range
def ja:=@List.contains_iff_mem
def jb:=@List.dropLast_concat_getLast
def jc:=@Int.le_add_of_sub_right_le
def jd:=@List.map_nil
def je:=@List.find?_cons
def jf:=@List.range_succ
def jg:=@List.pairwise_map
def jh:=@List.flatten_cons
def ji:=@Array.getElem?_setIfInBounds
def jj:=@Nat.ne_of_gt
def jk:=@Int.add_neg_cancel_right
def jl:=@List.cons_append
def jm:=@List.getElem?_zip_eq_some
def jn:=@List.getElem?_eq_none_iff
def jo:=@Nat.le_of_succ_le
def jq:=@Int.toNat_natCast
namespace HP
open PySem PySem.W PyProof.Rows
noncomputable section
noncomputable def tp(i:Nat):Stmt:=PySem.Challenge.pw_rooftold_s04_drop.main.body.getD i (.Pass ⟨0,0,0,0⟩)
noncomputable def ic(s:Stmt)(j:Nat):Stmt:=match s with
 | .ClassDef _ _ _ body _ _ _ _ _ _ _=>body.getD j (.Pass ⟨0,0,0,0⟩)
 |_=>.Pass ⟨0,0,0,0⟩
noncomputable def dA(s:Stmt):Arguments:=match s with
 | .FunctionDef _ a _ _ _ _ _ _ _ _=>a
 |_=>{posonlyargs:=[],args:=[],vararg:=none,kwonlyargs:=[],kw_defaults:=[],kwarg:=none,defaults:=[]}
noncomputable def dB(s:Stmt):List Stmt:=match s with
 | .FunctionDef _ _ b _ _ _ _ _ _ _=>b
 |_=>[]
noncomputable def dS(s:Stmt):Scope:=match s with
 | .FunctionDef _ _ _ _ _ _ sc _ _ _=>sc
 |_=>{kind:=.function,names:=[],isGenerator:=false,isCoroutine:=false}
abbrev fl:String:= "/claim/cut.py"
noncomputable abbrev vs(s:String)(t:Tok):Value:=.str (Str.ofString s) t
noncomputable abbrev vi(i:Int)(t:Tok):Value:=.int i t
noncomputable abbrev vr(a:Addr):Value:=.ref a
noncomputable abbrev eN(P:Params)(s:String)(t:Tok)(v:Value):DictEntry:={hash:=PyData.keyHash P (Str.ofString s),key:=.str (Str.ofString s) t,val:=v}
noncomputable abbrev oT(l:Array Value):Obj:={cls:=.type "tuple",data:=.seq l}
noncomputable abbrev oK(l:Array Value):Obj:={cls:=.type "code",data:=.fields l}
noncomputable abbrev oC(n:String)(t:Nat)(l c g:Int)(r:Addr)(x:Int)(r1 r2 r3 r4:Addr)(u:Nat):Obj:=oK #[vs n t,vs n (t+1),vs fl (t+2),vi l 0,vi c 0,vi 0 0,vi 0 0,vi g 0,vr r,.bool true,vi x 0,vr r1,.none,vr r2,vr r3,vr r4,vi u 0,vi l 0,vs fl (u+1)]
noncomputable abbrev oF(n q:String)(s:Stmt)(m:String)(t:Tok)(c:Addr):Obj:={cls:=.type "function",data:=.func (fnOf (Str.ofString n) (Str.ofString q) (dA s) (dB s) (dS s) .none .none .none (vs m t) none (.ref c) .none)}
noncomputable abbrev oG(n q:String)(s:Stmt):Obj:={cls:=.none,data:=.func {name:=Str.ofString n,qualname:=Str.ofString q,params:=dA s,body:=.stmts (dB s),scope:=dS s,globals:=0,closure:=[],defaults:=.none,kwdefaults:=.none}}
def o2(P:Params):Obj:={cls:=.none,data:=.dict #[eN P "type.__subclasses__.Exception.0" 292 (vi 91 0),eN P "type.__subclasses__.Exception.n" 293 (vi 5 0),eN P "type.__subclasses__.Exception.1" 312 (vi 104 0),eN P "type.__subclasses__.Exception.2" 332 (vi 117 0),eN P "type.__subclasses__.Exception.3" 352 (vi 130 0),eN P "type.__subclasses__.Exception.4" 372 (vi 143 0)] 6}
def o3(P:Params):Obj:={cls:=.type "dict",data:=.dict #[eN P "__name__" 165 (vs "rooftold.desk" 844),eN P "__doc__" 166 .none,eN P "__package__" 167 .none,eN P "__loader__" 168 (.builtin "__main__.__loader__#opaque"),eN P "__spec__" 169 .none,eN P "__annotations__" 170 (vr 6),eN P "__builtins__" 171 (vr 4),eN P "__file__" 173 (vs "/claim/cut.py" 172),eN P "__cached__" 174 .none,eN P "ALL_SIDES" 193 (vr 15),eN P "STEPS" 204 (vr 20),eN P "SIDE_STARTS" 213 (vr 25),eN P "left_of" 220 (vr 32),eN P "opposite" 227 (vr 39),eN P "right_of" 234 (vr 46),eN P "moved" 242 (vr 53),eN P "beyond" 250 (vr 60),eN P "side_start" 258 (vr 67),eN P "side_end" 266 (vr 74),eN P "by_row" 273 (vr 81),eN P "NoHouse" 295 (vr 91),eN P "OutOfBounds" 315 (vr 104),eN P "Outside" 335 (vr 117),eN P "NoFace" 355 (vr 130),eN P "NoSize" 375 (vr 143),eN P "answer_or_refusal" 382 (vr 153),eN P "LINE_FEED" 386 (vi 10 385),eN P "BLANK" 388 (vi 32 387),eN P "COMMA" 390 (vi 44 389),eN P "DIGIT_ZERO" 392 (vi 48 391),eN P "DIGIT_NINE" 394 (vi 57 393),eN P "GREATEST_NUMBER" 396 (vi 64 395),eN P "MOST_DIGITS" 398 (vi 2 397),eN P "FEWEST_CORNERS" 400 (vi 4 399),eN P "parts_between" 411 (vr 160),eN P "digit_told" 418 (vr 167),eN P "number_told" 427 (vr 174),eN P "corner_told" 433 (vr 179),eN P "walk_told" 439 (vr 184),eN P "walks_told" 445 (vr 189),eN P "CELLS_IN_A_ROW" 449 (vi 64 448),eN P "MOST_CELLS" 451 (vi 256 450),eN P "feet_across_rows" 464 (vr 196),eN P "cells_within" 476 (vr 203),eN P "is_joined" 487 (vr 210),eN P "meets_in_a_point" 498 (vr 217),eN P "is_house" 504 (vr 222),eN P "headings_along_walls" 514 (vr 229),eN P "walk_from" 527 (vr 236),eN P "walks_round" 538 (vr 243),eN P "feet_between" 549 (vr 250),eN P "walls_round" 561 (vr 257),eN P "house_told" 570 (vr 264),eN P "QUARTERS" 581 (vr 269),eN P "HALVES_ABOUT" 604 (vr 278),eN P "HALVES_AT_A_POINT" 617 (vr 283),eN P "half_cells_of" 627 (vr 290),eN P "is_deeper" 636 (vr 297),eN P "depths_of" 642 (vr 302),eN P "height_over" 648 (vr 307),eN P "heights_of" 659 (vr 314),eN P "Roof" 695 (vr 331),eN P "facing_of" 707 (vr 342),eN P "facings_of" 719 (vr 349),eN P "triangle_across" 730 (vr 356),eN P "triangle_on_left" 740 (vr 363),eN P "triangle_on_right" 750 (vr 370),eN P "number_face" 763 (vr 377),eN P "numbers_of" 773 (vr 384),eN P "faces_of" 783 (vr 391),eN P "AT_EAVE" 787 (vi 0 786),eN P "AT_CORNER" 789 (vi 1 788),eN P "foot_of" 795 (vr 396),eN P "half_across" 803 (vr 403),eN P "water_end" 815 (vr 410),eN P "foot_at" 823 (vr 417),eN P "wall_numbers" 834 (vr 424),eN P "drop_row" 843 (vr 431),eN P "GREATEST_HALF" 847 (vi 127 846),eN P "GREATEST_SIDE" 849 (vi 3 848),eN P "check_triangle" 858 (vr 438),eN P "roof_told" 865 (vr 445),eN P "roof_with_triangle" 876 (vr 452),eN P "drop" 890 (vr 459)] 84}
def o11:Obj:=oT #[]
def o12:Obj:={cls:=.none,data:=.fields #[(vi 5 0),(vi 0 0),(vr 31),(vi 7 0),(vi 0 0),(vr 38),(vi 9 0),(vi 0 0),(vr 45),(vi 11 0),(vi 0 0),(vr 52),(vi 13 0),(vi 0 0),(vr 59),(vi 15 0),(vi 0 0),(vr 66),(vi 17 0),(vi 0 0),(vr 73),(vi 19 0),(vi 0 0),(vr 80),(vi 22 0),(vi 0 0),(vr 87),(vi 24 0),(vi 0 0),(vr 100),(vi 26 0),(vi 0 0),(vr 113),(vi 28 0),(vi 0 0),(vr 126),(vi 30 0),(vi 0 0),(vr 139),(vi 32 0),(vi 0 0),(vr 152),(vi 54 0),(vi 0 0),(vr 159),(vi 65 0),(vi 0 0),(vr 166),(vi 69 0),(vi 0 0),(vr 173),(vi 80 0),(vi 0 0),(vr 178),(vi 85 0),(vi 0 0),(vr 183),(vi 90 0),(vi 0 0),(vr 188),(vi 99 0),(vi 0 0),(vr 195),(vi 108 0),(vi 0 0),(vr 202),(vi 119 0),(vi 0 0),(vr 209),(vi 129 0),(vi 0 0),(vr 216),(vi 136 0),(vi 0 0),(vr 221),(vi 142 0),(vi 0 0),(vr 228),(vi 149 0),(vi 0 0),(vr 235),(vi 161 0),(vi 0 0),(vr 242),(vi 169 0),(vi 0 0),(vr 249),(vi 176 0),(vi 0 0),(vr 256),(vi 183 0),(vi 0 0),(vr 263),(vi 193 0),(vi 0 0),(vr 289),(vi 199 0),(vi 0 0),(vr 296),(vi 204 0),(vi 0 0),(vr 301),(vi 215 0),(vi 0 0),(vr 306),(vi 217 0),(vi 0 0),(vr 313),(vi 226 0),(vi 0 0),(vr 320),(vi 235 0),(vi 0 0),(vr 341),(vi 245 0),(vi 0 0),(vr 348),(vi 251 0),(vi 0 0),(vr 355),(vi 255 0),(vi 0 0),(vr 362),(vi 258 0),(vi 0 0),(vr 369),(vi 261 0),(vi 0 0),(vr 376),(vi 271 0),(vi 0 0),(vr 383),(vi 279 0),(vi 0 0),(vr 390),(vi 289 0),(vi 0 0),(vr 395),(vi 295 0),(vi 0 0),(vr 402),(vi 297 0),(vi 0 0),(vr 409),(vi 311 0),(vi 0 0),(vr 416),(vi 316 0),(vi 0 0),(vr 423),(vi 322 0),(vi 0 0),(vr 430),(vi 328 0),(vi 0 0),(vr 437),(vi 331 0),(vi 0 0),(vr 444),(vi 333 0),(vi 0 0),(vr 451),(vi 339 0),(vi 0 0),(vr 458)]}
def o13:Obj:=oK #[(vs "<module>" 182),(vs "<module>" 183),(vs fl 184),(vi 1 0),(vi 0 0),(vi 0 0),(vi 0 0),(vi 0 0),(vr 11),.bool false,(vi 181 0),(vr 12),.none,.none,.none,.none,(vi 185 0),(vi 1 0),(vs fl 186)]
def o14:Obj:={cls:=.type "frame",slots:=#[some ((vr 13)),some ((vr 3)),some ((vr 3)),none,some ((vs "__main__" 164)),none,some ((vr 0))]}
def o15:Obj:=oT #[(vi 0 189),(vi 1 190),(vi 2 191),(vi 3 192)]
def o16:Obj:=oT #[(vi 0 194),(vi (-1) 196)]
def o17:Obj:=oT #[(vi 1 197),(vi 0 198)]
def o18:Obj:=oT #[(vi 0 199),(vi 1 200)]
def o19:Obj:=oT #[(vi (-1) 202),(vi 0 203)]
def o20:Obj:=oT #[(vr 16),(vr 17),(vr 18),(vr 19)]
def o21:Obj:=oT #[(vi 0 205),(vi 0 206)]
def o22:Obj:=oT #[(vi 1 207),(vi 0 208)]
def o23:Obj:=oT #[(vi 1 209),(vi 1 210)]
def o24:Obj:=oT #[(vi 0 211),(vi 1 212)]
def o25:Obj:=oT #[(vr 21),(vr 22),(vr 23),(vr 24)]
def o27:Obj:={cls:=.none,data:=.fields #[]}
def o28:Obj:=oT #[(vs "direction" 217)]
def o30:Obj:=oG "left_of" "left_of" (tp 4)
def o31:Obj:=oC "left_of" 214 5 1 3 26 181 27 28 29 30 218
def o32:Obj:=oF "left_of" "left_of" (tp 4) "rooftold.compass" 187 31
def o35:Obj:=oT #[(vs "direction" 224)]
def o37:Obj:=oG "opposite" "opposite" (tp 5)
def o38:Obj:=oC "opposite" 221 7 1 3 33 181 34 35 36 37 225
def o39:Obj:=oF "opposite" "opposite" (tp 5) "rooftold.compass" 187 38
def o42:Obj:=oT #[(vs "direction" 231)]
def o44:Obj:=oG "right_of" "right_of" (tp 6)
def o45:Obj:=oC "right_of" 228 9 1 3 40 181 41 42 43 44 232
def o46:Obj:=oF "right_of" "right_of" (tp 6) "rooftold.compass" 187 45
def o49:Obj:=oT #[(vs "place" 238),(vs "step" 239)]
def o51:Obj:=oG "moved" "moved" (tp 7)
def o52:Obj:=oC "moved" 235 11 2 3 47 181 48 49 50 51 240
def o53:Obj:=oF "moved" "moved" (tp 7) "rooftold.compass" 187 52
def o56:Obj:=oT #[(vs "place" 246),(vs "direction" 247)]
def o58:Obj:=oG "beyond" "beyond" (tp 8)
def o59:Obj:=oC "beyond" 243 13 2 3 54 181 55 56 57 58 248
def o60:Obj:=oF "beyond" "beyond" (tp 8) "rooftold.compass" 187 59
def o63:Obj:=oT #[(vs "square" 254),(vs "side" 255)]
def o65:Obj:=oG "side_start" "side_start" (tp 9)
def o66:Obj:=oC "side_start" 251 15 2 3 61 181 62 63 64 65 256
def o67:Obj:=oF "side_start" "side_start" (tp 9) "rooftold.compass" 187 66
def o70:Obj:=oT #[(vs "square" 262),(vs "side" 263)]
def o72:Obj:=oG "side_end" "side_end" (tp 10)
def o73:Obj:=oC "side_end" 259 17 2 3 68 181 69 70 71 72 264
def o74:Obj:=oF "side_end" "side_end" (tp 10) "rooftold.compass" 187 73
def o77:Obj:=oT #[(vs "place" 270)]
def o79:Obj:=oG "by_row" "by_row" (tp 11)
def o80:Obj:=oC "by_row" 267 19 1 3 75 181 76 77 78 79 271
def o81:Obj:=oF "by_row" "by_row" (tp 11) "rooftold.compass" 187 80
def o82:Obj:=oT #[.type "Exception"]
def o83:Obj:={cls:=.type "builtin_function_or_method",data:=.fields #[.builtin "type.__prepare__",.type "type"]}
def o84(P:Params):Obj:={cls:=.type "dict",data:=.dict #[eN P "__module__" 283 (vs "rooftold.refusals" 274),eN P "__qualname__" 285 (vs "NoHouse" 284),eN P "__firstlineno__" 287 (vi 22 286),eN P "__static_attributes__" 288 (vr 89)] 4}
def o87:Obj:=oK #[(vs "NoHouse" 278),(vs "NoHouse" 279),(vs fl 280),(vi 22 0),(vi 0 0),(vi 0 0),(vi 0 0),(vi 0 0),(vr 85),.bool false,(vi 181 0),(vr 86),.none,.none,.none,.none,(vi 281 0),(vi 22 0),(vs fl 282)]
def o88:Obj:={cls:=.type "frame",slots:=#[some ((vr 87)),some ((vr 3)),some ((vr 84)),none,some ((vs "rooftold.refusals" 274)),none,some ((vr 0))]}
def o90(P:Params):Obj:={cls:=.type "dict",data:=.dict #[eN P "__module__" 283 (vs "rooftold.refusals" 274),eN P "__firstlineno__" 287 (vi 22 286),eN P "__static_attributes__" 288 (vr 89),eN P "__weakref__" 290 (vr 92),eN P "__doc__" 291 .none] 3}
def o91:Obj:={cls:=.type "type",data:=.cls {name:=Str.ofString "NoHouse",bases:=[.type "Exception"],mro:=[(vr 91),.type "Exception",.type "BaseException",.type "object"],ns:=90,qualname:=Str.ofString "NoHouse" },slots:=#[some ((vr 82)),none,some ((vs "NoHouse" 276)),some ((vs "NoHouse" 284)),some (.builtin "Exception.__new__"),some (.bool true)]}
def o92:Obj:={cls:=.type "getset_descriptor",data:=.fields #[(vs "__weakref__" 289),(vr 91),.builtin "ExceptionGroup.__weakref__",.none]}
def o93:Obj:={cls:=.type "super",data:=.fields #[(vr 91),(vr 91),(vr 91)]}
def o94:Obj:={cls:=.type "builtin_function_or_method",data:=.fields #[.builtin "object.__init_subclass__",(vr 91)]}
def o97(P:Params):Obj:={cls:=.type "dict",data:=.dict #[eN P "__module__" 303 (vs "rooftold.refusals" 274),eN P "__qualname__" 305 (vs "OutOfBounds" 304),eN P "__firstlineno__" 307 (vi 24 306),eN P "__static_attributes__" 308 (vr 102)] 4}
def WW:Obj:=oK #[(vs "OutOfBounds" 298),(vs "OutOfBounds" 299),(vs fl 300),(vi 24 0),(vi 0 0),(vi 0 0),(vi 0 0),(vi 0 0),(vr 98),.bool false,(vi 181 0),(vr 99),.none,.none,.none,.none,(vi 301 0),(vi 24 0),(vs fl 302)]
def WV:Obj:={cls:=.type "frame",slots:=#[some ((vr 100)),some ((vr 3)),some ((vr 97)),none,some ((vs "rooftold.refusals" 274)),none,some ((vr 0))]}
def RX(P:Params):Obj:={cls:=.type "dict",data:=.dict #[eN P "__module__" 303 (vs "rooftold.refusals" 274),eN P "__firstlineno__" 307 (vi 24 306),eN P "__static_attributes__" 308 (vr 102),eN P "__weakref__" 310 (vr 105),eN P "__doc__" 311 .none] 3}
def RW:Obj:={cls:=.type "type",data:=.cls {name:=Str.ofString "OutOfBounds",bases:=[.type "Exception"],mro:=[(vr 104),.type "Exception",.type "BaseException",.type "object"],ns:=103,qualname:=Str.ofString "OutOfBounds" },slots:=#[some ((vr 95)),none,some ((vs "OutOfBounds" 296)),some ((vs "OutOfBounds" 304)),some (.builtin "Exception.__new__"),some (.bool true)]}
def RV:Obj:={cls:=.type "getset_descriptor",data:=.fields #[(vs "__weakref__" 309),(vr 104),.builtin "ExceptionGroup.__weakref__",.none]}
def WU:Obj:={cls:=.type "super",data:=.fields #[(vr 104),(vr 104),(vr 104)]}
def WT:Obj:={cls:=.type "builtin_function_or_method",data:=.fields #[.builtin "object.__init_subclass__",(vr 104)]}
def WS(P:Params):Obj:={cls:=.type "dict",data:=.dict #[eN P "__module__" 323 (vs "rooftold.refusals" 274),eN P "__qualname__" 325 (vs "Outside" 324),eN P "__firstlineno__" 327 (vi 26 326),eN P "__static_attributes__" 328 (vr 115)] 4}
def WR:Obj:=oK #[(vs "Outside" 318),(vs "Outside" 319),(vs fl 320),(vi 26 0),(vi 0 0),(vi 0 0),(vi 0 0),(vi 0 0),(vr 111),.bool false,(vi 181 0),(vr 112),.none,.none,.none,.none,(vi 321 0),(vi 26 0),(vs fl 322)]
def WQ:Obj:={cls:=.type "frame",slots:=#[some ((vr 113)),some ((vr 3)),some ((vr 110)),none,some ((vs "rooftold.refusals" 274)),none,some ((vr 0))]}
def RU(P:Params):Obj:={cls:=.type "dict",data:=.dict #[eN P "__module__" 323 (vs "rooftold.refusals" 274),eN P "__firstlineno__" 327 (vi 26 326),eN P "__static_attributes__" 328 (vr 115),eN P "__weakref__" 330 (vr 118),eN P "__doc__" 331 .none] 3}
def RS:Obj:={cls:=.type "type",data:=.cls {name:=Str.ofString "Outside",bases:=[.type "Exception"],mro:=[(vr 117),.type "Exception",.type "BaseException",.type "object"],ns:=116,qualname:=Str.ofString "Outside" },slots:=#[some ((vr 108)),none,some ((vs "Outside" 316)),some ((vs "Outside" 324)),some (.builtin "Exception.__new__"),some (.bool true)]}
def RR:Obj:={cls:=.type "getset_descriptor",data:=.fields #[(vs "__weakref__" 329),(vr 117),.builtin "ExceptionGroup.__weakref__",.none]}
def WO:Obj:={cls:=.type "super",data:=.fields #[(vr 117),(vr 117),(vr 117)]}
def WN:Obj:={cls:=.type "builtin_function_or_method",data:=.fields #[.builtin "object.__init_subclass__",(vr 117)]}
def WM(P:Params):Obj:={cls:=.type "dict",data:=.dict #[eN P "__module__" 343 (vs "rooftold.refusals" 274),eN P "__qualname__" 345 (vs "NoFace" 344),eN P "__firstlineno__" 347 (vi 28 346),eN P "__static_attributes__" 348 (vr 128)] 4}
def WL:Obj:=oK #[(vs "NoFace" 338),(vs "NoFace" 339),(vs fl 340),(vi 28 0),(vi 0 0),(vi 0 0),(vi 0 0),(vi 0 0),(vr 124),.bool false,(vi 181 0),(vr 125),.none,.none,.none,.none,(vi 341 0),(vi 28 0),(vs fl 342)]
def WK:Obj:={cls:=.type "frame",slots:=#[some ((vr 126)),some ((vr 3)),some ((vr 123)),none,some ((vs "rooftold.refusals" 274)),none,some ((vr 0))]}
def RQ(P:Params):Obj:={cls:=.type "dict",data:=.dict #[eN P "__module__" 343 (vs "rooftold.refusals" 274),eN P "__firstlineno__" 347 (vi 28 346),eN P "__static_attributes__" 348 (vr 128),eN P "__weakref__" 350 (vr 131),eN P "__doc__" 351 .none] 3}
def RP:Obj:={cls:=.type "type",data:=.cls {name:=Str.ofString "NoFace",bases:=[.type "Exception"],mro:=[(vr 130),.type "Exception",.type "BaseException",.type "object"],ns:=129,qualname:=Str.ofString "NoFace" },slots:=#[some ((vr 121)),none,some ((vs "NoFace" 336)),some ((vs "NoFace" 344)),some (.builtin "Exception.__new__"),some (.bool true)]}
def RO:Obj:={cls:=.type "getset_descriptor",data:=.fields #[(vs "__weakref__" 349),(vr 130),.builtin "ExceptionGroup.__weakref__",.none]}
def WJ:Obj:={cls:=.type "super",data:=.fields #[(vr 130),(vr 130),(vr 130)]}
def WI:Obj:={cls:=.type "builtin_function_or_method",data:=.fields #[.builtin "object.__init_subclass__",(vr 130)]}
def WH(P:Params):Obj:={cls:=.type "dict",data:=.dict #[eN P "__module__" 363 (vs "rooftold.refusals" 274),eN P "__qualname__" 365 (vs "NoSize" 364),eN P "__firstlineno__" 367 (vi 30 366),eN P "__static_attributes__" 368 (vr 141)] 4}
def WG:Obj:=oK #[(vs "NoSize" 358),(vs "NoSize" 359),(vs fl 360),(vi 30 0),(vi 0 0),(vi 0 0),(vi 0 0),(vi 0 0),(vr 137),.bool false,(vi 181 0),(vr 138),.none,.none,.none,.none,(vi 361 0),(vi 30 0),(vs fl 362)]
def WE:Obj:={cls:=.type "frame",slots:=#[some ((vr 139)),some ((vr 3)),some ((vr 136)),none,some ((vs "rooftold.refusals" 274)),none,some ((vr 0))]}
def RN(P:Params):Obj:={cls:=.type "dict",data:=.dict #[eN P "__module__" 363 (vs "rooftold.refusals" 274),eN P "__firstlineno__" 367 (vi 30 366),eN P "__static_attributes__" 368 (vr 141),eN P "__weakref__" 370 (vr 144),eN P "__doc__" 371 .none] 3}
def RL:Obj:={cls:=.type "type",data:=.cls {name:=Str.ofString "NoSize",bases:=[.type "Exception"],mro:=[(vr 143),.type "Exception",.type "BaseException",.type "object"],ns:=142,qualname:=Str.ofString "NoSize" },slots:=#[some ((vr 134)),none,some ((vs "NoSize" 356)),some ((vs "NoSize" 364)),some (.builtin "Exception.__new__"),some (.bool true)]}
def RK:Obj:={cls:=.type "getset_descriptor",data:=.fields #[(vs "__weakref__" 369),(vr 143),.builtin "ExceptionGroup.__weakref__",.none]}
def WD:Obj:={cls:=.type "super",data:=.fields #[(vr 143),(vr 143),(vr 143)]}
def WC:Obj:={cls:=.type "builtin_function_or_method",data:=.fields #[.builtin "object.__init_subclass__",(vr 143)]}
def WB:Obj:=oT #[(vs "tell" 379)]
def WA:Obj:=oG "answer_or_refusal" "answer_or_refusal" (tp 18)
def RJ:Obj:=oC "answer_or_refusal" 376 32 1 3 147 181 148 149 150 151 380
def RI:Obj:=oF "answer_or_refusal" "answer_or_refusal" (tp 18) "rooftold.refusals" 274 152
def W9:Obj:=oT #[(vs "row" 404),(vs "mark" 405),(vs "parts" 406),(vs "part" 407),(vs "value" 408)]
def W8:Obj:=oG "parts_between" "parts_between" (tp 28)
def RH:Obj:=oC "parts_between" 401 54 2 3 154 181 155 156 157 158 409
def RG:Obj:=oF "parts_between" "parts_between" (tp 28) "rooftold.texts" 383 159
def W7:Obj:=oT #[(vs "value" 415)]
def W6:Obj:=oG "digit_told" "digit_told" (tp 29)
def RF:Obj:=oC "digit_told" 412 65 1 3 161 181 162 163 164 165 416
def RE:Obj:=oF "digit_told" "digit_told" (tp 29) "rooftold.texts" 383 166
def W5:Obj:=oT #[(vs "row" 422),(vs "number" 423),(vs "value" 424)]
def W3:Obj:=oG "number_told" "number_told" (tp 30)
def RD:Obj:=oC "number_told" 419 69 1 3 168 181 169 170 171 172 425
def RC:Obj:=oF "number_told" "number_told" (tp 30) "rooftold.texts" 383 173
def W2:Obj:=oG "corner_told" "corner_told" (tp 31)
def RB:Obj:=oK #[(vs "corner_told" 428),(vs "corner_told" 429),(vs fl 430),(vi 80 0),(vi 1 0),(vi 0 0),(vi 0 0),(vi 3 0),(vr 175),.bool true,(vi 181 0),(vr 176),.none,.none,.none,(vr 177),(vi 431 0),(vi 80 0),(vs fl 432)]
def RA:Obj:=oF "corner_told" "corner_told" (tp 31) "rooftold.texts" 383 178
def W0:Obj:=oG "walk_told" "walk_told" (tp 32)
def R9:Obj:=oK #[(vs "walk_told" 434),(vs "walk_told" 435),(vs fl 436),(vi 85 0),(vi 1 0),(vi 0 0),(vi 0 0),(vi 3 0),(vr 180),.bool true,(vi 181 0),(vr 181),.none,.none,.none,(vr 182),(vi 437 0),(vi 85 0),(vs fl 438)]
def R8:Obj:=oF "walk_told" "walk_told" (tp 32) "rooftold.texts" 383 183
def VZ:Obj:=oG "walks_told" "walks_told" (tp 33)
def R7:Obj:=oK #[(vs "walks_told" 440),(vs "walks_told" 441),(vs fl 442),(vi 90 0),(vi 1 0),(vi 0 0),(vi 0 0),(vi 3 0),(vr 185),.bool true,(vi 181 0),(vr 186),.none,.none,.none,(vr 187),(vi 443 0),(vi 90 0),(vs fl 444)]
def R6:Obj:=oF "walks_told" "walks_told" (tp 33) "rooftold.texts" 383 188
def VY:Obj:=oT #[(vs "walks" 455),(vs "feet" 456),(vs "walk" 457),(vs "number" 458),(vs "corner" 459),(vs "before" 460),(vs "y" 461)]
def VX:Obj:=oG "feet_across_rows" "feet_across_rows" (tp 37)
def R5:Obj:=oC "feet_across_rows" 452 99 1 3 190 181 191 192 193 194 462
def R4:Obj:=oF "feet_across_rows" "feet_across_rows" (tp 37) "rooftold.plans" 446 195
def VW:Obj:=oT #[(vs "walks" 468),(vs "feet" 469),(vs "cells" 470),(vs "y" 471),(vs "inside" 472),(vs "x" 473)]
def VU:Obj:=oG "cells_within" "cells_within" (tp 38)
def R1:Obj:=oC "cells_within" 465 108 1 3 197 181 198 199 200 201 474
def R0:Obj:=oF "cells_within" "cells_within" (tp 38) "rooftold.plans" 446 202
def VT:Obj:=oT #[(vs "cells" 480),(vs "waiting" 481),(vs "reached" 482),(vs "cell" 483),(vs "side" 484)]
def VS:Obj:=oG "is_joined" "is_joined" (tp 39)
def QZ:Obj:=oC "is_joined" 477 119 1 3 204 181 205 206 207 208 485
def QY:Obj:=oF "is_joined" "is_joined" (tp 39) "rooftold.plans" 446 209
def VR:Obj:=oT #[(vs "cell" 491),(vs "cells" 492),(vs "side" 493),(vs "near" 494),(vs "far" 495)]
def VQ:Obj:=oG "meets_in_a_point" "meets_in_a_point" (tp 40)
def QX:Obj:=oC "meets_in_a_point" 488 129 2 3 211 181 212 213 214 215 496
def QW:Obj:=oF "meets_in_a_point" "meets_in_a_point" (tp 40) "rooftold.plans" 446 216
def VP:Obj:=oG "is_house" "is_house" (tp 41)
def QV:Obj:=oK #[(vs "is_house" 499),(vs "is_house" 500),(vs fl 501),(vi 136 0),(vi 1 0),(vi 0 0),(vi 0 0),(vi 3 0),(vr 218),.bool true,(vi 181 0),(vr 219),.none,.none,.none,(vr 220),(vi 502 0),(vi 136 0),(vs fl 503)]
def QU:Obj:=oF "is_house" "is_house" (tp 41) "rooftold.plans" 446 221
def VO:Obj:=oT #[(vs "cells" 508),(vs "headings" 509),(vs "cell" 510),(vs "side" 511)]
def VN:Obj:=oG "headings_along_walls" "headings_along_walls" (tp 42)
def QT:Obj:=oC "headings_along_walls" 505 142 1 3 223 181 224 225 226 227 512
def QS:Obj:=oF "headings_along_walls" "headings_along_walls" (tp 42) "rooftold.plans" 446 228
def VM:Obj:=oT #[(vs "start" 518),(vs "headings" 519),(vs "walked" 520),(vs "corners" 521),(vs "point" 522),(vs "came" 523),(vs "heading" 524)]
def VL:Obj:=oG "walk_from" "walk_from" (tp 43)
def QR:Obj:=oC "walk_from" 515 149 3 3 230 181 231 232 233 234 525
def QQ:Obj:=oF "walk_from" "walk_from" (tp 43) "rooftold.plans" 446 235
def VJ:Obj:=oT #[(vs "cells" 531),(vs "headings" 532),(vs "walks" 533),(vs "walked" 534),(vs "point" 535)]
def VI:Obj:=oG "walks_round" "walks_round" (tp 44)
def QP:Obj:=oC "walks_round" 528 161 1 3 237 181 238 239 240 241 536
def QO:Obj:=oF "walks_round" "walks_round" (tp 44) "rooftold.plans" 446 242
def VH:Obj:=oT #[(vs "corner" 542),(vs "following" 543),(vs "headings" 544),(vs "feet" 545),(vs "point" 546)]
def VG:Obj:=oG "feet_between" "feet_between" (tp 45)
def QN:Obj:=oC "feet_between" 539 169 3 3 244 181 245 246 247 248 547
def QM:Obj:=oF "feet_between" "feet_between" (tp 45) "rooftold.plans" 446 249
def VF:Obj:=oT #[(vs "cells" 553),(vs "headings" 554),(vs "walls" 555),(vs "walk" 556),(vs "number" 557),(vs "corner" 558)]
def VE:Obj:=oG "walls_round" "walls_round" (tp 46)
def QL:Obj:=oC "walls_round" 550 176 1 3 251 181 252 253 254 255 559
def QK:Obj:=oF "walls_round" "walls_round" (tp 46) "rooftold.plans" 446 256
def VD:Obj:=oT #[(vs "t" 565),(vs "walks" 566),(vs "cells" 567)]
def VC:Obj:=oG "house_told" "house_told" (tp 47)
def QJ:Obj:=oC "house_told" 562 183 1 3 258 181 259 260 261 262 568
def QI:Obj:=oF "house_told" "house_told" (tp 47) "rooftold.plans" 446 263
def QH:Obj:=oT #[(vi 0 573),(vi 0 574)]
def QG:Obj:=oT #[(vi 1 575),(vi 0 576)]
def QF:Obj:=oT #[(vi 0 577),(vi 1 578)]
def QE:Obj:=oT #[(vi 1 579),(vi 1 580)]
def QD:Obj:=oT #[(vr 265),(vr 266),(vr 267),(vr 268)]
def QC:Obj:=oT #[(vi (-1) 583),(vi (-1) 585)]
def QB:Obj:=oT #[(vi 0 586),(vi (-1) 588)]
def QA:Obj:=oT #[(vi 1 589),(vi (-1) 591)]
def Q9:Obj:=oT #[(vi (-1) 593),(vi 0 594)]
def Q8:Obj:=oT #[(vi 1 595),(vi 0 596)]
def Q7:Obj:=oT #[(vi (-1) 598),(vi 1 599)]
def Q6:Obj:=oT #[(vi 0 600),(vi 1 601)]
def Q5:Obj:=oT #[(vi 1 602),(vi 1 603)]
def Q4:Obj:=oT #[(vr 270),(vr 271),(vr 272),(vr 273),(vr 274),(vr 275),(vr 276),(vr 277)]
def Q3:Obj:=oT #[(vi (-1) 606),(vi (-1) 608)]
def Q2:Obj:=oT #[(vi 0 609),(vi (-1) 611)]
def Q1:Obj:=oT #[(vi (-1) 613),(vi 0 614)]
def Q0:Obj:=oT #[(vi 0 615),(vi 0 616)]
def PZ:Obj:=oT #[(vr 279),(vr 280),(vr 281),(vr 282)]
def VB:Obj:=oT #[(vs "cells" 621),(vs "found" 622),(vs "cell" 623),(vs "quarter" 624)]
def VA:Obj:=oG "half_cells_of" "half_cells_of" (tp 52)
def PY:Obj:=oC "half_cells_of" 618 193 1 3 284 181 285 286 287 288 625
def PX:Obj:=oF "half_cells_of" "half_cells_of" (tp 52) "rooftold.heights" 571 289
def V9:Obj:=oT #[(vs "half" 631),(vs "layer" 632),(vs "step" 633)]
def V8:Obj:=oG "is_deeper" "is_deeper" (tp 53)
def PV:Obj:=oC "is_deeper" 628 199 2 3 291 181 292 293 294 295 634
def PU:Obj:=oF "is_deeper" "is_deeper" (tp 53) "rooftold.heights" 571 296
def V7:Obj:=oG "depths_of" "depths_of" (tp 54)
def PR:Obj:=oK #[(vs "depths_of" 637),(vs "depths_of" 638),(vs fl 639),(vi 204 0),(vi 1 0),(vi 0 0),(vi 0 0),(vi 3 0),(vr 298),.bool true,(vi 181 0),(vr 299),.none,.none,.none,(vr 300),(vi 640 0),(vi 204 0),(vs fl 641)]
def PQ:Obj:=oF "depths_of" "depths_of" (tp 54) "rooftold.heights" 571 301
def V6:Obj:=oG "height_over" "height_over" (tp 55)
def PN:Obj:=oK #[(vs "height_over" 643),(vs "height_over" 644),(vs fl 645),(vi 215 0),(vi 2 0),(vi 0 0),(vi 0 0),(vi 3 0),(vr 303),.bool true,(vi 181 0),(vr 304),.none,.none,.none,(vr 305),(vi 646 0),(vi 215 0),(vs fl 647)]
def PM:Obj:=oF "height_over" "height_over" (tp 55) "rooftold.heights" 571 306
def V5:Obj:=oT #[(vs "depths" 652),(vs "heights" 653),(vs "half" 654),(vs "side" 655),(vs "point" 656)]
def V3:Obj:=oG "heights_of" "heights_of" (tp 56)
def PL:Obj:=oC "heights_of" 649 217 1 3 308 181 309 310 311 312 657
def PJ:Obj:=oF "heights_of" "heights_of" (tp 56) "rooftold.heights" 571 313
def V2(P:Params):Obj:={cls:=.type "dict",data:=.dict #[eN P "__module__" 669 (vs "rooftold.roofs" 660),eN P "__qualname__" 671 (vs "Roof" 670),eN P "__firstlineno__" 673 (vi 226 672),eN P "__init__" 681 (vr 328),eN P "__static_attributes__" 688 (vr 329)] 5}
def V1:Obj:={cls:=.none,data:=.fields #[(vi 228 0),(vi 4 0),(vr 327)]}
def V0:Obj:=oK #[(vs "Roof" 664),(vs "Roof" 665),(vs fl 666),(vi 226 0),(vi 0 0),(vi 0 0),(vi 0 0),(vi 0 0),(vr 318),.bool false,(vi 181 0),(vr 319),.none,.none,.none,.none,(vi 667 0),(vi 226 0),(vs fl 668)]
def UZ:Obj:={cls:=.type "frame",slots:=#[some ((vr 320)),some ((vr 3)),some ((vr 317)),none,some ((vs "rooftold.roofs" 660)),none,some ((vr 0))]}
def UY:Obj:=oT #[(vs "self" 677),(vs "cells" 678)]
def UX:Obj:=oG "__init__" "Roof.__init__" (ic (tp 58) 0)
def PH:Obj:=oK #[(vs "__init__" 674),(vs "Roof.__init__" 675),(vs fl 676),(vi 228 0),(vi 2 0),(vi 0 0),(vi 0 0),(vi 3 0),(vr 322),.bool true,(vi 181 0),(vr 323),.none,(vr 324),(vr 325),(vr 326),(vi 679 0),(vi 228 0),(vs fl 680)]
def PF:Obj:=oF "__init__" "Roof.__init__" (ic (tp 58) 0) "rooftold.roofs" 660 327
def UW:Obj:=oT #[(vs "cells" 682),(vs "depths" 683),(vs "faces" 684),(vs "facings" 685),(vs "heights" 686),(vs "numbers" 687)]
def PD(P:Params):Obj:={cls:=.type "dict",data:=.dict #[eN P "__module__" 669 (vs "rooftold.roofs" 660),eN P "__firstlineno__" 673 (vi 226 672),eN P "__init__" 681 (vr 328),eN P "__static_attributes__" 688 (vr 329),eN P "__dict__" 690 (vr 332),eN P "__weakref__" 692 (vr 333),eN P "__doc__" 693 .none] 4}
def PB:Obj:={cls:=.type "type",data:=.cls {name:=Str.ofString "Roof",bases:=[.type "object"],mro:=[(vr 331),.type "object"],ns:=330,qualname:=Str.ofString "Roof" },slots:=#[none,none,some ((vs "Roof" 662)),some ((vs "Roof" 670)),some (.builtin "object.__new__"),some (.bool true)]}
def P9:Obj:={cls:=.type "getset_descriptor",data:=.fields #[(vs "__dict__" 689),(vr 331),.builtin "function.__dict__",.builtin "function.__dict__#set"]}
def P8:Obj:={cls:=.type "getset_descriptor",data:=.fields #[(vs "__weakref__" 691),(vr 331),.builtin "ExceptionGroup.__weakref__",.none]}
def UU:Obj:={cls:=.type "super",data:=.fields #[(vr 331),(vr 331),(vr 331)]}
def UT:Obj:={cls:=.type "builtin_function_or_method",data:=.fields #[.builtin "object.__init_subclass__",(vr 331)]}
def US:Obj:=oT #[(vs "half" 699),(vs "side" 700),(vs "depth" 701),(vs "heights" 702),(vs "start_is_low" 703),(vs "end_is_low" 704)]
def UR:Obj:=oG "facing_of" "facing_of" (tp 59)
def P7:Obj:=oC "facing_of" 696 235 4 3 336 181 337 338 339 340 705
def P6:Obj:=oF "facing_of" "facing_of" (tp 59) "rooftold.roofs" 660 341
def UQ:Obj:=oT #[(vs "depths" 711),(vs "heights" 712),(vs "facings" 713),(vs "half" 714),(vs "depth" 715),(vs "side" 716)]
def UP:Obj:=oG "facings_of" "facings_of" (tp 60)
def P5:Obj:=oC "facings_of" 708 245 2 3 343 181 344 345 346 347 717
def P4:Obj:=oF "facings_of" "facings_of" (tp 60) "rooftold.roofs" 660 348
def UO:Obj:=oT #[(vs "triangle" 723),(vs "i" 724),(vs "j" 725),(vs "side" 726),(vs "across" 727)]
def UN:Obj:=oG "triangle_across" "triangle_across" (tp 61)
def P2:Obj:=oC "triangle_across" 720 251 1 3 350 181 351 352 353 354 728
def P1:Obj:=oF "triangle_across" "triangle_across" (tp 61) "rooftold.roofs" 660 355
def UM:Obj:=oT #[(vs "triangle" 734),(vs "i" 735),(vs "j" 736),(vs "side" 737)]
def UL:Obj:=oG "triangle_on_left" "triangle_on_left" (tp 62)
def P0:Obj:=oC "triangle_on_left" 731 255 1 3 357 181 358 359 360 361 738
def OZ:Obj:=oF "triangle_on_left" "triangle_on_left" (tp 62) "rooftold.roofs" 660 362
def UK:Obj:=oT #[(vs "triangle" 744),(vs "i" 745),(vs "j" 746),(vs "side" 747)]
def UJ:Obj:=oG "triangle_on_right" "triangle_on_right" (tp 63)
def OY:Obj:=oC "triangle_on_right" 741 258 1 3 364 181 365 366 367 368 748
def OX:Obj:=oF "triangle_on_right" "triangle_on_right" (tp 63) "rooftold.roofs" 660 369
def UI:Obj:=oT #[(vs "first" 754),(vs "number" 755),(vs "facings" 756),(vs "numbers" 757),(vs "facing" 758),(vs "waiting" 759),(vs "triangle" 760)]
def UH:Obj:=oG "number_face" "number_face" (tp 64)
def OW:Obj:=oC "number_face" 751 261 4 3 371 181 372 373 374 375 761
def OV:Obj:=oF "number_face" "number_face" (tp 64) "rooftold.roofs" 660 376
def UG:Obj:=oT #[(vs "facings" 767),(vs "numbers" 768),(vs "count" 769),(vs "triangle" 770)]
def UE:Obj:=oG "numbers_of" "numbers_of" (tp 65)
def OU:Obj:=oC "numbers_of" 764 271 1 3 378 181 379 380 381 382 771
def OT:Obj:=oF "numbers_of" "numbers_of" (tp 65) "rooftold.roofs" 660 383
def UD:Obj:=oT #[(vs "numbers" 777),(vs "faces" 778),(vs "triangle" 779),(vs "number" 780)]
def UC:Obj:=oG "faces_of" "faces_of" (tp 66)
def OS:Obj:=oC "faces_of" 774 279 1 3 385 181 386 387 388 389 781
def OR:Obj:=oF "faces_of" "faces_of" (tp 66) "rooftold.roofs" 660 390
def UB:Obj:=oG "foot_of" "foot_of" (tp 70)
def OQ:Obj:=oK #[(vs "foot_of" 790),(vs "foot_of" 791),(vs fl 792),(vi 289 0),(vi 2 0),(vi 0 0),(vi 0 0),(vi 3 0),(vr 392),.bool true,(vi 181 0),(vr 393),.none,.none,.none,(vr 394),(vi 793 0),(vi 289 0),(vs fl 794)]
def OP:Obj:=oF "foot_of" "foot_of" (tp 70) "rooftold.rain" 784 395
def UA:Obj:=oT #[(vs "half" 799),(vs "corner" 800)]
def U9:Obj:=oG "half_across" "half_across" (tp 71)
def OO:Obj:=oC "half_across" 796 295 2 3 397 181 398 399 400 401 801
def ON:Obj:=oF "half_across" "half_across" (tp 71) "rooftold.rain" 784 402
def U8:Obj:=oT #[(vs "triangle" 807),(vs "roof" 808),(vs "half" 809),(vs "foot" 810),(vs "leaving" 811),(vs "below" 812)]
def U7:Obj:=oG "water_end" "water_end" (tp 72)
def OM:Obj:=oC "water_end" 804 297 2 3 404 181 405 406 407 408 813
def OL:Obj:=oF "water_end" "water_end" (tp 72) "rooftold.rain" 784 409
def U6:Obj:=oT #[(vs "end" 819),(vs "cell" 820)]
def U5:Obj:=oG "foot_at" "foot_at" (tp 73)
def OK:Obj:=oC "foot_at" 816 311 1 3 411 181 412 413 414 415 821
def OJ:Obj:=oF "foot_at" "foot_at" (tp 73) "rooftold.rain" 784 416
def U4:Obj:=oT #[(vs "walls" 827),(vs "numbers" 828),(vs "number" 829),(vs "feet" 830),(vs "foot" 831)]
def U3:Obj:=oG "wall_numbers" "wall_numbers" (tp 74)
def OI:Obj:=oC "wall_numbers" 824 316 1 3 418 181 419 420 421 422 832
def OH:Obj:=oF "wall_numbers" "wall_numbers" (tp 74) "rooftold.rain" 784 423
def U2:Obj:=oT #[(vs "triangle" 838),(vs "roof" 839),(vs "end" 840)]
def U1:Obj:=oG "drop_row" "drop_row" (tp 75)
def OG:Obj:=oC "drop_row" 835 322 2 3 425 181 426 427 428 429 841
def OF:Obj:=oF "drop_row" "drop_row" (tp 75) "rooftold.rain" 784 430
def U0:Obj:=oT #[(vs "i" 853),(vs "j" 854),(vs "s" 855)]
def TZ:Obj:=oG "check_triangle" "check_triangle" (tp 79)
def OE:Obj:=oC "check_triangle" 850 328 3 3 432 181 433 434 435 436 856
def OD:Obj:=oF "check_triangle" "check_triangle" (tp 79) "rooftold.desk" 844 437
def TY:Obj:=oT #[(vs "t" 862)]
def TV:Obj:=oG "roof_told" "roof_told" (tp 80)
def OC:Obj:=oC "roof_told" 859 331 1 3 439 181 440 441 442 443 863
def OB:Obj:=oF "roof_told" "roof_told" (tp 80) "rooftold.desk" 844 444
def TU:Obj:=oT #[(vs "i" 869),(vs "j" 870),(vs "s" 871),(vs "t" 872),(vs "told" 873)]
def TQ:Obj:=oG "roof_with_triangle" "roof_with_triangle" (tp 81)
def OA:Obj:=oC "roof_with_triangle" 866 333 4 3 446 181 447 448 449 450 874
def O9:Obj:=oF "roof_with_triangle" "roof_with_triangle" (tp 81) "rooftold.desk" 844 451
def TN:Obj:=oT #[(vs "i" 880),(vs "j" 881),(vs "s" 882),(vs "t" 883)]
def TM:Obj:=oT #[(vs "i" 884),(vs "j" 885),(vs "s" 886),(vs "t" 887)]
def TJ:Obj:=oG "drop" "drop" (tp 82)
def O8:Obj:=oC "drop" 877 339 4 3 453 181 454 455 456 457 888
def O7:Obj:=oF "drop" "drop" (tp 82) "rooftold.desk" 844 458
def hpK:Params->Frag:=fun P=>(nat_lit 2,o2 P)::(nat_lit 3,o3 P)::(nat_lit 15,o15)::(nat_lit 16,o16)::(nat_lit 17,o17)::(nat_lit 18,o18)::(nat_lit 19,o19)::(nat_lit 20,o20)::(nat_lit 21,o21)::(nat_lit 22,o22)::(nat_lit 23,o23)::(nat_lit 24,o24)::(nat_lit 25,o25)::(nat_lit 31,o31)::(nat_lit 32,o32)::(nat_lit 38,o38)::(nat_lit 39,o39)::(nat_lit 45,o45)::(nat_lit 46,o46)::(nat_lit 52,o52)::(nat_lit 53,o53)::(nat_lit 59,o59)::(nat_lit 60,o60)::(nat_lit 66,o66)::(nat_lit 67,o67)::(nat_lit 73,o73)::(nat_lit 74,o74)::(nat_lit 80,o80)::(nat_lit 81,o81)::(nat_lit 82,o82)::(nat_lit 90,o90 P)::(nat_lit 91,o91)::(nat_lit 92,o92)::(nat_lit 95,o82)::(nat_lit 103,RX P)::(nat_lit 104,RW)::(nat_lit 105,RV)::(nat_lit 108,o82)::(nat_lit 116,RU P)::(nat_lit 117,RS)::(nat_lit 118,RR)::(nat_lit 121,o82)::(nat_lit 129,RQ P)::(nat_lit 130,RP)::(nat_lit 131,RO)::(nat_lit 134,o82)::(nat_lit 142,RN P)::(nat_lit 143,RL)::(nat_lit 144,RK)::(nat_lit 152,RJ)::(nat_lit 153,RI)::(nat_lit 159,RH)::(nat_lit 160,RG)::(nat_lit 166,RF)::(nat_lit 167,RE)::(nat_lit 173,RD)::(nat_lit 174,RC)::(nat_lit 178,RB)::(nat_lit 179,RA)::(nat_lit 183,R9)::(nat_lit 184,R8)::(nat_lit 188,R7)::(nat_lit 189,R6)::(nat_lit 195,R5)::(nat_lit 196,R4)::(nat_lit 202,R1)::(nat_lit 203,R0)::(nat_lit 209,QZ)::(nat_lit 210,QY)::(nat_lit 216,QX)::(nat_lit 217,QW)::(nat_lit 221,QV)::(nat_lit 222,QU)::(nat_lit 228,QT)::(nat_lit 229,QS)::(nat_lit 235,QR)::(nat_lit 236,QQ)::(nat_lit 242,QP)::(nat_lit 243,QO)::(nat_lit 249,QN)::(nat_lit 250,QM)::(nat_lit 256,QL)::(nat_lit 257,QK)::(nat_lit 263,QJ)::(nat_lit 264,QI)::(nat_lit 265,QH)::(nat_lit 266,QG)::(nat_lit 267,QF)::(nat_lit 268,QE)::(nat_lit 269,QD)::(nat_lit 270,QC)::(nat_lit 271,QB)::(nat_lit 272,QA)::(nat_lit 273,Q9)::(nat_lit 274,Q8)::(nat_lit 275,Q7)::(nat_lit 276,Q6)::(nat_lit 277,Q5)::(nat_lit 278,Q4)::(nat_lit 279,Q3)::(nat_lit 280,Q2)::(nat_lit 281,Q1)::(nat_lit 282,Q0)::(nat_lit 283,PZ)::(nat_lit 289,PY)::(nat_lit 290,PX)::(nat_lit 296,PV)::(nat_lit 297,PU)::(nat_lit 301,PR)::(nat_lit 302,PQ)::(nat_lit 306,PN)::(nat_lit 307,PM)::(nat_lit 313,PL)::(nat_lit 314,PJ)::(nat_lit 327,PH)::(nat_lit 328,PF)::(nat_lit 330,PD P)::(nat_lit 331,PB)::(nat_lit 332,P9)::(nat_lit 333,P8)::(nat_lit 341,P7)::(nat_lit 342,P6)::(nat_lit 348,P5)::(nat_lit 349,P4)::(nat_lit 355,P2)::(nat_lit 356,P1)::(nat_lit 362,P0)::(nat_lit 363,OZ)::(nat_lit 369,OY)::(nat_lit 370,OX)::(nat_lit 376,OW)::(nat_lit 377,OV)::(nat_lit 383,OU)::(nat_lit 384,OT)::(nat_lit 390,OS)::(nat_lit 391,OR)::(nat_lit 395,OQ)::(nat_lit 396,OP)::(nat_lit 402,OO)::(nat_lit 403,ON)::(nat_lit 409,OM)::(nat_lit 410,OL)::(nat_lit 416,OK)::(nat_lit 417,OJ)::(nat_lit 423,OI)::(nat_lit 424,OH)::(nat_lit 430,OG)::(nat_lit 431,OF)::(nat_lit 437,OE)::(nat_lit 438,OD)::(nat_lit 444,OC)::(nat_lit 445,OB)::(nat_lit 451,OA)::(nat_lit 452,O9)::(nat_lit 458,O8)::(nat_lit 459,O7)::[]
def as:List Addr:=[2,3,15,16,17,18,19,20,21,22,23,24,25,31,32,38,39,45,46,52,53,59,60,66,67,73,74,80,81,82,90,91,92,95,103,104,105,108,116,117,118,121,129,130,131,134,142,143,144,152,153,159,160,166,167,173,174,178,179,183,184,188,189,195,196,202,203,209,210,216,217,221,222,228,229,235,236,242,243,249,250,256,257,263,264,265,266,267,268,269,270,271,272,273,274,275,276,277,278,279,280,281,282,283,289,290,296,297,301,302,306,307,313,314,327,328,330,331,332,333,341,342,348,349,355,356,362,363,369,370,376,377,383,384,390,391,395,396,402,403,409,410,416,417,423,424,430,431,437,438,444,445,451,452,458,459]
theorem hkE:∀P,as=(hpK P).map (·.1):=fun _=>by kernel_rfl
def H1(P:Params):Heap:={objs:={toList:=[boot_o_0 P,boot_o_1 P,o2 P,o3 P,boot_o_4 P,boot_o_5 P,boot_o_6 P,boot_o_7 P,boot_o_8 P,boot_o_9 P,boot_o_10 P,o11,o12,o13,o14,o15,o16,o17,o18,o19,o20,o21,o22,o23,o24,o25,o11,o27,o28,o11,o30,o31,o32,o11,o27,o35,o11,o37,o38,o39,o11,o27,o42,o11,o44,o45,o46,o11,o27,o49,o11,o51,o52,o53,o11,o27,o56,o11,o58,o59,o60,o11,o27,o63,o11,o65,o66,o67,o11,o27,o70,o11,o72,o73,o74,o11,o27,o77,o11,o79,o80,o81,o82,o83,o84 P,o11,o27,o87,o88,o11,o90 P,o91,o92,o93,o94,o82,o83,o97 P,o11,o27,WW,WV,o11,RX P,RW,RV,WU,WT,o82,o83,WS P,o11,o27,WR,WQ,o11,RU P,RS,RR,WO,WN,o82,o83,WM P,o11,o27,WL,WK,o11,RQ P,RP,RO,WJ,WI,o82,o83,WH P,o11,o27,WG,WE,o11,RN P,RL,RK,WD,WC,o11,o27,WB,o11,WA,RJ,RI,o11,o27,W9,o11,W8,RH,RG,o11,o27,W7,o11,W6,RF,RE,o11,o27,W5,o11,W3,RD,RC,o11,o27,W2,RB,RA,o11,o27,W0,R9,R8,o11,o27,VZ,R7,R6,o11,o27,VY,o11,VX,R5,R4,o11,o27,VW,o11,VU,R1,R0,o11,o27,VT,o11,VS,QZ,QY,o11,o27,VR,o11,VQ,QX,QW,o11,o27,VP,QV,QU,o11,o27,VO,o11,VN,QT,QS,o11,o27,VM,o11,VL,QR,QQ,o11,o27,VJ,o11,VI,QP,QO,o11,o27,VH,o11,VG,QN,QM,o11,o27,VF,o11,VE,QL,QK,o11,o27,VD,o11,VC,QJ,QI,QH,QG,QF,QE,QD,QC,QB,QA,Q9,Q8,Q7,Q6,Q5,Q4,Q3,Q2,Q1,Q0,PZ,o11,o27,VB,o11,VA,PY,PX,o11,o27,V9,o11,V8,PV,PU,o11,o27,V7,PR,PQ,o11,o27,V6,PN,PM,o11,o27,V5,o11,V3,PL,PJ,o11,o83,V2 P,o11,V1,V0,UZ,o11,o27,UY,o11,UX,PH,PF,UW,PD P,PB,P9,P8,UU,UT,o11,o27,US,o11,UR,P7,P6,o11,o27,UQ,o11,UP,P5,P4,o11,o27,UO,o11,UN,P2,P1,o11,o27,UM,o11,UL,P0,OZ,o11,o27,UK,o11,UJ,OY,OX,o11,o27,UI,o11,UH,OW,OV,o11,o27,UG,o11,UE,OU,OT,o11,o27,UD,o11,UC,OS,OR,o11,o27,UB,OQ,OP,o11,o27,UA,o11,U9,OO,ON,o11,o27,U8,o11,U7,OM,OL,o11,o27,U6,o11,U5,OK,OJ,o11,o27,U4,o11,U3,OI,OH,o11,o27,U2,o11,U1,OG,OF,o11,o27,U0,o11,TZ,OE,OD,o11,o27,TY,o11,TV,OC,OB,o11,o27,TU,o11,TQ,OA,O9,o11,o27,TN,TM,TJ,O8,O7]}}
def vw:Program:=view PySem.Challenge.pw_rooftold_s04_drop [1,2,3,4,5,6,7,8,9,10,11,13,14,15,16,17,18,20,21,22,23,24,25,26,27,28,29,30,31,32,33,35,36,37,38,39,40,41,42,43,44,45,46,47,49,50,51,52,53,54,55,56,58,59,60,61,62,63,64,65,66,68,69,70,71,72,73,74,75,77,78,79,80,81,82]
abbrev xt(s:Shared):Bool:=xlAt vw [] s&& recOk [] s
theorem run:∀w os,topRun treeTable PySem.Challenge.rw_rooftold_s04_drop.prog w 11 (some (.ref 6)) 6416 {heap:=boot_heap w.params,gens:=Array.mk [],drawn:=boot_drawn,toks:=boot_toks,os:=os} (topStub PySem.Challenge.rw_rooftold_s04_drop.prog)=some {heap:=H1 w.params,gens:=Array.mk [],drawn:=boot_drawn,toks:=891,os:=os}:=by intro w os;kernel_rfl
theorem left:LeftO PySem.Challenge.rw_rooftold_s04_drop.prog vw [] xt (Hook.obs (kHook hpK as hkE)) (Hook.val (kHook hpK as hkE)) 6416:=by refine LeftO.of_pieces (M:=6416) (boot_open (by kernel_rfl) (by decide) (fun s=>by kernel_rfl)) (fun w=>by kernel_rfl) run (by decide) (fun w=>?_);funext os;kernel_rfl
end
end HP
namespace L2
open PySem PySem.Spec PyProof.Rows
abbrev Key:=Sum Int Str
noncomputable def qV:Key->Value->Bool
 | .inl k,v=>Value.isInt k v
 | .inr x,v=>Value.isStrOf x v
def X0(w:World):Key->Int
 | .inl k=>hashInt k
 | .inr x=>hashStr w x
theorem cJ:∀{k:Key}{v:Value},qV k v=true->(∃i t,k=Sum.inl i/\v=Value.int i t)\/(∃x t,k=Sum.inr x/\v=Value.str x t)
 | .inl i,v,h=>by obtain⟨t,e⟩:=Value.isInt_shape (k:=i) (v:=v) h;exact .inl ⟨i,t,rfl,e⟩
 | .inr x,v,h=>by obtain⟨t,e⟩:=Value.isStrOf_shape (x:=x) (v:=v) h;exact .inr ⟨x,t,rfl,e⟩
theorem F5(i:Int)(t:Tok):qV (.inl i) (.int i t)=true:=by simp[qV,Value.isInt]
theorem F4(x:Str)(t:Tok):qV (.inr x) (.str x t)=true:=by simp[qV,Value.isStrOf]
theorem MO(a b:Int):decide ((Sum.inl a:Key)=Sum.inl b)=(a==b):=by
 by_cases e:a=b
 ·subst e;simp
 ·have h:¬(Sum.inl a:Key)=Sum.inl b:=fun q=>e (Sum.inl.inj q)
  rw[decide_eq_false h];exact(beq_eq_false_iff_ne.mpr e).symm
theorem ML(a b:Str):decide ((Sum.inr a:Key)=Sum.inr b)=decide (a=b):=by
 by_cases e:a=b
 ·subst e;simp
 ·have h:¬(Sum.inr a:Key)=Sum.inr b:=fun q=>e (Sum.inr.inj q)
  rw[decide_eq_false h,decide_eq_false e]
theorem MN(a:Int)(b:Str):decide ((Sum.inl a:Key)=Sum.inr b)=false:=decide_eq_false (fun q=>nomatch q)
theorem MM(a:Str)(b:Int):decide ((Sum.inr a:Key)=Sum.inl b)=false:=decide_eq_false (fun q=>nomatch q)
noncomputable def cD(prog:Program)(w:World):PySem.KeyKind prog w Key where
 is:=qV
 hash:=X0 w
 inj:=fun v a b ha hb=>by
  rcases cJ ha with⟨i,t,rfl,rfl⟩|⟨x,t,rfl,rfl⟩
  ·rcases cJ hb with⟨j,u,rfl,e⟩|⟨y,u,rfl,e⟩
   ·injection e with e1 _;rw[e1]
   ·exact nomatch e
  ·rcases cJ hb with⟨j,u,rfl,e⟩|⟨y,u,rfl,e⟩
   ·exact nomatch e
   ·injection e with e1 _;rw[e1]
 byValue:=fun k v h=>by rcases cJ h with⟨i,t,rfl,rfl⟩|⟨x,t,rfl,rfl⟩<;>rfl
 pyHash:=fun hv h=>by
  rcases cJ hv with⟨i,t,rfl,rfl⟩|⟨x,t,rfl,rfl⟩
  ·exact wpAny_pyHash_int h
  ·exact wpAny_pyHash_str h
 eqBool:=fun hu hv h=>by
  rcases cJ hu with⟨i,t,rfl,rfl⟩|⟨x,t,rfl,rfl⟩
  ·rcases cJ hv with⟨j,u,rfl,rfl⟩|⟨y,u,rfl,rfl⟩
   ·rw[MO]at h;exact wpAny_eqBool_int h
   ·rw[MN]at h;exact SeqAt.EqAt.int_str i t y u _ _ _ _ h
  ·rcases cJ hv with⟨j,u,rfl,rfl⟩|⟨y,u,rfl,rfl⟩
   ·rw[MM]at h;exact SeqAt.EqAt.str_int x t j u _ _ _ _ h
   ·rw[ML]at h;exact wpAny_eqBool_str h
 «strs» :=fun k x t v h=>by
  rcases cJ h with⟨i,u,rfl,e⟩|⟨y,u,rfl,e⟩
  ·exact nomatch e
  ·injection e with e1 _
   subst e1;cases v<;>rfl
theorem yV(prog:Program)(w:World)(i:Int)(t:Tok):(cD prog w).is (.inl i) (.int i t)=true:=F5 i t
theorem yU(prog:Program)(w:World)(x:Str)(t:Tok):(cD prog w).is (.inr x) (.str x t)=true:=F4 x t
inductive V where
 |non|bl (b:Bool)|int (i:Int)|str (x:Str)|byt (b:Array UInt8)|flt (b:UInt64)|ref (a:Addr)|ty (n:String)
 deriving DecidableEq
noncomputable def RelV:V->Value->Prop
 | .non,u=>u=Value.none
 | .bl b,u=>u=Value.bool b
 | .int i,u=>∃t,u=Value.int i t
 | .str x,u=>∃t,u=Value.str x t
 | .byt b,u=>∃t,u=Value.bytes b t
 | .flt b,u=>∃t,u=Value.float b t
 | .ref a,u=>u=Value.ref a
 | .ty n,u=>u=Value.type n
abbrev Vals:List V->List Value->Prop:=Paired RelV
theorem Vals.length{xs:List V}{us:List Value}(r:Vals xs us):xs.length=us.length:=Paired.length r
theorem Vals.get:∀{xs:List V}{us:List Value}{i:Nat}{x:V},Vals xs us->xs[i]? =some x->∃u,us[i]? =some u/\RelV x u
 |_,_,_,_,.nil,e=>by simp at e
 |_,_,0,_,.cons r _,e=>by simp at e;subst e;exact⟨_,rfl,r⟩
 |_,_,i+1,x,.cons _ t,e=>by obtain⟨u,h1,h2⟩:=Vals.get (i:=i) (x:=x) t (by simpa using e);exact⟨u,by simpa using h1,h2⟩
theorem Vals.append:∀{xs ys:List V}{us ws:List Value},Vals xs us->Vals ys ws->Vals (xs++ys) (us++ws)
 |_,_,_,_,.nil,s=>s
 |_,_,_,_,.cons r t,s=>.cons r (Vals.append t s)
theorem Vals.take:∀{xs:List V}{us:List Value}(n:Nat),Vals xs us->Vals (xs.take n) (us.take n)
 |_,_,0,_=>.nil
 |_,_,_+1,.nil=>.nil
 |_,_,n+1,.cons r t=>.cons r (Vals.take n t)
theorem Vals.drop:∀{xs:List V}{us:List Value}(n:Nat),Vals xs us->Vals (xs.drop n) (us.drop n)
 |_,_,0,r=>r
 |_,_,_+1,.nil=>.nil
 |_,_,n+1,.cons _ t=>Vals.drop n t
noncomputable def mT:Option V->Option Value->Prop
 |some v,some u=>RelV v u
 |none,none=>True
 |_,_=>False
noncomputable def KV{κ:Type}:List (κ×V)->List (κ×Value)->Prop:=Paired fun(p:κ×V)(q:κ×Value)=>p.1=q.1/\RelV p.2 q.2
def kV:Key->V
 | .inl i=>.int i
 | .inr x=>.str x
inductive HO where
 |lst (xs:List V)
 |tup (xs:List V)
 |dK (kvs:List (Key×V))|dT (kvs:List (List Key×V))
 |set (S:Int->Bool) (n:Nat)
 |ins (C dx:Addr) (fs:List (Str×V))
 |own (x:Addr)
 |xd (fs:List (Str×V))
 |met (f x:Addr)
 |rng (lo hi:Int)
 |frz (o:Obj) (u:HO)
 |tbl (ps:Array Value)
 |ext (φ:Heap->Prop)
abbrev Hp:=Addr->Option HO
def upd(H:Hp)(a:Addr)(o:HO):Hp:=fun b=>if b=a then some o else H b
theorem a8{H:Hp}{a:Addr}{o:HO}:upd H a o a=some o:=by unfold upd;rw[ag rfl]
theorem aC{H:Hp}{a b:Addr}{o:HO}(h:b≠a):upd H a o b=H b:=by unfold upd;rw[af h]
theorem eJ{H:Hp}{a b:Addr}{o u:HO}(h:H a=some o)(h':H b=some u)(d:o≠u):a≠b:=by intro e;subst e;rw[h]at h';exact d (Option.some.inj h')
theorem aI{H:Hp}{a b:Addr}{o:HO}(h:H a=some o)(h':H b=none):a≠b:=by intro e;subst e;rw[h]at h';cases h'
section
variable (P:Program) (w:World)
noncomputable def d9(H:Hp)(h:Heap)(a:Addr):HO->Prop
 | .lst xs=>xs.length<=sizeLine/\∃(its:List Value)(n:Nat),Vals xs its/\h.get? a=some {cls:=.type "list",data:=.seq its.toArray n}
 | .tup xs=>xs.length<=sizeLine/\∃its:List Value,Vals xs its/\IsTup h a its.toArray
 | .dK kvs=>kvs.length<=sizeLine/\(a==sysModules)=false/\∃vs,KV kvs vs/\h.DictOf (cD P w) a vs
 | .dT kvs=>kvs.length<=sizeLine/\(a==sysModules)=false/\∃xs:List (List Key×Addr×Value),
   Paired (fun(p:List Key×V)(q:List Key×Addr×Value)=>p.1=q.1/\H q.2.1=some (.tup (p.1.map kV))/\RelV p.2 q.2.2) kvs xs/\
   ∃o es ep,h.get? a=some o/\o.ExactDict/\o.data=.dict es ep/\es.toList=xs.map (entryOfKey (tupleKind (cD P w)))/\(xs.map (·.1)).Nodup
 | .set S n=>h.SetOf (intKind P w) a S n
 | .ins C dx fs=>H dx=some (.own a)/\fs.length<=1000/\dx≠a/\h.get? a=some (W.instObj C dx)/\
   ∃mA,h.Ns1 dx mA/\(∀f,mT (fs.lookup f) (mA f))/\PySem.Within mA (fs.map (·.1))
 | .own _=>∃o,h.get? a=some o
 | .xd fs=>∃mA,h.Ns1 a mA/\∀f,mT (fs.lookup f) (mA f)
 | .rng lo hi=>∃t u v,h.get? a=some {cls:=.type "range",data:=.fields #[.int lo t,.int hi u,.int 1 v]}
 | .frz o u=>h.get? a=some o/\d9 H h a u
 | .tbl ps=>h.get? a=some {cls:=.none,data:=.fields ps}
 | .met f x=>h.get? a=some (W.methodObj (.ref f) (.ref x))
 | .ext φ=>φ h/\(∃o,h.get? a=some o)/\∀h1 h2:Heap,φ h1->(∀o,h1.get? a=some o->h2.get? a=some o)->φ h2
def HOk(H:Hp)(h:Heap):Prop:=∀a o,H a=some o->d9 P w H h a o
end
section
variable {P:Program}{w:World}{H H':Hp}{h h':Heap}{a:Addr}{o:HO}
theorem d9.lt(x:d9 P w H h a o):a<h.objs.size:=by
 cases o with
 |lst xs=>obtain⟨_,_,_,_,e⟩:=x;exact bq e
 |tup xs=>obtain⟨_,_,_,p⟩:=x;exact p.lt
 |dK kvs=>obtain⟨_,_,_,_,o,_,_,e,_⟩:=x;exact bq e
 |dT kvs=>obtain⟨_,_,_,_,o,_,_,e,_⟩:=x;exact bq e
 |set S n=>obtain⟨o,_,_,_,e,_⟩:=x;exact bq e
 |ins C dx fs=>obtain⟨_,_,_,e,_⟩:=x;exact bq e
 |own y=>obtain⟨_,e⟩:=x;exact bq e
 |xd fs=>obtain⟨_,⟨_,_,_,e,_⟩,_⟩:=x;exact bq e
 |rng lo hi=>obtain⟨_,_,_,e⟩:=x;exact bq e
 |frz ob u=>obtain⟨e,_⟩:=x;exact bq e
 |tbl ps=>exact bq (show h.get? a=some _ from x)
 |met f y=>exact bq (show h.get? a=some _ from x)
 |ext φ=>obtain⟨_,⟨_,e⟩,_⟩:=x;exact bq e
theorem Paired.MI{α β:Type}{F G:α->β->Prop}:∀{l₁:List α}{l₂:List β},Paired F l₁ l₂->(∀a b,F a b->G a b)->Paired G l₁ l₂
 |_,_,.nil,_=>.nil
 |_,_,.cons r t,f=>.cons (f _ _ r) (Paired.MI t f)
theorem d9.n9(x:d9 P w H h a o)(k:∀b u,(b=a\/H b=some (.own a))->h.get? b=some u->h'.get? b=some u)
  (ho:∀b,H b=some (.own a)->H' b=some (.own a)) (ht:∀b xs,H b=some (.tup xs)->H' b=some (.tup xs)):d9 P w H' h' a o:=by
 induction o with
 |lst xs=>obtain⟨z,its,n,r,e⟩:=x;exact⟨z,its,n,r,k _ _ (.inl rfl) e⟩
 |tup xs=>obtain⟨z,its,r,ob,e,c⟩:=x;exact⟨z,its,r,ob,k _ _ (.inl rfl) e,c⟩
 |dK kvs=>obtain⟨z,y,vs,r,ob,es,ep,e,c⟩:=x;exact⟨z,y,vs,r,ob,es,ep,k _ _ (.inl rfl) e,c⟩
 |dT kvs=>obtain⟨z,y,xs,r,ob,es,ep,e,c⟩:=x;exact⟨z,y,xs,Paired.MI r fun p q z=>⟨z.1,ht _ _ z.2.1,z.2.2⟩,ob,es,ep,k _ _ (.inl rfl) e,c⟩
 |set S n=>obtain⟨ob,es,ep,t,e,c⟩:=x;exact⟨ob,es,ep,t,k _ _ (.inl rfl) e,c⟩
 |ins C dx fs=>obtain⟨d,z,ne,e,mA,⟨od,es,ep,e2,c⟩,r⟩:=x;exact⟨ho _ d,z,ne,k _ _ (.inl rfl) e,mA,⟨od,es,ep,k _ _ (.inr d) e2,c⟩,r⟩
 |own y=>obtain⟨ob,e⟩:=x;exact⟨ob,k _ _ (.inl rfl) e⟩
 |xd fs=>obtain⟨mA,⟨od,es,ep,e,c⟩,r⟩:=x;exact⟨mA,⟨od,es,ep,k _ _ (.inl rfl) e,c⟩,r⟩
 |rng lo hi=>obtain⟨t,u,v,e⟩:=x;exact⟨t,u,v,k _ _ (.inl rfl) e⟩
 |frz ob u ih=>obtain⟨e,q⟩:=x;exact⟨k _ _ (.inl rfl) e,ih q⟩
 |tbl ps=>
  have e:h.get? a=some {cls:=.none,data:=.fields ps}:=x;show h'.get? a=some {cls:=.none,data:=.fields ps}
  exact k a _ (.inl rfl) e
 |met f y=>
  have e:h.get? a=some (W.methodObj (.ref f) (.ref y)):=x;show h'.get? a=some (W.methodObj (.ref f) (.ref y))
  exact k a _ (.inl rfl) e
 |ext φ=>obtain⟨p,⟨o,e⟩,st⟩:=x;exact⟨st _ _ p fun o q=>k _ _ (.inl rfl) q,⟨o,k _ _ (.inl rfl) e⟩,st⟩
theorem HOk.lt(x:HOk P w H h)(e:H a=some o):a<h.objs.size:=(x a o e).lt
theorem HOk.fresh(x:HOk P w H h)(e:h.objs.size<=a):H a=none:=by
 cases q:H a with
 |none=>rfl
 |some u=>exact absurd (cc (x.lt q) e) (gy _)
theorem HOk.kept(x:HOk P w H h)(k:∀b u,h.get? b=some u->h'.get? b=some u):HOk P w H h':=fun a o e=>
 (x a o e).n9 (fun b u _ q=>k b u q) (fun _ q=>q) fun _ _ q=>q
theorem HOk.laid(x:HOk P w H h)(k:∀b u,h.get? b=some u->h'.get? b=some u)(hp:h.objs.size<=a)(new:d9 P w (upd H a o) h' a o):HOk P w (upd H a o) h':=fun b u e=>by
 have hn:=x.fresh hp;by_cases hb:b=a
 ·subst hb;rw[a8]at e;cases e;exact new
 ·rw[aC hb]at e;exact(x b u e).n9 (fun c v _ q=>k c v q) (fun c q=>by rw[aC (aI q hn)];exact q) fun c xs q=>by rw[aC (aI q hn)];exact q
end
def Rd(H:Hp)(a:Addr)(u:HO):Prop:=H a=some u\/∃o,H a=some (.frz o u)
theorem Rd.ok{P:Program}{w:World}{H:Hp}{h:Heap}{a:Addr}{u:HO}(r:Rd H a u)(x:HOk P w H h):d9 P w H h a u:=by
 rcases r with r|⟨o,r⟩
 ·exact x a u r
 ·obtain⟨_,q⟩:=x a _ r;exact q
noncomputable def Mut:Option HO->Prop
 |some (.lst _)=>True
 |some (.dK _)=>True
 |some (.dT _)=>True
 |some (.set _ _)=>True
 |some (.ins _ _ _)=>True
 |some (.ext _)=>True
 |_=>False
section
variable {P:Program}{w:World}{H:Hp}{h h':Heap}{x e:Addr}{o':HO}
theorem HOk.write(ok:HOk P w H h)(mu:Mut (H x))(he:e=x\/H e=some (.own x))(k:∀b u,b≠e->h.get? b=some u->h'.get? b=some u)(wq:∃u,h'.get? e=some u)
  (new:d9 P w (upd H x o') h' x o'):HOk P w (upd H x o') h':=fun b u q=>by
 have Bp:∀c y,H c=some (.own y)->c≠x:=fun c y r z=>by subst z;rw[r]at mu;exact mu
 have ntup:∀c xs,H c=some (.tup xs)->c≠x:=fun c xs r z=>by subst z;rw[r]at mu;exact mu
 by_cases hb:b=x
 ·subst hb;rw[a8]at q;cases q;exact new
 ·rw[aC hb]at q;by_cases hbe:b=e
  ·have q':H b=some (.own x):=by
    rcases he with z|z
    ·exact absurd (hbe.trans z) hb
    ·rw[hbe];exact z
   rw[q]at q';cases q';obtain⟨v,hv⟩:=wq;exact⟨v,by rw[hbe];exact hv⟩
  ·refine(ok b u q).n9 (fun c v hc r=>k c v ?_ r) (fun c r=>by rw[aC (Bp c b r)];exact r) fun c xs r=>by rw[aC (ntup c xs r)];exact r
   rcases hc with rfl|hc
   ·exact hbe
   ·rintro rfl;rcases he with z|z
    ·exact Bp c b hc z
    ·rw[hc]at z;cases z;exact hb rfl
end
structure Un(fs ex:List Addr)(H H':Hp)(h h':Heap):Prop where
 keep:∀b o,h.get? b=some o->H b=none->b∉fs->b∉ex->h'.get? b=some o
 slot:∀b o,h.get? b=some o->H b=none->b∈fs->b∉ex->∃sl,h'.get? b=some {o with slots:=sl}
 free:∀b o,h.get? b=some o->H b=none->b∉ex->H' b=none
 there:∀b o,h.get? b=some o->b∉ex->∃o',h'.get? b=some o'
 uD:∀b xs,H b=some (.tup xs)->H' b=some (.tup xs)
 nZ:∀b o u,H b=some (.frz o u)->H' b=some (.frz o u)
 sD:∀b ps,H b=some (.tbl ps)->∃more,H' b=some (.tbl (ps++more))
section
variable {fs fs' ex ex':List Addr}{H H1 H2:Hp}{h h1 h2 h':Heap}{a x e:Addr}{o:HO}
theorem Un.any(u:Un fs ex H H1 h h1){b:Addr}{ob:Obj}(q:h.get? b=some ob)(n:H b=none)(hx:b∉ex):∃sl,h1.get? b=some {ob with slots:=sl}:=by
 by_cases hb:b∈fs
 ·exact u.slot b ob q n hb hx
 ·exact⟨ob.slots,u.keep b ob q n hb hx⟩
theorem Un.kept(k:∀b u,h.get? b=some u->h'.get? b=some u):Un fs ex H H h h':=
 ⟨fun b ob q _ _ _=>k b ob q,fun b ob q _ _ _=>⟨ob.slots,k b ob q⟩,fun _ _ _ n _=>n,fun b ob q _=>⟨ob,k b ob q⟩,fun _ _ q=>q,fun _ _ _ q=>q,fun _ ps q=>⟨#[],by rw[q];simp⟩⟩
theorem Un.refl:Un fs ex H H h h:=Un.kept fun _ _ q=>q
theorem Un.laid(k:∀b u,h.get? b=some u->h'.get? b=some u)(hp:h.objs.size<=a)(hn:H a=none):Un fs ex H (upd H a o) h h' where
 keep:=fun b u q _ _ _=>k b u q
 slot:=fun b u q _ _ _=>⟨u.slots,k b u q⟩
 free:=fun b u q n _=>by rw[aC (da (cc (bq q) hp))];exact n
 there:=fun b u q _=>⟨u,k b u q⟩
 uD:=fun b xs q=>by rw[aC (aI q hn)];exact q
 nZ:=fun b u xs q=>by rw[aC (aI q hn)];exact q
 sD:=fun b ps q=>⟨#[],by rw[aC (aI q hn),q];simp⟩
theorem Un.write(mu:Mut (H x))(he:e=x\/H e=some (.own x))(k:∀b u,b≠e->h.get? b=some u->h'.get? b=some u)(wq:∃u,h'.get? e=some u):Un fs ex H (upd H x o) h h':=by
 have hx:∀b,H b=none->b≠x:=fun b n z=>by subst z;rw[n]at mu;exact mu
 have hb:∀b,H b=none->b≠e:=fun b n z=>by
  subst z;rcases he with r|r
  ·exact hx b n r
  ·rw[n]at r;cases r
 have hm:∀b u,H b=some u->¬Mut (some u)->b≠x:=fun b u q nm z=>by subst z;rw[q]at mu;exact nm mu
 refine⟨fun b u q n _ _=>k b u (hb b n) q,fun b u q n _ _=>⟨u.slots,k b u (hb b n) q⟩,fun b u q n _=>by rw[aC (hx b n)];exact n,fun b u q _=>?_,
  fun b xs q=>by rw[aC (hm b _ q fun z=>z)];exact q,fun b u xs q=>by rw[aC (hm b _ q fun z=>z)];exact q,fun b ps q=>⟨#[],by rw[aC (hm b _ q fun z=>z),q];simp⟩⟩
 by_cases hbe:b=e
 ·subst hbe;exact wq
 ·exact⟨u,k b u hbe q⟩
end
def trk(h:Heap)(H:Hp):List Addr:=(List.range h.objs.size).filter fun a=>(H a).isSome
def xF(h:Heap)(H:Hp):Heap:=W.hideAll h (trk h H)
theorem F6(h:Heap)(H:Hp):(xF h H).objs.size=h.objs.size:=W.hideAll_size _ _
theorem IT{h:Heap}{H:Hp}{b:Addr}{o:Obj}(e:h.get? b=some o)(n:H b=none):(xF h H).get? b=some o:=
 W.hideAll_get _ e fun hm=>by have q:(H b).isSome=true:=(cg.mp hm).2;rw[n]at q;simp at q
theorem K2{h:Heap}{H:Hp}{b:Addr}{o:Obj}(e:(xF h H).get? b=some o):h.get? b=some o/\H b=none:=by
 have e':h.get? b=some o:=W.of_hideAll (trk h H) e;refine⟨e',?_⟩;cases q:H b with
 |none=>rfl
 |some x=>have hm:b∈trk h H:=cg.mpr ⟨iz.mpr (bq e'),by simp[q]⟩;have z:(xF h H).get? b=none:=W.hideAll_none (trk h H) hm;rw[z]at e;cases e
structure Mod(K:W.Frag)(mg:Str->Option Value)(base:Heap):Prop where
 kin:K.In base
 glob:base.Ns mainGlobals mg
 blt:∃mb,base.Ns builtinsNs mb/\∀x:Str,x≠ "__name__" ->mb x=bootBuiltins x
 nolimit:base.NoLimit
structure Cx where
 prog:Program
 w:World
 K:W.Frag
 mg:Str->Option Value
 base:Heap
 A:Around
 N:List Str
 s_0:Shared
 H_0:Hp
 env:Env
 outer:List Env
 stack:List Env
 ex:List Addr
 fn:Str->Bool
 calm:Bool
 pn:List (Addr×Obj)
 xe:Value->Shared->Prop
def frs(l:List Env):List Addr:=l.filterMap (·.frame)
abbrev Cx.fs(X:Cx):List Addr:=frs X.outer
noncomputable def Vis(sc:Scope)(x:Str):Prop:=sc.names.lookup x=some .local\/sc.names.lookup x=some .cell\/sc.names.lookup x=some .free
noncomputable def Loc(sc:Scope)(x:Str):Prop:=sc.names.lookup x=some .local\/sc.names.lookup x=some .cell
noncomputable def Look(env:Env)(h:Heap)(m:Str->Option Value)(x:Str)(u:Value):Prop:=
 (env.kindOf x=some .local/\m x=some u)\/((env.kindOf x=some .cell\/env.kindOf x=some .free)/\∃c,env.cells.lookup x=some c/\h.IsCell c (some u))
structure Cx.Ok(X:Cx):Prop where
 mod:Mod X.K X.mg X.base
 kind:X.env.scope.kind=.function
 glob:X.env.globals=mainGlobals
 blt:X.env.builtins=builtinsNs
 above:X.s_0.heap.objs.size<=X.env.locals
 inj:∀x y c,X.env.cells.lookup x=some c->X.env.cells.lookup y=some c->x=y
 has:∀x,(X.env.kindOf x=some .cell\/X.env.kindOf x=some .free)->∃c,X.env.cells.lookup x=some c
 cab:∀x c,X.fn x=true->X.env.cells.lookup x=some c->X.s_0.heap.objs.size<=c
 hd:X.calm=true->X.A.handled=none
 frames:X.A.frames=some X.stack
 stk:X.stack=X.outer\/(X.stack=X.env::X.outer/\X.env.frame=some X.env.locals)
 exf:∀b∈X.ex,b≠X.env.locals/\∀x c,X.env.cells.lookup x=some c->c≠b
 bs:∀b o,X.base.get? b=some o->X.s_0.heap.get? b=some o/\X.H_0 b=none
 bsz:X.base.objs.size<=X.s_0.heap.objs.size
 HU:∀b o,X.base.get? b=some o->b∉X.ex
 C5:∀b∈X.ex,b∉X.fs
 kL:X.s_0.heap.FunFrames X.base X.outer
 frf:∀b∈X.fs,X.H_0 b=none
structure Inv(X:Cx)(jr:List (Addr×Obj))(σ:List (Option V))(H:Hp)(s:Shared):Prop where
 ok:X.Ok
 os:s.os=X.s_0.os
 bare:AllBare s.gens
 base:Un X.fs X.ex X.H_0 H X.s_0.heap s.heap
 loc:∃m,s.heap.Ns X.env.locals m/\∀(i:Nat)(x:Str)(v:V),X.N[i]? =some x->σ[i]? =some (some v)->Vis X.env.scope x->∃u,RelV v u/\Look X.env s.heap m x u
 cell:∀x c,X.env.cells.lookup x=some c->∃v,s.heap.IsCell c v
 free:H X.env.locals=none
 hV:∀x c,X.env.cells.lookup x=some c->H c=none
 pin:∀p∈X.pn++jr,s.heap.get? p.1=some p.2/\H p.1=none/\p.1≠X.env.locals/\p.1∉X.fs/\∀v,p.2.data≠ .cell v
 hok:HOk X.prog X.w H s.heap
 len:σ.length=X.N.length
section
variable {X:Cx}{jr:List (Addr×Obj)}{σ:List (Option V)}{H H':Hp}{s:Shared}{h':Heap}
theorem Cx.Ok.WY(ok:X.Ok){b:Addr}{o:Obj}(e:X.base.get? b=some o):b∉X.fs:=fun hb=>by have:=(ok.kL.mem hb).1;rw[e]at this;cases this
theorem Inv.bs(I:Inv X jr σ H s):∀b o,X.base.get? b=some o->s.heap.get? b=some o/\H b=none:=fun b o e=>
 ⟨I.base.keep b o (I.ok.bs b o e).1 (I.ok.bs b o e).2 (I.ok.WY e) (I.ok.HU b o e),I.base.free b o (I.ok.bs b o e).1 (I.ok.bs b o e).2 (I.ok.HU b o e)⟩
theorem Inv.bk(I:Inv X jr σ H s):∀b o,X.base.get? b=some o->s.heap.get? b=some o:=fun b o e=>(I.bs b o e).1
theorem Inv.mod(I:Inv X jr σ H s):Mod X.K X.mg X.base:=I.ok.mod
theorem Inv.kIn(I:Inv X jr σ H s):X.K.In s.heap:=I.ok.mod.kin.keeps I.bk
theorem Inv.lt(I:Inv X jr σ H s):X.env.locals<s.heap.objs.size:=let⟨_,hn,_⟩:=I.loc;hn.lt
theorem Inv.sz(I:Inv X jr σ H s):X.s_0.heap.objs.size<=s.heap.objs.size:=dj I.ok.above (le_of_lt I.lt)
theorem Inv.WX(I:Inv X jr σ H s){a:Addr}(h:s.heap.objs.size<=a):a∉X.fs:=fun hb=>by obtain⟨_,o,ho,_⟩:=I.ok.kL.mem hb;exact absurd (cc (bq ho) (dj I.sz h)) (gy _)
theorem Inv.cne(I:Inv X jr σ H s):∀x c,X.env.cells.lookup x=some c->c≠X.env.locals:=fun x c e z=>by obtain⟨v,o,ho,hd⟩:=I.cell x c e;obtain⟨m,⟨o',es,ep,vb,wy,_⟩,_⟩:=I.loc;rw[z,vb]at ho;cases ho;rw[wy]at hd;cases hd
theorem Inv.kL(I:Inv X jr σ H s):s.heap.FunFrames X.base X.outer:=by
 have all:∀(l:List Env),(∀b∈frs l,b∈X.fs)->X.s_0.heap.FunFrames X.base l->s.heap.FunFrames X.base l:=by
  intro l;induction l with
  |nil=>intro _ _;trivial
  |cons env r ih=>
   intro hs hl;obtain⟨hk,⟨L,o,hf,hn,ho,hd⟩,hr⟩:=hl;have hL:L∈X.fs:=hs L (by unfold frs;rw[fg,hf];exact bh);obtain⟨sl,e⟩:=I.base.slot L o ho (I.ok.frf L hL) hL fun z=>I.ok.C5 L z hL
   exact⟨hk,⟨L,_,hf,hn,e,hd⟩,ih (fun b hb=>hs b (by unfold frs;rw[fg,hf];exact au _ hb)) hr⟩
 exact all X.outer (fun _ hb=>hb) I.ok.kL
theorem Inv.stack(I:Inv X jr σ H s):s.heap.FunFrames X.base X.stack:=by
 rcases I.ok.stk with e|⟨e,hf⟩
 ·rw[e];exact I.kL
 ·rw[e];obtain⟨m,hn,_⟩:=I.loc;refine .cons (by rw[I.ok.kind];decide) hf hn ?_ I.kL;exact Heap.get?_none_of_le (dj I.ok.bsz I.ok.above)
theorem Inv.sF(I:Inv X jr σ H s):∀b∈frs X.stack,b∈X.env.locals::X.fs:=fun b hb=>by
 rcases I.ok.stk with e|⟨e,hf⟩
 ·rw[e]at hb;exact au _ hb
 ·rw[e]at hb;unfold frs at hb;rw[fg,hf]at hb;exact hb
theorem Inv.wN(I:Inv X jr σ H s):∀b∈frs X.stack,H b=none:=fun b hb=>by
 rcases ak.mp (I.sF b hb)with e|hb
 ·rw[e];exact I.free
 ·obtain⟨_,o,ho,_⟩:=I.ok.kL.mem hb;exact I.base.free b o ho (I.ok.frf b hb) fun z=>I.ok.C5 b z hb
theorem Inv.step{g':Array GenState}{t':Nat}{d':Drawn}{ch:List Addr}(I:Inv X jr σ H s)
  (vk:∀b∈ch,(b∈X.ex\/X.s_0.heap.objs.size<=b)/\b≠X.env.locals/\(∀x c,X.env.cells.lookup x=some c->c≠b)/\∀p∈X.pn++jr,p.1≠b)
  (keep:∀b o,b≠X.env.locals->b∉X.fs->b∉ch->s.heap.get? b=some o->H b=none->h'.get? b=some o)
  (slot:∀b o,b≠X.env.locals->b∈X.fs->b∉ch->s.heap.get? b=some o->H b=none->∃sl,h'.get? b=some {o with slots:=sl}) (free:∀b o,b∉ch->s.heap.get? b=some o->H b=none->H' b=none)
  (there:∀b o,b∉ch->s.heap.get? b=some o->∃o',h'.get? b=some o')
  (uD:∀b xs,H b=some (.tup xs)->H' b=some (.tup xs)) (nZ:∀b o u,H b=some (.frz o u)->H' b=some (.frz o u)) (sD:∀b ps,H b=some (.tbl ps)->∃more,H' b=some (.tbl (ps++more)))
  (ns:∀m,s.heap.Ns X.env.locals m->h'.Ns X.env.locals m) (hok:HOk X.prog X.w H' h') (hg:AllBare g'):
  Inv X jr σ H' {s with heap:=h',gens:=g',drawn:=d',toks:=t'}:=by
 have neL:∀b o,X.s_0.heap.get? b=some o->b≠X.env.locals:=fun b o e=>da (cc (bq e) I.ok.above)
 have neC:∀b o,X.s_0.heap.get? b=some o->b∉X.ex->b∉ch:=fun b o e hx hb=>by
  rcases(vk b hb).1 with z|z
  ·exact hx z
  ·exact absurd (cc (bq e) z) (gy _)
 have yh:∀x c,X.env.cells.lookup x=some c->∀v,s.heap.IsCell c v->h'.IsCell c v:=fun x c e v ⟨o,ho,hd⟩=>by
  have yt:c∉ch:=fun z=>(vk c z).2.2.1 x c e rfl
  by_cases hc:c∈X.fs
  ·obtain⟨sl,q⟩:=slot c o (I.cne x c e) hc yt ho (I.hV x c e);exact⟨_,q,hd⟩
  ·exact⟨o,keep c o (I.cne x c e) hc yt ho (I.hV x c e),hd⟩
 refine⟨I.ok,I.os,hg,⟨fun b o e n hb hx=>?_,fun b o e n hb hx=>?_,fun b o e n hx=>?_,fun b o e hx=>?_,fun b xs e=>uD b xs (I.base.uD b xs e),fun b o xs e=>nZ b o xs (I.base.nZ b o xs e),fun b ps e=>?_⟩,?_,fun x c e=>?_,?_,fun x c e=>?_,fun p hp=>?_,hok,I.len⟩
 ·exact keep b o (neL b o e) hb (neC b o e hx) (I.base.keep b o e n hb hx) (I.base.free b o e n hx)
 ·obtain⟨sl,e1⟩:=I.base.slot b o e n hb hx;obtain⟨sl',e2⟩:=slot b _ (neL b o e) hb (neC b o e hx) e1 (I.base.free b o e n hx);exact⟨sl',e2⟩
 ·obtain⟨o',e1⟩:=I.base.there b o e hx;exact free b o' (neC b o e hx) e1 (I.base.free b o e n hx)
 ·obtain⟨o',e1⟩:=I.base.there b o e hx;exact there b o' (neC b o e hx) e1
 ·obtain⟨m1,e1⟩:=I.base.sD b ps e;obtain⟨m2,e2⟩:=sD b _ e1;exact⟨m1++m2,by rw[e2,Array.append_assoc]⟩
 ·obtain⟨m,hn,hl⟩:=I.loc;refine⟨m,ns m hn,fun i x v e1 e2 e3=>?_⟩;obtain⟨u,r,l⟩:=hl i x v e1 e2 e3;refine⟨u,r,?_⟩;rcases l with l|⟨k,c,e,z⟩
  ·exact .inl l
  ·exact .inr ⟨k,c,e,yh x c e _ z⟩
 ·obtain⟨v,z⟩:=I.cell x c e;exact⟨v,yh x c e v z⟩
 ·obtain⟨m,⟨o,_,_,ho,_⟩,_⟩:=I.loc;exact free _ o (fun z=>(vk _ z).2.1 rfl) ho I.free
 ·obtain⟨v,o,ho,hd⟩:=I.cell x c e;exact free c o (fun z=>(vk c z).2.2.1 x c e rfl) ho (I.hV x c e)
 ·obtain⟨e,n,ne,nf,d⟩:=I.pin p hp;have yt:p.1∉ch:=fun z=>(vk p.1 z).2.2.2 p hp rfl
  exact⟨keep p.1 p.2 ne nf yt e n,free p.1 p.2 yt e n,ne,nf,d⟩
theorem Inv.un{t':Nat}(I:Inv X jr σ H s)(u:Un X.fs [] H H' s.heap h')(hok:HOk X.prog X.w H' h'):Inv X jr σ H' {s with heap:=h',toks:=t'}:=by
 obtain⟨m,⟨o,es,ep,ho,r⟩,_⟩:=id I.loc;obtain⟨sl,hL⟩:=u.any ho I.free (by simp);exact I.step (g':=s.gens) (d':=s.drawn) (ch:=[]) (fun _ z=>nomatch z) (fun b o _ hb _ e n=>u.keep b o e n hb (by simp)) (fun b o _ hb _ e n=>u.slot b o e n hb (by simp)) (fun b o _ e n=>u.free b o e n (by simp)) (fun b o _ e=>u.there b o e (by simp)) u.uD u.nZ u.sD (fun m' hm=>by
  obtain⟨o',uo,ur,vb,r'⟩:=hm;rw[ho]at vb;cases vb;exact⟨_,uo,ur,hL,r'⟩) hok I.bare
theorem Inv.call{g':Array GenState}{t':Nat}{d':Drawn}{ch:List Addr}(I:Inv X jr σ H s)(u:Un (frs X.stack) ch H H' s.heap h')(hok:HOk X.prog X.w H' h')(hg:AllBare g')
  (vk:∀b∈ch,(b∈X.ex\/X.s_0.heap.objs.size<=b)/\b≠X.env.locals/\(∀x c,X.env.cells.lookup x=some c->c≠b)/\∀p∈X.pn++jr,p.1≠b):
  Inv X jr σ H' {s with heap:=h',gens:=g',drawn:=d',toks:=t'}:=by
 obtain⟨m,⟨o,es,ep,ho,r⟩,_⟩:=id I.loc;obtain⟨sl,hL⟩:=u.any ho I.free fun z=>(vk _ z).2.1 rfl
 exact I.step (ch:=ch) vk (fun b o hL hb hc e n=>u.keep b o e n (fun z=>(ak.mp (I.sF b z)).elim hL hb) hc) (fun b o _ _ hc e n=>u.any e n hc) (fun b o hc e n=>u.free b o e n hc) (fun b o hc e=>u.there b o e hc) u.uD u.nZ u.sD (fun m' hm=>by
  obtain⟨o',uo,ur,vb,r'⟩:=hm;rw[ho]at vb;cases vb;exact⟨_,uo,ur,hL,r'⟩) hok hg
theorem Inv.turned{t':Nat}{it:Addr}(I:Inv X jr σ H s)(k:∀b o,b≠it->s.heap.get? b=some o->h'.get? b=some o)(hn:H it=none)(hL:it≠X.env.locals)
  (h1:it∈X.ex\/X.s_0.heap.objs.size<=it) (h2:∀x c,X.env.cells.lookup x=some c->c≠it) (h3:∀p∈X.pn++jr,p.1≠it):Inv X jr σ H {s with heap:=h',toks:=t'}:=by
 have Bq:∀b u,H b=some u->b≠it:=fun b u e z=>by rw[z,hn]at e;cases e
 refine I.step (g':=s.gens) (d':=s.drawn) (ch:=[it]) (fun b hb=>?_) (fun b o _ _ hc e _=>k b o (fun z=>hc (by simp[z])) e) (fun b o _ _ hc e _=>⟨o.slots,k b o (fun z=>hc (by simp[z])) e⟩) (fun _ _ _ _ n=>n)
  (fun b o hc e=>⟨o,k b o (fun z=>hc (by simp[z])) e⟩) (fun _ _ e=>e) (fun _ _ _ e=>e) (fun b ps e=>⟨#[],by rw[e];simp⟩) (fun m hm=>?_) (fun b u e=>?_) I.bare
 ·have e:b=it:=by simpa using hb
  subst e;exact⟨h1,hL,h2,h3⟩
 ·obtain⟨o,es,ep,ho,r⟩:=hm;exact⟨o,es,ep,k _ o (Ne.symm hL) ho,r⟩
 ·refine(I.hok b u e).n9 (fun c v hc q=>k c v ?_ q) (fun _ q=>q) fun _ _ q=>q
  rcases hc with z|z
  ·rw[z];exact Bq b u e
  ·exact Bq c _ z
theorem Inv.tok(I:Inv X jr σ H s)(t:Nat):Inv X jr σ H {s with toks:=t}:=I.un (h':=s.heap) (t':=t) Un.refl I.hok
theorem Inv.kept{t':Nat}(I:Inv X jr σ H s)(k:∀b u,s.heap.get? b=some u->h'.get? b=some u):Inv X jr σ H {s with heap:=h',toks:=t'}:=I.un (Un.kept k) (I.hok.kept k)
theorem Inv.laid{a:Addr}{o:HO}{t':Nat}(I:Inv X jr σ H s)(k:∀b u,s.heap.get? b=some u->h'.get? b=some u)(hp:s.heap.objs.size<=a)(new:d9 X.prog X.w (upd H a o) h' a o):
  Inv X jr σ (upd H a o) {s with heap:=h',toks:=t'}:=I.un (Un.laid k hp (I.hok.fresh hp)) (I.hok.laid k hp new)
theorem Inv.write{x e:Addr}{o:HO}{t':Nat}(I:Inv X jr σ H s)(mu:Mut (H x))(he:e=x\/H e=some (.own x))(k:∀b u,b≠e->s.heap.get? b=some u->h'.get? b=some u)(wq:∃u,h'.get? e=some u)
  (new:d9 X.prog X.w (upd H x o) h' x o):Inv X jr σ (upd H x o) {s with heap:=h',toks:=t'}:=I.un (Un.write mu he k wq) (I.hok.write mu he k wq new)
theorem Inv.weak{σ':List (Option V)}(I:Inv X jr σ H s)(hl:σ'.length=σ.length)(w:∀(i:Nat) v,σ'[i]? =some (some v)->σ[i]? =some (some v)):Inv X jr σ' H s:=
 ⟨I.ok,I.os,I.bare,I.base,let⟨m,hn,hl'⟩:=I.loc;⟨m,hn,fun i x v e1 e2 e3=>hl' i x v e1 (w i v e2) e3⟩,I.cell,I.free,I.hV,I.pin,I.hok,hl.trans I.len⟩
theorem Inv.CZ{xj:List (Addr×Obj)}(I:Inv X jr σ H s)(h:∀p∈xj,s.heap.get? p.1=some p.2/\H p.1=none/\p.1≠X.env.locals/\p.1∉X.fs/\∀v,p.2.data≠ .cell v):Inv X xj σ H s:=
 ⟨I.ok,I.os,I.bare,I.base,I.loc,I.cell,I.free,I.hV,fun p hp=>(aw.mp hp).elim (fun z=>I.pin p (cf _ z)) (h p),I.hok,I.len⟩
theorem tE{N:List Str}(hN:N.Nodup){i j:Nat}{x:Str}(a:N[i]? =some x)(b:N[j]? =some x):i=j:=by obtain⟨h1,e1⟩:=ao.mp a;obtain⟨h2,e2⟩:=ao.mp b;exact(List.getElem_inj hN).mp (e1.trans e2.symm)
theorem pA{M:Model}{A:Around}{E:Value->Shared->Prop}{i:Nat}{x:Str}{v:V}{u:Value}{Q:Unit->Shared->Prop}(I:Inv X jr σ H s)(hN:X.N.Nodup)(hi:X.N[i]? =some x)(hx:Loc X.env.scope x)(r:RelV v u)
  (h:∀s',Inv X jr (σ.set i (some v)) H s'->(∃a,Heap.SameBut a s.heap s'.heap/\(a=X.env.locals\/X.env.cells.lookup x=some a))->Q () s') (hf:X.fn x=true\/X.env.scope.names.lookup x=some .local:=by first|exact .inl rfl|exact .inr rfl|assumption):wpAny M A (storeName X.env x u) Q E s:=by
 obtain⟨m,hn,hl⟩:=id I.loc;have qi:(X.env.scope.kind== .class||(X.env.scope.kind== .module&& X.env.locals !=X.env.globals))=false:=by rw[I.ok.kind];rfl
 have hiσ:i<σ.length:=by rw[I.len];exact(ao.mp hi).1
 have cne:=I.cne;have rb:∀{a:Addr}{h':Heap},(∃o,s.heap.get? a=some o/\H a=none)->Heap.SameBut a s.heap h'->HOk X.prog X.w H h':=fun{a h'} ha hs b ob e=>by
  obtain⟨_,_,lu⟩:=ha;refine(I.hok b ob e).n9 (fun c w' hc q=>(hs.2 c ?_).trans q) (fun _ q=>q) fun _ _ q=>q
  rintro rfl;rcases hc with rfl|hc
  ·rw[lu]at e;cases e
  ·rw[lu]at hc;cases hc
 rcases hx with hk|hk
 ·refine wpAny_storeName_local hk hn (fun h' rg hs=>?_) qi;obtain⟨oL,_,_,Cm,_⟩:=id hn;refine h _ ⟨I.ok,I.os,I.bare,⟨fun b o e n hb hx=>?_,fun b o e n hb hx=>?_,I.base.free,fun b o e hx=>?_,I.base.uD,I.base.nZ,I.base.sD⟩,⟨_,rg,fun j y v' e1 e2 e3=>?_⟩,fun y c e=>?_,I.free,I.hV,fun p hp=>?_,rb ⟨oL,Cm,I.free⟩ hs,by simpa using I.len⟩ ⟨_,hs,.inl rfl⟩
  ·exact(hs.2 b (da (cc (bq e) I.ok.above))).trans (I.base.keep b o e n hb hx)
  ·obtain⟨sl,e1⟩:=I.base.slot b o e n hb hx;exact⟨sl,(hs.2 b (da (cc (bq e) I.ok.above))).trans e1⟩
  ·obtain⟨o',e1⟩:=I.base.there b o e hx;exact⟨o',(hs.2 b (da (cc (bq e) I.ok.above))).trans e1⟩
  ·by_cases hj:j=i
   ·subst hj;rw[hi]at e1;cases e1;rw[List.getElem?_set_self hiσ]at e2;cases e2;exact⟨u,r,.inl ⟨hk,by simp⟩⟩
   ·rw[List.getElem?_set_ne (Ne.symm hj)]at e2;obtain⟨u',r',q⟩:=hl j y v' e1 e2 e3;refine⟨u',r',?_⟩;rcases q with⟨k,e⟩|⟨k,c,e,z⟩
    ·refine .inl ⟨k,?_⟩;have:y≠x:=fun e=>hj (tE hN e1 (e▸hi))
     simp[this,e]
    ·exact .inr ⟨k,c,e,z.sameBut hs (cne y c e)⟩
  ·obtain⟨w',z⟩:=I.cell y c e;exact⟨w',z.sameBut hs (cne y c e)⟩
  ·obtain⟨e,n,ne,nf,d⟩:=I.pin p hp;exact⟨(hs.2 p.1 ne).trans e,n,ne,nf,d⟩
 ·have Cy:X.fn x=true:=by
   rcases hf with z|z
   ·exact z
   ·rw[z]at hk;cases hk
  obtain⟨c,hc⟩:=I.ok.has x (.inl hk);obtain⟨w',z⟩:=I.cell x c hc;refine wpAny_storeName_cell I.ok.kind hk hc z (fun h' vm hs=>?_);obtain⟨oc,hoc,hocd⟩:=id z;refine h {s with heap:=h'} ⟨I.ok,I.os,I.bare,⟨fun b o e n hb hx=>?_,fun b o e n hb hx=>?_,I.base.free,fun b o e hx=>?_,I.base.uD,I.base.nZ,I.base.sD⟩,⟨m,hn.sameBut hs (Ne.symm (cne x c hc)),fun j y v' e1 e2 e3=>?_⟩,fun y c' e=>?_,I.free,I.hV,fun p hp=>?_,rb ⟨oc,hoc,I.hV x c hc⟩ hs,by simpa using I.len⟩ ⟨c,hs,.inr hc⟩
  ·exact(hs.2 b (da (cc (bq e) (I.ok.cab x c Cy hc)))).trans (I.base.keep b o e n hb hx)
  ·obtain⟨sl,e1⟩:=I.base.slot b o e n hb hx;exact⟨sl,(hs.2 b (da (cc (bq e) (I.ok.cab x c Cy hc)))).trans e1⟩
  ·obtain⟨o',e1⟩:=I.base.there b o e hx;exact⟨o',(hs.2 b (da (cc (bq e) (I.ok.cab x c Cy hc)))).trans e1⟩
  ·by_cases hj:j=i
   ·subst hj;rw[hi]at e1;cases e1;rw[List.getElem?_set_self hiσ]at e2;cases e2;exact⟨u,r,.inr ⟨.inl hk,c,hc,vm⟩⟩
   ·rw[List.getElem?_set_ne (Ne.symm hj)]at e2;obtain⟨u',r',q⟩:=hl j y v' e1 e2 e3;refine⟨u',r',?_⟩;rcases q with q|⟨k,c',e,z'⟩
    ·exact .inl q
    ·refine .inr ⟨k,c',e,z'.sameBut hs ?_⟩;rintro rfl;exact hj (tE hN e1 (I.ok.inj _ _ _ e hc▸hi))
  ·by_cases hcc:c'=c
   ·subst hcc;exact⟨_,vm⟩
   ·obtain⟨w2,z2⟩:=I.cell y c' e;exact⟨w2,z2.sameBut hs hcc⟩
  ·obtain⟨e,n,ne,nf,d⟩:=I.pin p hp;refine⟨(hs.2 p.1 ?_).trans e,n,ne,nf,d⟩;intro q;rw[q,hoc]at e;have q':oc=p.2:=Option.some.inj e;exact d w' (by rw[<- q'];exact hocd)
theorem sE{M:Model}{A:Around}{E:Value->Shared->Prop}{i:Nat}{x:Str}{v:V}{u:Value}{Q:Unit->Shared->Prop}(I:Inv X jr σ H s)(hN:X.N.Nodup)(hi:X.N[i]? =some x)(hx:Loc X.env.scope x)(r:RelV v u)
  (h:∀s',Inv X jr (σ.set i (some v)) H s'->Q () s') (hf:X.fn x=true\/X.env.scope.names.lookup x=some .local:=by first|exact .inl rfl|exact .inr rfl|assumption):wpAny M A (storeName X.env x u) Q E s:=
 pA I hN hi hx r (fun s' I' _=>h s' I') hf
theorem Inv.DV{s':Shared}{ch:List Addr}(I:Inv X jr σ H s)(ho:s'.os=s.os)(u:Un (frs X.stack) ch H H' s.heap s'.heap)(hok:HOk X.prog X.w H' s'.heap)(hg:AllBare s'.gens)
  (vk:∀b∈ch,(b∈X.ex\/X.s_0.heap.objs.size<=b)/\b≠X.env.locals/\(∀x c,X.env.cells.lookup x=some c->c≠b)/\∀p∈X.pn++jr,p.1≠b):Inv X jr σ H' s':=by
 obtain⟨h',g',d',t',o'⟩:=s';have e:o'=s.os:=ho;subst e;exact I.call (g':=g') (t':=t') (d':=d') u hok hg vk
end
abbrev XK:=Value->Option Addr->Hp->Prop
abbrev St:=List (Option V)
abbrev VK:=V->Hp->Prop
abbrev TE:=St->Hp->VK->Prop
abbrev TT:=St->Hp->(Bool->Hp->Prop)->Prop
abbrev TA:=St->Hp->(List V->Hp->Prop)->Prop
structure Ends where
 nx:St->Hp->Prop
 rt:VK
 bk:St->Hp->Prop:=fun _ _=>False
 ct:St->Hp->Prop:=fun _ _=>False
abbrev TS:=Ends->St->Hp->Prop
noncomputable def EP(X:Cx)(jr:List (Addr×Obj))(σ:St)(Q:VK)(u:Value)(s':Shared):Prop:=∃v H',Inv X jr σ H' s'/\RelV v u/\Q v H'
noncomputable def TP(X:Cx)(jr:List (Addr×Obj))(σ:St)(Q:Bool->Hp->Prop)(b:Bool)(s':Shared):Prop:=∃H',Inv X jr σ H' s'/\Q b H'
noncomputable def AP(X:Cx)(jr:List (Addr×Obj))(σ:St)(Q:List V->Hp->Prop)(us:List Value)(s':Shared):Prop:=∃vs H',Inv X jr σ H' s'/\Vals vs us/\Q vs H'
noncomputable def SP(X:Cx)(jr:List (Addr×Obj))(D:Ends)(f:Flow)(s':Shared):Prop:=
 match f with
 | .next=>∃σ' H',Inv X jr σ' H' s'/\D.nx σ' H'
 | .brk=>∃σ' H',Inv X jr σ' H' s'/\D.bk σ' H'
 | .cont=>∃σ' H',Inv X jr σ' H' s'/\D.ct σ' H'
 | .ret u=>∃v σ' H',Inv X jr σ' H' s'/\RelV v u/\D.rt v H'
noncomputable def PE(X:Cx)(e:Expr)(t:TE):Prop:=
 ∀(jr:List (Addr×Obj))(s:Shared)(σ:St)(H:Hp)(Q:VK),Inv X jr σ H s->t σ H Q->wpAny (model X.prog X.w) X.A (eval e X.env) (EP X jr σ Q) X.xe s
noncomputable def PT(X:Cx)(e:Expr)(t:TT):Prop:=
 ∀(jr:List (Addr×Obj))(s:Shared)(σ:St)(H:Hp)(Q:Bool->Hp->Prop),Inv X jr σ H s->t σ H Q->wpAny (model X.prog X.w) X.A (isTrue e X.env (eval e X.env)) (TP X jr σ Q) X.xe s
noncomputable def PW(X:Cx)(e:Expr)(t:TT):Prop:=
 ∀(mx:Sem Value)(jr:List (Addr×Obj))(s:Shared)(σ:St)(H:Hp)(Q:Bool->Hp->Prop),Inv X jr σ H s->t σ H Q->wpAny (model X.prog X.w) X.A (isTrue e X.env mx) (TP X jr σ Q) X.xe s
theorem PW.pt{X:Cx}{e:Expr}{t:TT}(h:PW X e t):PT X e t:=h _
noncomputable def PA(X:Cx)(es:List Expr)(t:TA):Prop:=
 ∀(pos:Pos)(jr:List (Addr×Obj))(s:Shared)(σ:St)(H:Hp)(Q:List V->Hp->Prop),Inv X jr σ H s->t σ H Q->wpAny (model X.prog X.w) X.A (spliced (backTo pos (starEach es X.env))) (AP X jr σ Q) X.xe s
noncomputable def PS(X:Cx)(st:Stmt)(t:TS):Prop:=
 ∀(jr:List (Addr×Obj))(s:Shared)(σ:St)(H:Hp)(D:Ends),Inv X jr σ H s->t D σ H->wpAny (model X.prog X.w) X.A (exec st X.env) (SP X jr D) X.xe s
noncomputable def PSs(X:Cx)(st:List Stmt)(t:TS):Prop:=
 ∀(jr:List (Addr×Obj))(s:Shared)(σ:St)(H:Hp)(D:Ends),Inv X jr σ H s->t D σ H->wpAny (model X.prog X.w) X.A (execs st X.env) (SP X jr D) X.xe s
theorem thn{α:Type}{t:Sem α}{Q Q':α->Shared->Prop}{M:Model}{A:Around}{E:Value->Shared->Prop}{s:Shared}(h:wpAny M A t Q E s)(hQ:∀a s,Q a s->Q' a s):wpAny M A t Q' E s:=wpAny_mono h hQ fun _ _ x=>x
section
variable {X:Cx}
def wM(i:Nat):TE:=fun σ H Q=>∃v,σ[i]? =some (some v)/\Q v H
def tC(v:V):TE:=fun _ H Q=>Q v H
theorem GZ{i:Nat}{x:Str}{pos:Pos}(hN:X.N[i]? =some x)(hv:Vis X.env.scope x)(hd:(x==("__debug__" : Str))=false:=by decide)(om:(x==("__classdict__" : Str))=false:=by decide):PE X (.Name x pos) (wM i):=by
 intro jr s σ H Q I h;obtain⟨v,e,h⟩:=h;obtain⟨m,hn,hl⟩:=I.loc;obtain⟨u,r,l⟩:=hl i x v hN e hv;have fin:EP X jr σ Q u s:=⟨v,H,I,r,h⟩;rcases l with⟨hk,hm⟩|⟨hk,c,hc,oq⟩
 ·exact wpAny_Name (wpAny_loadName_local I.ok.kind hk hn hm fin) hd
 ·rcases hk with hk|hk
  ·exact wpAny_Name (wpAny_loadName_cell I.ok.kind hk hc oq fin) hd
  ·exact wpAny_Name (wpAny_loadName_free I.ok.kind hk hc oq fin om) hd
theorem aL{i j pos}:PE X (.Constant (.int i) j pos) (tC (.int i)):=fun _ _ _ H _ I h=>wpAny_Constant_int ⟨.int i,H,I.tok _,⟨_,rfl⟩,h⟩
theorem iR{b j pos}:PE X (.Constant (.bool b) j pos) (tC (.bl b)):=fun _ _ _ H _ I h=>Constant_bool ⟨.bl b,H,I,rfl,h⟩
theorem HF{j pos}:PE X (.Constant .none j pos) (tC .non):=fun _ _ _ H _ I h=>Constant_none ⟨.non,H,I,rfl,h⟩
def Gl(X:Cx)(x:Str):Prop:=X.env.kindOf x=some .globalImplicit
theorem jB{E:Value->Shared->Prop}{jr:List (Addr×Obj)}{s:Shared}{σ:St}{H:Hp}{x:Str}{u:Value}{pos:Pos}{Q:Value->Shared->Prop}(I:Inv X jr σ H s)(hg:Gl X x)(hm:X.mg x=some u)(h:Q u s)
  (hd:(x==("__debug__" : Str))=false:=by decide):wpAny (model X.prog X.w) X.A (eval (.Name x pos) X.env) Q E s:=
 Calls.Name_function_global I.ok.kind hg (Calls.loadGlobal_global (by rw[I.ok.glob];exact I.mod.glob.keeps I.bk) hm h) hd
theorem pP{E:Value->Shared->Prop}{jr:List (Addr×Obj)}{s:Shared}{σ:St}{H:Hp}{x:Str}{u:Value}{pos:Pos}{Q:Value->Shared->Prop}(I:Inv X jr σ H s)(hg:Gl X x)(hm:X.mg x=none)(hv:bootBuiltins x=some u)(h:Q u s)
  (hn:x≠ "__name__" :=by decide) (hd:(x==("__debug__" : Str))=false:=by decide):wpAny (model X.prog X.w) X.A (eval (.Name x pos) X.env) Q E s:=by
 obtain⟨mb,h1,h2⟩:=I.mod.blt;exact Calls.Name_function_global I.ok.kind hg (Calls.loadGlobal_builtin (by rw[I.ok.glob];exact I.mod.glob.keeps I.bk) hm (by rw[I.ok.blt];exact h1.keeps I.bk) ((h2 x hn).trans hv) h) hd
theorem D0{x:Str}{v:V}{u:Value}{pos:Pos}(hg:Gl X x)(hm:X.mg x=some u)(r:RelV v u)(hd:(x==("__debug__" : Str))=false:=by decide):PE X (.Name x pos) (tC v):=
 fun _ _ _ H _ I h=>jB I hg hm ⟨v,H,I,r,h⟩ hd
variable {a b:Expr}{ta tb:TE}{pos:Pos}
noncomputable def PC(X:Cx)(op:CmpOp)(a b:Expr)(t:TE):Prop:=
 ∀(jr:List (Addr×Obj))(s:Shared)(σ:St)(H:Hp)(Q:VK),Inv X jr σ H s->t σ H Q ->
  wpAny (model X.prog X.w) X.A (eval a X.env) (fun v s₁=>wpAny (model X.prog X.w) X.A (eval b X.env) (fun u s₂=>wpAny (model X.prog X.w) X.A (compareOp op v u) (EP X jr σ Q) X.xe s₂) X.xe s₁) X.xe s
theorem HV(b:Expr){op:CmpOp}(h:op≠ .In)(h2:op≠ .NotIn):behindInMarks op b=false:=by
 have e1:(op==CmpOp.In)=false:=by cases op<;>first|rfl|exact absurd rfl h
 have e2:(op==CmpOp.NotIn)=false:=by cases op<;>first|rfl|exact absurd rfl h2
 cases b<;>simp[behindInMarks,e1,e2]
def SQ(ta:TE):TE:=fun σ H Q=>ta σ H fun x H1=>Q (.bl (decide (x=.non))) H1
theorem RelV.HS{x:V}{v:Value}(r:RelV x v):(v==Value.none)=decide (x=.non):=by
 cases x with
 |non=>cases r;rfl
 |bl _=>cases r;rfl
 |int _=>obtain⟨t,rfl⟩:=r;rfl
 |str _=>obtain⟨t,rfl⟩:=r;rfl
 |byt _=>obtain⟨t,rfl⟩:=r;rfl
 |flt _=>obtain⟨t,rfl⟩:=r;rfl
 |ref _=>cases r;rfl
 |ty _=>cases r;rfl
theorem ME{j ku}(ha:PE X a ta):PC X .Is a (.Constant .none j ku) (SQ ta):=by
 intro jr s σ H Q I h;refine thn (ha jr s σ H _ I h) fun v s1 ⟨x,H1,I1,r1,q1⟩=>?_
 exact Constant_none (is_none_gen ⟨.bl _,H1,I1,by rw[r1.HS];rfl,q1⟩)
def tB(t:TE):TT:=fun σ H Q=>t σ H fun x H1=>∃c,x=.bl c/\Q c H1
theorem e6{op:CmpOp}{t:TE}(h:PC X op a b t)(h1:behindInMarks op b=false:=by first|exact HV _ (by decide) (by decide)|rfl):PT X (.Compare a [op] [b] pos) (tB t):=by intro jr s σ H Q I hw;refine wpAny_isTrue_Compare1 (thn (h jr s σ H _ I hw) fun v s1 h1=>thn h1 fun u s2 h2=>thn h2 fun c s3 ⟨x,H1,I1,r1,q1⟩=>?_) h1;obtain⟨d,rfl,q⟩:=q1;cases r1;exact wpAny_truthy_bool ⟨H1,I1,q⟩
theorem j6{e:Expr}{t:TE}(h:PE X e t)(he:∀mx,isTrue e X.env mx=(do let v<- mx;standAt e.pos;holding [v] (truthy v)):=by intro _;rfl):PT X e (tB t):=by intro jr s σ H Q I hw;refine isTrue_plain (thn (h jr s σ H _ I hw) fun v s1 ⟨x,H1,I1,r1,q1⟩=>?_) (he _);obtain⟨d,rfl,q⟩:=q1;cases r1;exact wpAny_truthy_bool ⟨H1,I1,q⟩
variable {tA tB':TT}{rest:List Expr}
noncomputable def SY(t u:TT):TT:=fun σ H Q=>t σ H fun c H1=>if c=true then u σ H1 Q else Q false H1
noncomputable def tOr(t u:TT):TT:=fun σ H Q=>t σ H fun c H1=>if c=true then Q true H1 else u σ H1 Q
def SN(t:TT):TT:=fun σ H Q=>t σ H fun c H1=>Q (!c) H1
theorem nE(ha:PT X a tA):PW X (.BoolOp .And [a] pos) tA:=by
 intro wh jr s σ H Q I h;refine isTrue_and (thn (ha jr s σ H Q I h) fun c s1 e=>?_);cases c with
 |true=>exact isTrue_and_nil e
 |false=>exact e
theorem pE(ha:PT X a tA):PW X (.BoolOp .Or [a] pos) tA:=by
 intro wh jr s σ H Q I h;refine isTrue_or (thn (ha jr s σ H Q I h) fun c s1 e=>?_);cases c with
 |false=>exact isTrue_or_nil e
 |true=>exact e
theorem pG(ha:PT X a tA)(hb:PW X (.BoolOp .And (b::rest) pos) tB'):PW X (.BoolOp .And (a::b::rest) pos) (SY tA tB'):=by
 intro wh jr s σ H Q I h;refine isTrue_and (thn (ha jr s σ H _ I h) fun c s1 ⟨H1,I1,q1⟩=>?_);cases c with
 |true=>exact hb wh jr s1 σ H1 Q I1 q1
 |false=>exact⟨H1,I1,q1⟩
theorem sU(ha:PT X a tA)(hb:PW X (.BoolOp .Or (b::rest) pos) tB'):PW X (.BoolOp .Or (a::b::rest) pos) (tOr tA tB'):=by
 intro wh jr s σ H Q I h;refine isTrue_or (thn (ha jr s σ H _ I h) fun c s1 ⟨H1,I1,q1⟩=>?_);cases c with
 |true=>exact⟨H1,I1,q1⟩
 |false=>exact hb wh jr s1 σ H1 Q I1 q1
theorem MA(ha:PT X a tA):PT X (.UnaryOp .Not a pos) (SN tA):=by intro jr s σ H Q I h;exact isTrue_not (ha jr s σ H (fun c H1=>Q (!c) H1) I h)
def NR(ta:TE):TE:=fun σ H Q=>ta σ H fun x H1=>∃c,x=.bl c/\Q (.bl (!c)) H1
theorem MB(ha:PE X a ta):PE X (.UnaryOp .Not a pos) (NR ta):=by intro jr s σ H Q I h;refine UnaryOp_ (thn (ha jr s σ H _ I h) fun v s1 ⟨x,H1,I1,r1,q1⟩=>?_);obtain⟨c,rfl,q1⟩:=q1;cases r1;exact not_of (wpAny_truthy_bool ⟨.bl (!c),H1,I1,rfl,q1⟩)
end
noncomputable def SqL(K:W.Frag)(H:Hp)(a:Addr)(xs:List V):Prop:=
 Rd H a (.lst xs)\/
  ∃(o:Obj)(its:Array Value)(n:Nat),K.lookup a=some o/\o.cls=.type "list" /\o.dict=none/\o.data=.seq its n/\its.size<=sizeLine/\Vals xs its.toList
noncomputable def SqT(K:W.Frag)(H:Hp)(a:Addr)(xs:List V):Prop:=
 Rd H a (.tup xs)\/
  ∃(o:Obj)(its:Array Value)(n:Nat),K.lookup a=some o/\o.cls=.type "tuple" /\o.data=.seq its n/\its.size<=sizeLine/\Vals xs its.toList
noncomputable def X6:Value->Option V
 | .none=>some .non
 | .bool b=>some (.bl b)
 | .int i _=>some (.int i)
 | .str x _=>some (.str x)
 | .bytes b _=>some (.byt b)
 | .float b _=>some (.flt b)
 | .ref a=>some (.ref a)
 | .type n=>some (.ty n)
 |_=>none
theorem RelV.abs{x:V}{u:Value}(r:RelV x u):X6 u=some x:=by
 cases x with
 |non=>cases r;rfl
 |bl _=>cases r;rfl
 |int _=>obtain⟨t,rfl⟩:=r;rfl
 |str _=>obtain⟨t,rfl⟩:=r;rfl
 |byt _=>obtain⟨t,rfl⟩:=r;rfl
 |flt _=>obtain⟨t,rfl⟩:=r;rfl
 |ref _=>cases r;rfl
 |ty _=>cases r;rfl
theorem RelV.inj{x y:V}{u:Value}(r:RelV x u)(q:RelV y u):x=y:=Option.some.inj (r.abs.symm.trans q.abs)
theorem Vals.inj:∀{xs ys:List V}{us:List Value},Vals xs us->Vals ys us->xs=ys
 |_,_,_,.nil,.nil=>rfl
 |_,_,_,.cons r t,.cons r' t'=>by rw[r.inj r',Vals.inj t t']
section
variable {X:Cx}{jr:List (Addr×Obj)}{σ:St}{H:Hp}{s:Shared}{a:Addr}{xs ys:List V}
theorem SqL.of{K:W.Frag}(h:H a=some (.lst xs)):SqL K H a xs:=.inl (.inl h)
theorem SqT.of{K:W.Frag}(h:H a=some (.tup xs)):SqT K H a xs:=.inl (.inl h)
theorem Inv.list(I:Inv X jr σ H s)(h:SqL X.K H a xs):∃its:List Value,Vals xs its/\PlainL s.heap a its.toArray/\xs.length<=sizeLine:=by
 rcases h with h|⟨o,its,n,hk,hc,hd,hs,hz,r⟩
 ·obtain⟨z,its,n,r,e⟩:=h.ok I.hok;exact⟨its,r,⟨_,n,e,rfl,rfl,rfl⟩,z⟩
 ·refine⟨its.toList,r,⟨o,n,I.kIn a o hk,hc,hd,by simpa using hs⟩,?_⟩;have e:=r.length;simp only[dq]at e;omega
theorem Inv.tuple(I:Inv X jr σ H s)(h:SqT X.K H a xs):∃its:List Value,Vals xs its/\IsTup s.heap a its.toArray/\xs.length<=sizeLine:=by
 rcases h with h|⟨o,its,n,hk,hc,hs,hz,r⟩
 ·obtain⟨z,its,r,p⟩:=h.ok I.hok;exact⟨its,r,p,z⟩
 ·refine⟨its.toList,r,⟨o,I.kIn a o hk,hc,n,by simpa using hs⟩,?_⟩;have e:=r.length;simp only[dq]at e;omega
theorem Inv.yY(I:Inv X jr σ H s)(h:SqL X.K H a xs)(h':SqL X.K H a ys):xs=ys:=by
 obtain⟨its,r,⟨o,n,e,_,_,d⟩,_⟩:=I.list h;obtain⟨its',r',⟨o',n',e',_,_,d'⟩,_⟩:=I.list h';rw[e]at e';cases e';rw[d]at d';injection d' with d1 _
 have:its=its':=by simpa using congrArg Array.toList d1
 subst this;exact r.inj r'
theorem Inv.EE(I:Inv X jr σ H s)(h:SqT X.K H a xs)(h':SqT X.K H a ys):xs=ys:=by
 obtain⟨its,r,⟨o,e,_,n,d⟩,_⟩:=I.tuple h;obtain⟨its',r',⟨o',e',_,n',d'⟩,_⟩:=I.tuple h';rw[e]at e';cases e';rw[d]at d';injection d' with d1 _
 have:its=its':=by simpa using congrArg Array.toList d1
 subst this;exact r.inj r'
end
abbrev Cx.rE(X:Cx)(E:Value->Shared->Prop):Cx:={X with xe:=E}
abbrev Cx.nox(X:Cx):Cx:=X.rE fun _ _=>False
theorem Cx.Ok.rE{X:Cx}(ok:X.Ok)(E:Value->Shared->Prop):(X.rE E).Ok:=
 ⟨ok.mod,ok.kind,ok.glob,ok.blt,ok.above,ok.inj,ok.has,ok.cab,ok.hd,ok.frames,ok.stk,ok.exf,ok.bs,ok.bsz,ok.HU,ok.C5,ok.kL,ok.frf⟩
theorem Cx.Ok.k6{X:Cx}{E:Value->Shared->Prop}(ok:(X.rE E).Ok):X.Ok:=
 ⟨ok.mod,ok.kind,ok.glob,ok.blt,ok.above,ok.inj,ok.has,ok.cab,ok.hd,ok.frames,ok.stk,ok.exf,ok.bs,ok.bsz,ok.HU,ok.C5,ok.kL,ok.frf⟩
section
variable {X:Cx}{jr:List (Addr×Obj)}{σ:St}{H:Hp}{s:Shared}{E:Value->Shared->Prop}
theorem Inv.rE(I:Inv X jr σ H s)(E:Value->Shared->Prop):Inv (X.rE E) jr σ H s:=⟨I.ok.rE E,I.os,I.bare,I.base,I.loc,I.cell,I.free,I.hV,I.pin,I.hok,I.len⟩
theorem Inv.k6(I:Inv (X.rE E) jr σ H s):Inv X jr σ H s:=⟨I.ok.k6,I.os,I.bare,I.base,I.loc,I.cell,I.free,I.hV,I.pin,I.hok,I.len⟩
theorem SP.k6{D:Ends}{f:Flow}{s':Shared}(h:SP (X.rE E) jr D f s'):SP X jr D f s':=by
 cases f with
 |next=>obtain⟨σ',H',I,q⟩:=h;exact⟨σ',H',I.k6,q⟩
 |brk=>obtain⟨σ',H',I,q⟩:=h;exact⟨σ',H',I.k6,q⟩
 |cont=>obtain⟨σ',H',I,q⟩:=h;exact⟨σ',H',I.k6,q⟩
 |ret u=>obtain⟨v,σ',H',I,r,q⟩:=h;exact⟨v,σ',H',I.k6,r,q⟩
theorem PSs.nox{st:List Stmt}{t:TS}(h:PSs X.nox st t):PSs X st t:=fun jr s σ H D I hw=>
 wpAny_mono (h jr s σ H D (I.rE _) hw) (fun _ _ q=>q.k6) fun _ _ z=>False.elim z
end
section
variable {X:Cx}{st:Stmt}{rest:List Stmt}{t u:TS}{e:Expr}{te:TE}{pos:Pos}
def NS:TS:=fun D σ H=>D.nx σ H
def AW(t u:TS):TS:=fun D σ H=>t {D with nx:=u D} σ H
theorem bF:PSs X [] NS:=fun _ _ σ H _ I h=>wpAny_execs_nil ⟨σ,H,I,h⟩
theorem aA(h1:PS X st t)(h2:PSs X rest u):PSs X (st::rest) (AW t u):=by
 intro jr s σ H D I h;refine wpAny_execs_cons (thn (h1 jr s σ H {D with nx:=u D} I h) fun f s1 q=>?_);cases f with
 |next=>obtain⟨σ',H',I',q⟩:=q;exact h2 jr s1 σ' H' D I' q
 |ret v=>exact q
 |brk=>exact q
 |cont=>exact q
theorem aE(h1:PS X st t):PSs X [st] t:=by
 intro jr s σ H D I h;refine wpAny_execs_cons (thn (h1 jr s σ H D I h) fun f s1 q=>?_);cases f with
 |next=>exact wpAny_execs_nil q
 |ret v=>exact q
 |brk=>exact q
 |cont=>exact q
theorem Inv.quiet{jr:List (Addr×Obj)}{σ:St}{H:Hp}{s:Shared}(I:Inv X jr σ H s):interactive X.env=false:=by simp[interactive,I.ok.kind]
def NW(te:TE):TS:=fun D σ H=>te σ H fun _ H1=>D.nx σ H1
theorem d6(he:PE X e te)(hs:swapsWith e none pos.line X.env=pure false:=by rfl):PS X (.Expr e pos) (NW te):=by intro jr s σ H D I h;exact wpAny_Expr_any (thn (he jr s σ H _ I h) fun v s1 ⟨x,H1,I1,r1,q1⟩=>⟨σ,H1,I1,q1⟩) I.quiet hs
def SM(te:TE):TS:=fun D σ H=>te σ H D.rt
theorem aT(he:PE X e te):PS X (.Return (some e) pos) (SM te):=by intro jr s σ H D I h;exact wpAny_Return_some (thn (he jr s σ H _ I h) fun v s1 ⟨x,H1,I1,r1,q1⟩=>⟨x,σ,H1,I1,r1,q1⟩)
noncomputable def SR(c:TT)(t u:TS):TS:=fun D σ H=>c σ H fun b H1=>if b=true then t D σ H1 else u D σ H1
theorem cB{c:Expr}{a b:List Stmt}{tc:TT}(hc:PT X c tc)(ha:PSs X a t)(hb:PSs X b u):PS X (.If c a b pos) (SR tc t u):=by
 intro jr s σ H D I h;refine wpAny_If (thn (hc jr s σ H _ I h) fun d s1 ⟨H1,I1,q1⟩=>?_);cases d with
 |true=>exact ha jr s1 σ H1 D I1 q1
 |false=>exact hb jr s1 σ H1 D I1 q1
end
abbrev TG:=V->St->Hp->(St->Hp->Prop)->Prop
abbrev TGs:=List V->St->Hp->(St->Hp->Prop)->Prop
noncomputable def PG(X:Cx)(mr:Expr)(t:TG):Prop:=
 ∀(jr:List (Addr×Obj))(s:Shared)(σ:St)(H:Hp)(v:V)(u:Value)(Q:St->Hp->Prop),Inv X jr σ H s->RelV v u->t v σ H Q ->
  wpAny (model X.prog X.w) X.A (assign mr X.env u) (fun _ s'=>∃σ' H',Inv X jr σ' H' s'/\Q σ' H') X.xe s
noncomputable def PGs(X:Cx)(ts:List Expr)(t:TGs):Prop:=
 ∀(jr:List (Addr×Obj))(s:Shared)(σ:St)(H:Hp)(vs:List V)(us:List Value)(Q:St->Hp->Prop),Inv X jr σ H s->Vals vs us->t vs σ H Q ->
  wpAny (model X.prog X.w) X.A (assignInOrder ((assignEach ts X.env).map (·.2)) us) (fun _ s'=>∃σ' H',Inv X jr σ' H' s'/\Q σ' H') X.xe s
abbrev TIp:=V->V->Hp->VK->Prop
noncomputable def PIp(X:Cx)(op:Operator)(t:TIp):Prop:=
 ∀(jr:List (Addr×Obj))(s:Shared)(σ:St)(H:Hp)(x y:V)(v u:Value)(Q:VK),Inv X jr σ H s->RelV x v->RelV y u->t x y H Q ->
  wpAny (model X.prog X.w) X.A (inplaceOp op v u) (EP X jr σ Q) X.xe s
section
variable {X:Cx}{pos:Pos}
def hO(i:Nat):TG:=fun v σ H Q=>Q (σ.set i (some v)) H
theorem JV{i:Nat}{x:Str}(hN:X.N.Nodup)(hi:X.N[i]? =some x)(hx:Loc X.env.scope x)(hf:X.fn x=true\/X.env.scope.names.lookup x=some .local:=by first|exact .inl rfl|exact .inr rfl|assumption):PG X (.Name x pos) (hO i):=by intro jr s σ H v u Q I r h;exact wpAny_assign_Name (sE I hN hi hx r (fun s' I'=>⟨_,H,I',h⟩) hf)
def X3:TGs:=fun vs σ H Q=>vs=[]/\Q σ H
noncomputable def S9(t:TG)(u:TGs):TGs:=fun vs σ H Q=>∃v r,vs=v::r/\t v σ H fun σ' H'=>u r σ' H' Q
theorem gW:PGs X [] X3:=by intro jr s σ H vs us Q I r h;obtain⟨e,h⟩:=h;subst e;cases r;exact assignInOrder_nil ⟨σ,H,I,h⟩
theorem bW{e:Expr}{es:List Expr}{t:TG}{u:TGs}(h1:PG X e t)(h2:PGs X es u)
  (hs:(assignEach (e::es) X.env).map (·.2)=assign e X.env::(assignEach es X.env).map (·.2):=by rfl):PGs X (e::es) (S9 t u):=by
 intro jr s σ H vs us Q I r h;obtain⟨v,vr,e1,h⟩:=h;subst e1;cases r with
 |cons r rr=>rw[hs];refine assignInOrder_cons (thn (h1 jr s σ H _ _ _ I r h) fun _ s1 ⟨σ1,H1,I1,q1⟩=>?_);exact h2 jr s1 σ1 H1 _ _ Q I1 rr q1
noncomputable def X2(K:W.Frag)(n:Nat)(t:TGs):TG:=fun v σ H Q=>∃a xs,v=.ref a/\SqT K H a xs/\xs.length=n/\t xs σ H Q
theorem kC{es:List Expr}{k:Nat}{t:TGs}{n:Nat}(hc:X.calm=true)(h:PGs X es t)
  (hn:(assignEach es X.env).length=n:=by rfl) (wd:(assignEach es X.env).findIdx? (·.1)=none:=by rfl):PG X (.Tuple es k pos) (X2 X.K n t):=by
 intro jr s σ H v u Q I r hw;obtain⟨a,xs,e1,hq,hl,hw⟩:=hw;subst e1;cases r;obtain⟨its,rv,ht,hz⟩:=I.tuple hq;refine assign_Tuple_tuple (I.ok.hd hc) ht (by simp[hn,<- hl,rv.length]) wd fun h' hx=>?_
 have I1:Inv X jr σ H {s with heap:=h'}:=I.kept (t':=s.toks) fun b o e=>hx b o (da (bq e)) e
 exact h jr _ σ H xs _ Q I1 (by simpa using rv) hw
def AX(te:TE)(g:TG):TS:=fun D σ H=>te σ H fun x H1=>g x σ H1 D.nx
theorem B4{tg e:Expr}{te:TE}{g:TG}(he:PE X e te)(hg:PG X tg g)(hs:swapsWithSole [tg] e pos.line X.env=pure false:=by rfl)(hw:swappedStores [tg] e X.env=pure none:=by rfl)
  (h1:(assignEach [tg] X.env).map (·.2)=[assign tg X.env]:=by rfl):PS X (.Assign [tg] e pos) (AX te g):=by
 intro jr s σ H D I h;refine wpAny_Assign_stores (thn (he jr s σ H _ I h) fun v s1 ⟨x,H1,I1,r1,q1⟩=>?_) hs hw;rw[h1];exact thn (hg jr s1 σ H1 x v _ I1 r1 q1) fun _ s2 q=>q
theorem GX{i:Nat}{x:Str}{e:Expr}{te:TE}{ku:Pos}(hN:X.N.Nodup)(hi:X.N[i]? =some x)(hx:Loc X.env.scope x)(he:PE X e te)(hs:swapsWith e (some (.Name x ku)) pos.line X.env=pure false:=by rfl)(hf:X.fn x=true\/X.env.scope.names.lookup x=some .local:=by first|exact .inl rfl|exact .inr rfl|assumption):
  PS X (.Assign [.Name x ku] e pos) (AX te (hO i)):=by
 intro jr s σ H D I h;refine wpAny_Assign_Name (thn (he jr s σ H _ I h) fun v s1 ⟨y,H1,I1,r1,q1⟩=>?_) hs;exact sE I1 hN hi hx r1 (fun s2 I2=>⟨_,H1,I2,q1⟩) hf
noncomputable def SW(i:Nat)(te:TE)(ti:TIp):TS:=fun D σ H=>∃x,σ[i]? =some (some x)/\te σ H fun y H1=>ti x y H1 fun z H2=>D.nx (σ.set i (some z)) H2
theorem GY{i:Nat}{x:Str}{e:Expr}{te:TE}{op:Operator}{ti:TIp}{ku:Pos}(hN:X.N.Nodup)(hi:X.N[i]? =some x)(hx:Loc X.env.scope x)(he:PE X e te)(ho:PIp X op ti)(hf:X.fn x=true\/X.env.scope.names.lookup x=some .local:=by first|exact .inl rfl|exact .inr rfl|assumption):
  PS X (.AugAssign (.Name x ku) op e pos) (SW i te ti):=by
 intro jr s σ H D I h;obtain⟨v,e1,h⟩:=h;obtain⟨m,hn,hl⟩:=I.loc;have vis:Vis X.env.scope x:=by rcases hx with k|k;exact .inl k;exact .inr (.inl k)
 obtain⟨u,r,l⟩:=hl i x v hi e1 vis;refine wpAny_AugAssign_Name ?_;have go:wpAny (model X.prog X.w) X.A (eval e X.env) (fun w s₂=>wpAny (model X.prog X.w) X.A (inplaceOp op u w) (fun r s₃=>wpAny (model X.prog X.w) X.A (storeName X.env x r) (fun _=>SP X jr D .next) X.xe s₃) X.xe s₂) X.xe s:=by
  refine thn (he jr s σ H _ I h) fun w s1 ⟨y,H1,I1,r1,q1⟩=>?_
  refine thn (ho jr s1 σ H1 v y u w _ I1 r r1 q1) fun z s2 ⟨zv,H2,I2,r2,q2⟩=>?_
  exact sE I2 hN hi hx r2 (fun s3 I3=>⟨_,H2,I3,q2⟩) hf
 rcases l with⟨hk,hm⟩|⟨hk,c,hc,oq⟩
 ·exact wpAny_loadName_local I.ok.kind hk hn hm go
 ·rcases hk with hk|hk
  ·exact wpAny_loadName_cell I.ok.kind hk hc oq go
  ·rcases hx with k|k
   ·have:X.env.scope.names.lookup x=some .free:=hk;rw[k]at this;cases this
   ·have:X.env.scope.names.lookup x=some .free:=hk;rw[k]at this;cases this
noncomputable def ipI(f:Int->Int->Int):TIp:=fun x y H Q=>∃i j,x=.int i/\y=.int j/\Q (.int (f i j)) H
theorem IQ:PIp X .Add (ipI fun i j=>i+j):=by intro jr s σ H x y v u Q I r1 r2 h;obtain⟨i,j,e1,e2,q⟩:=h;subst e1;subst e2;obtain⟨t,rfl⟩:=r1;obtain⟨t',rfl⟩:=r2;exact iadd_int ⟨.int _,H,I.tok _,⟨_,rfl⟩,q⟩
end
section
variable {X:Cx}{pos:Pos}
noncomputable def GH(c:TT)(tb:TS):TS:=fun D σ H=>∃W:Nat->St->Hp->Prop,(∃m,W m σ H)/\∀m σ H,W m σ H ->
 c σ H fun b H1=>if b=true then∃N:St->Hp->Prop,(∀σ' H',N σ' H'->∃m',m'<m/\W m' σ' H')/\tb {D with nx:=N,ct:=N,bk:=D.nx} σ H1 else D.nx σ H1
theorem iQ{c:Expr}{body:List Stmt}{tc:TT}{tb:TS}(hp:PassesOwn (model X.prog X.w) X.A X.env X.xe)(hc:PT X c tc)(hb:PSs X body tb):PS X (.While c body [] pos) (GH tc tb):=by
 intro jr s σ H D I h;obtain⟨W,⟨m0,w0⟩,kr⟩:=h;refine wpAny_While (codeAny_whileLoop (fun n s'=>∃σ' H',Inv X jr σ' H' s'/\W n σ' H') ?_ m0 ⟨σ,H,I,w0⟩);rintro n s1 ⟨σ1,H1,I1,w1⟩;refine wpAny_passesOwn hp (thn (hc jr s1 σ1 H1 _ I1 (kr n σ1 H1 w1)) fun b s2 ⟨H2,I2,q2⟩=>?_);cases b with
 |true=>
  obtain⟨N,hN,q2⟩:=q2;rw[ag rfl];refine wpAny_passesOwn hp (thn (hb jr s2 σ1 H2 _ I2 q2) fun f s3 q3=>?_);cases f with
  |next=>obtain⟨σ3,H3,I3,n3⟩:=q3;obtain⟨m',hm,w3⟩:=hN σ3 H3 n3;exact⟨m',hm,σ3,H3,I3,w3⟩
  |cont=>obtain⟨σ3,H3,I3,n3⟩:=q3;obtain⟨m',hm,w3⟩:=hN σ3 H3 n3;exact⟨m',hm,σ3,H3,I3,w3⟩
  |brk=>exact q3
  |ret v=>exact q3
 |false=>rw[af bo];exact wpAny_execs_nil ⟨σ1,H2,I2,q2⟩
end
structure It where
 go:Nat->Hp->Prop
 yld:Nat->Hp->V->Hp->Prop
 stop:Nat->Hp->Prop
noncomputable def mV(X:Cx)(jr:List (Addr×Obj))(H:Hp)(b:Addr):Prop:=
 H b=none/\b≠X.env.locals/\b∉X.fs/\(b∈X.ex\/X.s_0.heap.objs.size<=b)/\(∀x c,X.env.cells.lookup x=some c->c≠b)/\∀p∈X.pn++jr,p.1≠b
theorem Inv.C1{X:Cx}{jr:List (Addr×Obj)}{σ:St}{H H':Hp}{s:Shared}{b:Addr}(I:Inv X jr σ H s)(hb:s.heap.objs.size<=b)(hn:H' b=none):mV X jr H' b:=by
 refine⟨hn,jj (cc I.lt hb),I.WX hb,.inr (dj I.sz hb),fun x c e z=>?_,fun p hp z=>?_⟩
 ·obtain⟨v,q⟩:=I.cell x c e;exact absurd (cc q.lt (by rw[z];exact hb)) (gy _)
 ·exact absurd (cc (bq (I.pin p hp).1) (by rw[z];exact hb)) (gy _)
structure Turn(P:Program)(w:World)(K:W.Frag)(tg:Expr)(J:It)(fp:List Addr)(it:Addr)(tn:Nat->Heap->Prop):Prop where
 mem:it∈fp
 obj:∀i h,tn i h->∀b∈fp,∃o,h.get? b=some o/\∀v,o.data≠ .cell v
 keep:∀i h h',tn i h->(∀b∈fp,∀o,h.get? b=some o->h'.get? b=some o)->tn i h'
 item:∀(X:Cx),X.prog=P->X.w=w->X.K=K->X.calm=true->∀(i:Nat)(jr:List (Addr×Obj))(s:Shared)(σ:St)(H:Hp)(E:Value->Shared->Prop),Inv X jr σ H s->(∀b∈fp,mV X jr H b)->tn i s.heap->J.go i H ->
  wpAny (model P w) X.A (pyNext (.ref it)) (fun r s1=>∃u,r=some u/\
   wpAny (model P w) X.A (letOwnedTupleGo tg (.ref it) u) (fun _ s2=>∃x H',Inv X jr σ H' s2/\RelV x u/\J.yld i H x H'/\tn (i+1) s2.heap/\∀b∈fp,H' b=none) E s1) E s
 done:∀(X:Cx),X.prog=P->X.w=w->X.K=K->X.calm=true->∀(i:Nat)(jr:List (Addr×Obj))(s:Shared)(σ:St)(H:Hp)(E:Value->Shared->Prop),Inv X jr σ H s->(∀b∈fp,mV X jr H b)->tn i s.heap->J.stop i H ->
  wpAny (model P w) X.A (pyNext (.ref it)) (fun r s1=>r=none/\Inv X jr σ H s1) E s
 self:∀(A:Around)(i:Nat)(s:Shared)(Q:Value->Shared->Prop)(E:Value->Shared->Prop),tn i s.heap->Q (.ref it) s->wpAny (model P w) A (pyIter (.ref it)) Q E s
abbrev TI:=St->Hp->(It->Hp->Prop)->Prop
noncomputable def PIE(X:Cx)(jr:List (Addr×Obj))(σ:St)(tg:Expr)(R:It->Hp->Prop)(itv:Value)(s2:Shared):Prop:=
 ∃(it:Addr)(fp:List Addr)(tn:Nat->Heap->Prop)(J:It)(H':Hp),itv=.ref it/\Inv X jr σ H' s2/\Turn X.prog X.w X.K tg J fp it tn/\tn 0 s2.heap/\(∀b∈fp,mV X jr H' b)/\R J H'
noncomputable def PI(X:Cx)(tg iter:Expr)(wi:TI):Prop:=
 ∀(jr:List (Addr×Obj))(s:Shared)(σ:St)(H:Hp)(R:It->Hp->Prop),Inv X jr σ H s->wi σ H R ->
  wpAny (model X.prog X.w) X.A (eval iter X.env) (fun v s1=>wpAny (model X.prog X.w) X.A (pyIter v) (PIE X jr σ tg R) X.xe s1) X.xe s
theorem zM{M:Model}{A:Around}{E:Value->Shared->Prop}{s:Shared}{tg:Expr}{it:Addr}{u:Value}{o:Obj}{n:String}{vs:Array Value}{Q:Unit->Shared->Prop}(ho:s.heap.get? it=some o)(hc:o.cls=.type n)(hd:o.data=.fields vs)
  (hn:["enumerate","zip","dict_itemiterator","dict_reverseitemiterator","odict_iterator","itertools.zip_longest","itertools.pairwise"].contains n=false) (hQ:Q () s):wpAny M A (letOwnedTupleGo tg (.ref it) u) Q E s:=by
 unfold letOwnedTupleGo;cases tg<;>first
  |exact ah hQ
  |(cases u<;>first
    |exact ah hQ
    |(refine aa (wpAny_load ho ?_);rw[hc,hd];show wpAny M A (if(["enumerate","zip","dict_itemiterator","dict_reverseitemiterator","odict_iterator","itertools.zip_longest","itertools.pairwise"].contains n&& vs[0]? ==some (rawInt _))=true then _ else _) Q E s;rw[af (by intro h;rw[hn,Bool.false_and]at h;cases h)];exact ah hQ))
noncomputable def Itl(K:W.Frag)(a:Addr):It:=
 ⟨fun i H=>∃xs x,SqL K H a xs/\xs[i]? =some x,fun i H x H'=>H'=H/\∀xs,SqL K H a xs->xs[i]? =some x,fun i H=>∃xs,SqL K H a xs/\xs.length<=i⟩
noncomputable def Itt(K:W.Frag)(a:Addr):It:=
 ⟨fun i H=>∃xs x,SqT K H a xs/\xs[i]? =some x,fun i H x H'=>H'=H/\∀xs,SqT K H a xs->xs[i]? =some x,fun i H=>∃xs,SqT K H a xs/\xs.length<=i⟩
noncomputable def Itr(lo:Int)(n:Nat):It:=⟨fun i _=>i<n,fun i H x H'=>H'=H/\x=.int (lo+i),fun i _=>n<=i⟩
theorem EA{P:Program}{w:World}{K:W.Frag}{tg:Expr}(a it:Addr):Turn P w K tg (Itl K a) [it] it (fun i h=>h.IsListIter it a i) where
 mem:=by simp
 obj:=fun i h st b hb=>by
  have e:b=it:=by simpa using hb
  subst e;obtain⟨o,e,c,d⟩:=st;exact⟨o,e,fun v z=>by rw[d]at z;cases z⟩
 keep:=fun i h h' st k=>st.at fun o e=>k it (by simp) o e
 item:=by
  intro X hP hw hK hc i jr s σ H E I hf st hg;subst hP hw hK;obtain⟨xs,x,hq,hx⟩:=hg;obtain⟨its,rv,p,hz⟩:=I.list hq;obtain⟨u,hu,ru⟩:=rv.get hx;obtain⟨f0,f1,f2,f3,f4,f5⟩:=hf it (by simp);refine wpAny_pyNext_list_item st p.isList (x:=u) (by simpa using hu) fun h' ph sb=>?_
  have I1:Inv X jr σ H {s with heap:=h'}:=I.turned (t':=s.toks) (fun b o hb e=>(sb.2 b hb).trans e) f0 f1 f3 f4 f5;obtain⟨o,e,c,d⟩:=id ph;exact⟨u,rfl,zM (s:={s with heap:=h'}) e c d (by decide) ⟨x,H,I1,ru,⟨rfl,fun ys hy=>by rw[I.yY hy hq];exact hx⟩,ph,fun b hb=>(hf b hb).1⟩⟩
 done:=by intro X hP hw hK hc i jr s σ H E I hf st hg;subst hP hw hK;obtain⟨xs,hq,hx⟩:=hg;obtain⟨its,rv,p,hz⟩:=I.list hq;obtain⟨f0,f1,f2,f3,f4,f5⟩:=hf it (by simp);have hl:=rv.length;exact wpAny_pyNext_list_end (I.ok.hd hc) st p.isList (by simp;omega) fun h' eb=>⟨rfl,I.turned (t':=s.toks) (fun b o hb e=>eb b o hb e) f0 f1 f3 f4 f5⟩
 self:=fun _ _ _ _ _ st h=>wpAny_pyIter_listiter st h
theorem AL{P:Program}{w:World}{K:W.Frag}{tg:Expr}(a it:Addr):Turn P w K tg (Itt K a) [it] it (fun i h=>h.IsTupleIter it a i) where
 mem:=by simp
 obj:=fun i h st b hb=>by
  have e:b=it:=by simpa using hb
  subst e;obtain⟨o,e,c,d⟩:=st;exact⟨o,e,fun v z=>by rw[d]at z;cases z⟩
 keep:=fun i h h' st k=>st.at fun o e=>k it (by simp) o e
 item:=by
  intro X hP hw hK hc i jr s σ H E I hf st hg;subst hP hw hK;obtain⟨xs,x,hq,hx⟩:=hg;obtain⟨its,rv,p,hz⟩:=I.tuple hq;obtain⟨u,hu,ru⟩:=rv.get hx;obtain⟨f0,f1,f2,f3,f4,f5⟩:=hf it (by simp);refine wpAny_pyNext_tuple_item st (show s.heap.IsTuple a its.toArray from p) (x:=u) (by simpa using hu) fun h' ph sb=>?_
  have I1:Inv X jr σ H {s with heap:=h'}:=I.turned (t':=s.toks) (fun b o hb e=>(sb.2 b hb).trans e) f0 f1 f3 f4 f5;obtain⟨o,e,c,d⟩:=id ph;exact⟨u,rfl,zM (s:={s with heap:=h'}) e c d (by decide) ⟨x,H,I1,ru,⟨rfl,fun ys hy=>by rw[I.EE hy hq];exact hx⟩,ph,fun b hb=>(hf b hb).1⟩⟩
 done:=by intro X hP hw hK hc i jr s σ H E I hf st hg;subst hP hw hK;obtain⟨xs,hq,hx⟩:=hg;obtain⟨its,rv,p,hz⟩:=I.tuple hq;obtain⟨f0,f1,f2,f3,f4,f5⟩:=hf it (by simp);have hl:=rv.length;exact wpAny_pyNext_tuple_end (I.ok.hd hc) st (show s.heap.IsTuple a its.toArray from p) (by simp;omega) fun h' eb=>⟨rfl,I.turned (t':=s.toks) (fun b o hb e=>eb b o hb e) f0 f1 f3 f4 f5⟩
 self:=fun _ _ _ _ _ st h=>wpAny_pyIter_tupleiter st h
theorem AM{P:Program}{w:World}{K:W.Frag}{tg:Expr}(it:Addr)(lo:Int)(n:Nat):Turn P w K tg (Itr lo n) [it] it (fun i h=>IsRangeIter h it (lo+(i:Nat)*1) ((n:Int) - (i:Nat)) 1) where
 mem:=by simp
 obj:=fun i h st b hb=>by
  have e:b=it:=by simpa using hb
  subst e;exact⟨_,st,fun v z=>by
   have z':Data.fields _=Data.cell v:=z;cases z'⟩
 keep:=fun i h h' st k=>k it (by simp) _ st
 item:=by
  intro X hP hw hK hc i jr s σ H E I hf st hg;subst hP hw hK;obtain⟨f0,f1,f2,f3,f4,f5⟩:=hf it (by simp);have W:=Walks.range (prog:=X.prog) (w:=X.w) (I.ok.hd hc) it lo 1 n;refine W.item i s _ _ hg st fun v h' tk hv ph kk=>?_
  obtain⟨t,rfl⟩:=hv;have I1:Inv X jr σ H {s with heap:=h',toks:=tk}:=I.turned (fun b o hb e=>kk b o (by simpa using hb) e) f0 f1 f3 f4 f5;refine⟨_,rfl,zM (s:={s with heap:=h',toks:=tk}) (n:= "range_iterator") ph rfl rfl (by decide) ⟨.int (lo+i),H,I1,⟨t,?_⟩,⟨rfl,rfl⟩,ph,fun b hb=>(hf b hb).1⟩⟩;rw[Int.mul_one]
 done:=by intro X hP hw hK hc i jr s σ H E I hf st hg;subst hP hw hK;obtain⟨f0,f1,f2,f3,f4,f5⟩:=hf it (by simp);exact wpAny_pyNext_range_end (I.ok.hd hc) st (by have:n<=i:=hg;omega) fun h' eb=>⟨rfl,I.turned (t':=s.toks) (fun b o hb e=>eb b o hb e) f0 f1 f3 f4 f5⟩
 self:=fun _ _ _ _ _ st h=>wpAny_pyIter_rangeiter st h
section
variable {X:Cx}{tg:Expr}
noncomputable def S6(K:W.Frag)(tl:TE):TI:=fun σ H R=>tl σ H fun x H1=>∃a,x=.ref a/\(∃xs,SqL K H1 a xs)/\R (Itl K a) H1
noncomputable def X1(K:W.Frag)(tl:TE):TI:=fun σ H R=>tl σ H fun x H1=>∃a,x=.ref a/\(∃xs,SqT K H1 a xs)/\R (Itt K a) H1
theorem dX{l:Expr}{tl:TE}(hl:PE X l tl):PI X tg l (S6 X.K tl):=by
 intro jr s σ H R I h;refine thn (hl jr s σ H _ I h) fun v s1 ⟨x,H1,I1,r1,q1⟩=>?_
 obtain⟨a,e,⟨xs,hq⟩,q⟩:=q1;subst e;cases r1;obtain⟨its,rv,p,hz⟩:=I1.list hq;refine wpAny_pyIter_list p.isList ?_;refine⟨s1.heap.objs.size,[s1.heap.objs.size],_,_,H1,rfl,I1.kept (t':=s1.toks) fun b o e=>aq _ e,EA a _,⟨_,bb _ rfl,rfl,rfl⟩,fun b hb=>?_,q⟩;have e:b=s1.heap.objs.size:=by simpa using hb
 subst e;exact I1.C1 (ax _) (I1.hok.fresh (ax _))
theorem j7{l:Expr}{tl:TE}(hl:PE X l tl):PI X tg l (X1 X.K tl):=by
 intro jr s σ H R I h;refine thn (hl jr s σ H _ I h) fun v s1 ⟨x,H1,I1,r1,q1⟩=>?_
 obtain⟨a,e,⟨xs,hq⟩,q⟩:=q1;subst e;cases r1;obtain⟨its,rv,p,hz⟩:=I1.tuple hq;refine wpAny_pyIter_tuple (show s1.heap.IsTuple a its.toArray from p) ?_;refine⟨s1.heap.objs.size,[s1.heap.objs.size],_,_,H1,rfl,I1.kept (t':=s1.toks) fun b o e=>aq _ e,AL a _,⟨_,bb _ rfl,rfl,rfl⟩,fun b hb=>?_,q⟩;have e:b=s1.heap.objs.size:=by simpa using hb
 subst e;exact I1.C1 (ax _) (I1.hok.fresh (ax _))
theorem yH{jr:List (Addr×Obj)}{σ:St}{H:Hp}{s:Shared}{R:It->Hp->Prop}{E:Value->Shared->Prop}{lo hi:Int}{t u v:Tok}{tk:Nat}(I:Inv X jr σ H s)(h1:-(2^62)<=lo)(h2:lo<2^62)(h3:-(2^62)<=hi)(h4:hi<2^62)
  (q:R (Itr lo (hi - lo).toNat) H):wpAny (model X.prog X.w) X.A (pyIter (.ref s.heap.objs.size)) (PIE X jr σ tg R) E {s with heap:=s.heap.push {cls:=.type "range",data:=.fields #[.int lo t,.int hi u,.int 1 v]},toks:=tk}:=by
 refine wpAny_pyIter_range (IsRange.new ..) (small_one h1 h2 h3 h4) ?_;have I1:Inv X jr σ H {s with heap:=s.heap.push {cls:=.type "range",data:=.fields #[.int lo t,.int hi u,.int 1 v]},toks:=tk}:=I.kept fun b o e=>aq _ e
 refine⟨(s.heap.push {cls:=.type "range",data:=.fields #[.int lo t,.int hi u,.int 1 v]}).objs.size,[(s.heap.push {cls:=.type "range",data:=.fields #[.int lo t,.int hi u,.int 1 v]}).objs.size],_,_,H,rfl,
  I1.kept (t':=tk) fun b o e=>aq _ e,AM _ lo (hi - lo).toNat,?_,fun b hb=>?_,q⟩
 ·have e1:lo+((0:Nat):Int)*1=lo:=by simp
  have e2:(((hi - lo).toNat:Nat):Int) - ((0:Nat):Int)=Builtin.Range.rangeSize lo hi 1:=by rw[rangeSize_one];split<;>omega
  show IsRangeIter _ _ (lo+((0:Nat):Int)*1) ((((hi - lo).toNat:Nat):Int) - ((0:Nat):Int)) 1
  rw[e1,e2];exact bb _ rfl
 ·have e:b=(s.heap.push {cls:=.type "range",data:=.fields #[.int lo t,.int hi u,.int 1 v]}).objs.size:=by simpa using hb
  subst e;exact I1.C1 (ax _) (I1.hok.fresh (ax _))
noncomputable def S5(ta:TA):TI:=fun σ H R=>ta σ H fun vs H1=>∃j:Int,vs=[.int j]/\-(2^62)<=j/\j<2^62/\R (Itr 0 j.toNat) H1
noncomputable def S4(ta:TA):TI:=fun σ H R=>ta σ H fun vs H1=>∃i j:Int,vs=[.int i,.int j]/\(-(2^62)<=i/\i<2^62/\-(2^62)<=j/\j<2^62)/\R (Itr i (j - i).toNat) H1
theorem vE{a:Expr}{ta:TA}{p pos:Pos}(hg:Gl X "range")(hm:X.mg "range" =none)(ha:PA X [a] ta)(hs:starEach [a] X.env=[(false,eval a X.env)]:=by rfl):PI X tg (.Call (.Name "range" p) [a] [] pos) (S5 ta):=by
 intro jr s σ H R I h;refine Call_ (pP I hg hm boot_range (PyProof.Rows.callWith_type1 (thn (ha pos jr s σ H _ I h) fun us s1 ⟨vs,H1,I1,r1,q1⟩=>?_) hs rfl));obtain⟨j,e,q1,q2,q⟩:=q1;subst e;cases r1 with
 |cons r rr=>cases rr;obtain⟨t,rfl⟩:=r;exact call_range_1 (yH I1 (by omega) (by omega) q1 q2 (by simpa using q))
theorem ER{a b:Expr}{ta:TA}{p pos:Pos}(hg:Gl X "range")(hm:X.mg "range" =none)(ha:PA X [a,b] ta)(hs:starEach [a,b] X.env=[(false,eval a X.env),(false,eval b X.env)]:=by rfl)(ug:starEach [b] X.env=[(false,eval b X.env)]:=by rfl):
  PI X tg (.Call (.Name "range" p) [a,b] [] pos) (S4 ta):=by
 intro jr s σ H R I h;refine Call_ (pP I hg hm boot_range (PyProof.Rows.callWith_type1 (thn (ha pos jr s σ H _ I h) fun us s1 ⟨vs,H1,I1,r1,q1⟩=>?_) (by rw[hs,ug]) (by rw[ug];rfl)));obtain⟨i,j,e,⟨q1,q2,q3,q4⟩,q⟩:=q1;subst e;cases r1 with
 |cons r rr=>
  cases rr with
  |cons r' rr=>cases rr;obtain⟨t,rfl⟩:=r;obtain⟨t',rfl⟩:=r';exact call_range_2 (yH I1 q1 q2 q3 q4 q)
noncomputable def SS(wi:TI)(g:TG)(tb:TS):TS:=fun D σ H=>wi σ H fun J H1=>∃W:Nat->Nat->St->Hp->Prop,(∃m,W 0 m σ H1)/\∀i m σ H,W i m σ H ->
 (J.stop i H/\D.nx σ H)\/(J.go i H/\∃N:St->Hp->Prop,(∀σ' H',N σ' H'->∃m',m'<m/\W (i+1) m' σ' H')/\∀x H',J.yld i H x H'->g x σ H' fun σ2 H2=>tb {D with nx:=N,ct:=N,bk:=D.nx} σ2 H2)
noncomputable def pI(fp:List Addr)(h:Heap):List (Addr×Obj):=fp.filterMap fun b=>(h.get? b).map fun o=>(b,o)
theorem jA{fp:List Addr}{h:Heap}{b:Addr}{o:Obj}(hb:b∈fp)(e:h.get? b=some o):(b,o)∈pI fp h:=List.mem_filterMap.mpr ⟨b,hb,by rw[e];rfl⟩
theorem ES{fp:List Addr}{h:Heap}{p:Addr×Obj}(hp:p∈pI fp h):p.1∈fp/\h.get? p.1=some p.2:=by
 obtain⟨b,hb,e⟩:=List.mem_filterMap.mp hp;cases q:h.get? b with
 |none=>rw[q]at e;cases e
 |some o=>rw[q]at e;have e':(b,o)=p:=Option.some.inj e;subst e';exact⟨hb,q⟩
theorem Inv.pinned{jr:List (Addr×Obj)}{σ:St}{H:Hp}{s:Shared}{fp:List Addr}(I:Inv X jr σ H s)(hf:∀b∈fp,mV X jr H b)(ho:∀b∈fp,∃o,s.heap.get? b=some o/\∀v,o.data≠ .cell v):Inv X (jr++pI fp s.heap) σ H s:=
 I.CZ fun p hp=>(aw.mp hp).elim (fun z=>I.pin p (bf _ z)) fun z=>by obtain⟨hb,e⟩:=ES z;obtain⟨f0,f1,f2,_⟩:=hf p.1 hb;obtain⟨o,e',d⟩:=ho p.1 hb;rw[e]at e';cases e';exact⟨e,f0,f1,f2,d⟩
theorem Inv.k7{jr pl:List (Addr×Obj)}{σ:St}{H:Hp}{s:Shared}(I:Inv X (jr++pl) σ H s):Inv X jr σ H s:=I.CZ fun p hp=>I.pin p (bf _ (cf _ hp))
theorem c8{iter:Expr}{body:List Stmt}{wi:TI}{g:TG}{tb:TS}{pos:Pos}(hp:PassesOwn (model X.prog X.w) X.A X.env X.xe)(hc:X.calm=true)(hi:PI X tg iter wi)(hg:PG X tg g)(hb:PSs X body tb)
  (hs:∀x,foldedSetIterable iter X.env x=pure x:=by intro _;rfl):PS X (.For tg iter body [] pos) (SS wi g tb):=by
 intro jr s σ H D I h;refine wpAny_For (thn (hi jr s σ H _ I h) fun v s1 h1=>thn h1 fun itv s2 h2=>?_) hs;obtain⟨it,fp,tn,J,H2,e,I2,T,yl,f2,W,⟨m0,w0⟩,kr⟩:=h2;subst e;have mz:∀{H':Hp},(∀b∈fp,H' b=none)->∀b∈fp,mV X jr H' b:=fun hn b hb=>⟨hn b hb,(f2 b hb).2⟩
 refine codeAny_forLoop_any (fun n s'=>∃i σ' H',Inv X jr σ' H' s'/\tn i s'.heap/\(∀b∈fp,H' b=none)/\W i n σ' H') ?_ m0 ⟨0,σ,H2,I2,yl,fun b hb=>(f2 b hb).1,w0⟩;rintro n s3 ⟨i,σ3,H3,I3,Aj,fr3,w3⟩;rcases kr i n σ3 H3 w3 with⟨stop,qn⟩|⟨go,N,hN,step⟩
 ·refine wpAny_passesOwn hp (thn (T.done X rfl rfl rfl hc i jr s3 σ3 H3 X.xe I3 (mz fr3) Aj stop) fun r s4 ⟨hr,I4⟩=>?_);subst hr;exact wpAny_execs_nil ⟨σ3,H3,I4,qn⟩
 ·refine wpAny_passesOwn hp (thn (T.item X rfl rfl rfl hc i jr s3 σ3 H3 X.xe I3 (mz fr3) Aj go) fun r s4 ⟨u,hr,h4⟩=>?_);subst hr;refine wpAny_passesOwn hp (thn h4 fun _ s5 ⟨x,H5,I5,r5,y5,vt,fr5⟩=>?_);have I5':=I5.pinned (mz fr5) (T.obj _ _ vt);refine wpAny_passesOwn hp (thn (hg _ s5 σ3 H5 x u _ I5' r5 (step x H5 y5)) fun _ s6 ⟨σ6,H6,I6,q6⟩=>?_);refine wpAny_passesOwn hp (thn (hb _ s6 σ6 H6 _ I6 q6) fun f s7 q7=>?_);have again:∀{σ7:St}{H7:Hp},Inv X (jr++pI fp s5.heap) σ7 H7 s7->N σ7 H7->∃m,m<n/\∃i σ' H',Inv X jr σ' H' s7/\tn i s7.heap/\(∀b∈fp,H' b=none)/\W i m σ' H':=fun{σ7 H7} I7 n7=>by obtain⟨m',hm,w7⟩:=hN σ7 H7 n7;refine⟨m',hm,i+1,σ7,H7,I7.k7,T.keep _ _ _ vt fun b hb o e=>(I7.pin (b,o) (bf _ (bf _ (jA hb e)))).1,fun b hb=>?_,w7⟩;obtain⟨o,e,d⟩:=T.obj _ _ vt b hb;exact(I7.pin (b,o) (bf _ (bf _ (jA hb e)))).2.1
  cases f with
  |next=>obtain⟨σ7,H7,I7,n7⟩:=q7;exact again I7 n7
  |cont=>obtain⟨σ7,H7,I7,n7⟩:=q7;exact again I7 n7
  |brk=>obtain⟨σ7,H7,I7,q7⟩:=q7;exact⟨σ7,H7,I7.k7,q7⟩
  |ret v=>obtain⟨x7,σ7,H7,I7,r7,q7⟩:=q7;exact⟨x7,σ7,H7,I7.k7,r7,q7⟩
end
theorem gR{K:W.Frag}{a:Addr}{xs:List V}{g:TG}{tb:TS}{D:Ends}{σ:St}{H:Hp}(Pv:Nat->St->Hp->Prop)(h0:Pv 0 σ H)(hl:∀i σ H,i<=xs.length->Pv i σ H->SqL K H a xs)
  (hs:∀i x σ H,xs[i]? =some x->Pv i σ H->g x σ H fun σ2 H2=>tb {D with nx:=Pv (i+1),ct:=Pv (i+1),bk:=D.nx} σ2 H2) (hd:∀σ H,Pv xs.length σ H->D.nx σ H):
  ∃W:Nat->Nat->St->Hp->Prop,(∃m,W 0 m σ H)/\∀i m σ H,W i m σ H ->
   ((Itl K a).stop i H/\D.nx σ H)\/((Itl K a).go i H/\∃N:St->Hp->Prop,(∀σ' H',N σ' H'->∃m',m'<m/\W (i+1) m' σ' H')/\∀x H',(Itl K a).yld i H x H'->g x σ H' fun σ2 H2=>tb {D with nx:=N,ct:=N,bk:=D.nx} σ2 H2):=by
 refine⟨fun i m σ H=>m=xs.length - i/\i<=xs.length/\Pv i σ H,⟨xs.length,by simp,cv _,h0⟩,?_⟩;rintro i m σ H ⟨rfl,hi,p⟩;have q:=hl i σ H hi p;by_cases jz:i<xs.length
 ·refine .inr ⟨⟨xs,xs[i],q,by simp[jz]⟩,Pv (i+1),fun σ' H' p'=>⟨xs.length - (i+1),by omega,rfl,jz,p'⟩,fun x H' y=>?_⟩;obtain⟨e,y⟩:=y;subst e;exact hs i x σ _ (y xs q) p
 ·have e:i=xs.length:=by omega
  subst e;exact .inl ⟨⟨xs,q,ax _⟩,hd σ H p⟩
theorem jJ{K:W.Frag}{a:Addr}{xs:List V}{g:TG}{tb:TS}{D:Ends}{σ:St}{H:Hp}(Pv:Nat->St->Hp->Prop)(h0:Pv 0 σ H)(hl:∀i σ H,i<=xs.length->Pv i σ H->SqT K H a xs)
  (hs:∀i x σ H,xs[i]? =some x->Pv i σ H->g x σ H fun σ2 H2=>tb {D with nx:=Pv (i+1),ct:=Pv (i+1),bk:=D.nx} σ2 H2) (hd:∀σ H,Pv xs.length σ H->D.nx σ H):
  ∃W:Nat->Nat->St->Hp->Prop,(∃m,W 0 m σ H)/\∀i m σ H,W i m σ H ->
   ((Itt K a).stop i H/\D.nx σ H)\/((Itt K a).go i H/\∃N:St->Hp->Prop,(∀σ' H',N σ' H'->∃m',m'<m/\W (i+1) m' σ' H')/\∀x H',(Itt K a).yld i H x H'->g x σ H' fun σ2 H2=>tb {D with nx:=N,ct:=N,bk:=D.nx} σ2 H2):=by
 refine⟨fun i m σ H=>m=xs.length - i/\i<=xs.length/\Pv i σ H,⟨xs.length,by simp,cv _,h0⟩,?_⟩;rintro i m σ H ⟨rfl,hi,p⟩;have q:=hl i σ H hi p;by_cases jz:i<xs.length
 ·refine .inr ⟨⟨xs,xs[i],q,by simp[jz]⟩,Pv (i+1),fun σ' H' p'=>⟨xs.length - (i+1),by omega,rfl,jz,p'⟩,fun x H' y=>?_⟩;obtain⟨e,y⟩:=y;subst e;exact hs i x σ _ (y xs q) p
 ·have e:i=xs.length:=by omega
  subst e;exact .inl ⟨⟨xs,q,ax _⟩,hd σ H p⟩
theorem pY{lo:Int}{n:Nat}{g:TG}{tb:TS}{D:Ends}{σ:St}{H:Hp}(Pv:Nat->St->Hp->Prop)(h0:Pv 0 σ H)
  (hs:∀i σ H,i<n->Pv i σ H->g (.int (lo+i)) σ H fun σ2 H2=>tb {D with nx:=Pv (i+1),ct:=Pv (i+1),bk:=D.nx} σ2 H2) (hd:∀σ H,Pv n σ H->D.nx σ H):
  ∃W:Nat->Nat->St->Hp->Prop,(∃m,W 0 m σ H)/\∀i m σ H,W i m σ H ->
   ((Itr lo n).stop i H/\D.nx σ H)\/((Itr lo n).go i H/\∃N:St->Hp->Prop,(∀σ' H',N σ' H'->∃m',m'<m/\W (i+1) m' σ' H')/\∀x H',(Itr lo n).yld i H x H'->g x σ H' fun σ2 H2=>tb {D with nx:=N,ct:=N,bk:=D.nx} σ2 H2):=by
 refine⟨fun i m σ H=>m=n - i/\i<=n/\Pv i σ H,⟨n,by simp,cv _,h0⟩,?_⟩;rintro i m σ H ⟨rfl,hi,p⟩;by_cases jz:i<n
 ·refine .inr ⟨jz,Pv (i+1),fun σ' H' p'=>⟨n - (i+1),by omega,rfl,jz,p'⟩,fun x H' y=>?_⟩;obtain⟨e,y⟩:=y;subst e y;exact hs i σ _ jz p
 ·have e:i=n:=by omega
  subst e;exact .inl ⟨ax _,hd σ H p⟩
theorem iM{c:TT}{tb:TS}{D:Ends}{σ:St}{H:Hp}(Pv:St->Hp->Prop)(μ:St->Hp->Nat)(h0:Pv σ H)
  (hs:∀σ H,Pv σ H->c σ H fun b H1=>if b=true then tb {D with nx:=fun σ' H'=>Pv σ' H'/\μ σ' H'<μ σ H,ct:=fun σ' H'=>Pv σ' H'/\μ σ' H'<μ σ H,bk:=D.nx} σ H1 else D.nx σ H1)
  (mono:∀σ H Q Q',(∀b H1,Q b H1->Q' b H1)->c σ H Q->c σ H Q'):GH c tb D σ H:=by
 refine⟨fun m σ H=>m=μ σ H/\Pv σ H,⟨_,rfl,h0⟩,?_⟩;rintro m σ H ⟨rfl,p⟩;refine mono σ H _ _ (fun b H1 q=>?_) (hs σ H p);cases b with
 |true=>exact⟨_,fun σ' H' ⟨p',l⟩=>⟨_,l,rfl,p'⟩,q⟩
 |false=>exact q
abbrev R2:=V->V->Hp->VK->Prop
noncomputable def OpR(X:Cx)(f:Value->Value->Sem Value)(r:R2):Prop:=
 ∀(jr:List (Addr×Obj))(s:Shared)(σ:St)(H:Hp)(x y:V)(v u:Value)(Q:VK),Inv X jr σ H s->RelV x v->RelV y u->r x y H Q ->
  wpAny (model X.prog X.w) X.A (f v u) (EP X jr σ Q) X.xe s
noncomputable def UnR(X:Cx)(f:Value->Sem Value)(r:V->Hp->VK->Prop):Prop:=
 ∀(jr:List (Addr×Obj))(s:Shared)(σ:St)(H:Hp)(x:V)(v:Value)(Q:VK),Inv X jr σ H s->RelV x v->r x H Q ->
  wpAny (model X.prog X.w) X.A (f v) (EP X jr σ Q) X.xe s
noncomputable def lC(X:Cx)(f:Value)(r:List V->Hp->VK->Prop):Prop:=
 ∀(jr:List (Addr×Obj))(s:Shared)(σ:St)(H:Hp)(xs:List V)(us:List Value)(Q:VK),Inv X jr σ H s->Vals xs us->r xs H Q ->
  wpAny (model X.prog X.w) X.A (call f us) (EP X jr σ Q) X.xe s
noncomputable def X7(X:Cx)(r:V->Hp->(Bool->Hp->Prop)->Prop):Prop:=
 ∀(jr:List (Addr×Obj))(s:Shared)(σ:St)(H:Hp)(x:V)(v:Value)(Q:Bool->Hp->Prop),Inv X jr σ H s->RelV x v->r x H Q ->
  wpAny (model X.prog X.w) X.A (truthy v) (TP X jr σ Q) X.xe s
noncomputable def tOp(r:R2)(ta tb:TE):TE:=fun σ H Q=>ta σ H fun x H1=>tb σ H1 fun y H2=>r x y H2 Q
def tUn(r:V->Hp->VK->Prop)(ta:TE):TE:=fun σ H Q=>ta σ H fun x H1=>r x H1 Q
noncomputable def rI(C:Int->Int->Prop)(g:Int->Int->V):R2:=fun x y H Q=>∃i j,x=.int i/\y=.int j/\C i j/\Q (g i j) H
noncomputable def rI0(g:Int->Int->V):R2:=fun x y H Q=>∃i j,x=.int i/\y=.int j/\Q (g i j) H
def rU(g:Int->V):V->Hp->VK->Prop:=fun x H Q=>∃i,x=.int i/\Q (g i) H
section
variable {X:Cx}{a b c:Expr}{ta tb tc:TE}{pos:Pos}
theorem NG(ha:PE X a ta)(hb:PE X b tb){jr:List (Addr×Obj)}{s:Shared}{σ:St}{H:Hp}{R:V->V->Hp->Prop}(I:Inv X jr σ H s)
  (h:ta σ H fun x H1=>tb σ H1 fun y H2=>R x y H2) {Q:Value->Shared->Prop}{f:Value->Value->Sem Value}
  (hf:∀v u s2 x y H2,Inv X jr σ H2 s2->RelV x v->RelV y u->R x y H2->wpAny (model X.prog X.w) X.A (f v u) Q X.xe s2):
  wpAny (model X.prog X.w) X.A (eval a X.env) (fun v s₁=>wpAny (model X.prog X.w) X.A (eval b X.env) (fun u s₂=>wpAny (model X.prog X.w) X.A (f v u) Q X.xe s₂) X.xe s₁) X.xe s:=by
 refine thn (ha jr s σ H _ I h) fun v s1 ⟨x,H1,I1,r1,q1⟩=>?_
 refine thn (hb jr s1 σ H1 _ I1 q1) fun u s2 ⟨y,H2,I2,r2,q2⟩=>?_
 exact hf v u s2 x y H2 I2 r1 r2 q2
theorem d8{op:Operator}{r:R2}(ho:OpR X (binaryOp op) r)(ha:PE X a ta)(hb:PE X b tb):PE X (.BinOp a op b pos) (tOp r ta tb):=by intro jr s σ H Q I h;exact wpAny_BinOp (NG ha hb I h fun v u s2 x y H2 I2 rx ry q=>ho jr s2 σ H2 x y v u Q I2 rx ry q)
theorem LJ{op:UnaryOp}{r:V->Hp->VK->Prop}(ho:UnR X (unaryOp op) r)(ha:PE X a ta):PE X (.UnaryOp op a pos) (tUn r ta):=by intro jr s σ H Q I h;exact UnaryOp_ (thn (ha jr s σ H _ I h) fun v s1 ⟨x,H1,I1,r1,q1⟩=>ho jr s1 σ H1 x v Q I1 r1 q1)
theorem opI{f:Value->Value->Sem Value}{C:Int->Int->Prop}{g:Int->Int->Int}
  (rule:∀(i j:Int)(t u:Tok)(s:Shared)(Q:Value->Shared->Prop)(E:Value->Shared->Prop),C i j->Q (.int (g i j) s.toks) {s with toks:=s.toks+1}->wpAny (model X.prog X.w) X.A (f (.int i t) (.int j u)) Q E s):
  OpR X f (rI C fun i j=>.int (g i j)):=by
 intro jr s σ H x y v u Q I rx ry h;obtain⟨i,j,rfl,rfl,hc,q⟩:=h;obtain⟨t,rfl⟩:=rx;obtain⟨t',rfl⟩:=ry;exact rule i j t t' s _ _ hc ⟨.int (g i j),H,I.tok _,⟨_,rfl⟩,q⟩
theorem O5{f:Value->Value->Sem Value}{g:Int->Int->Int}
  (rule:∀(i j:Int)(t u:Tok)(s:Shared)(Q:Value->Shared->Prop)(E:Value->Shared->Prop),Q (.int (g i j) s.toks) {s with toks:=s.toks+1}->wpAny (model X.prog X.w) X.A (f (.int i t) (.int j u)) Q E s):
  OpR X f (rI0 fun i j=>.int (g i j)):=by
 intro jr s σ H x y v u Q I rx ry h;obtain⟨i,j,rfl,rfl,q⟩:=h;obtain⟨t,rfl⟩:=rx;obtain⟨t',rfl⟩:=ry;exact rule i j t t' s _ _ ⟨.int (g i j),H,I.tok _,⟨_,rfl⟩,q⟩
theorem O6{f:Value->Value->Sem Value}{g:Int->Int->Bool}
  (rule:∀(i j:Int)(t u:Tok)(s:Shared)(Q:Value->Shared->Prop)(E:Value->Shared->Prop),Q (.bool (g i j)) s->wpAny (model X.prog X.w) X.A (f (.int i t) (.int j u)) Q E s):
  OpR X f (rI0 fun i j=>.bl (g i j)):=by
 intro jr s σ H x y v u Q I rx ry h;obtain⟨i,j,rfl,rfl,q⟩:=h;obtain⟨t,rfl⟩:=rx;obtain⟨t',rfl⟩:=ry;exact rule i j t t' s _ _ ⟨.bl (g i j),H,I,rfl,q⟩
def X9(i j:Int):Prop:=0<j/\j<1073741824
def NJ(i j:Int):Prop:=(-(2^64)<i/\i<2^64)\/(-(2^64)<j/\j<2^64)
theorem NJ.ok{i j:Int}(h:NJ i j):IntMulOk i j:=by
 rcases h with⟨h1,h2⟩|⟨h1,h2⟩
 ·exact .of_left (intBits_le_64 h1 h2)
 ·exact .of_right (intBits_le_64 h1 h2)
theorem kE:OpR X (binaryOp .Add) (rI0 fun i j=>.int (i+j)):=O5 fun _ _ _ _ _ _ _ q=>add_int q
theorem pM:OpR X (binaryOp .Sub) (rI0 fun i j=>.int (i - j)):=O5 fun _ _ _ _ _ _ _ q=>sub_int q
theorem sZ:OpR X (binaryOp .Mult) (rI NJ fun i j=>.int (i*j)):=opI fun _ _ _ _ _ _ _ hc q=>mul_int q hc.ok
theorem D4:OpR X (binaryOp .FloorDiv) (rI X9 fun i j=>.int (i/j)):=opI fun i j _ _ _ _ _ hc q=>by have h1:(0:Int)<j:=hc.1;have h2:j<1073741824:=hc.2;exact floordiv_int (by omega) (by rw[Int.fdiv_eq_ediv_of_nonneg i (by omega)];exact q) (.inl (PyProof.noPylong_small (by omega)))
theorem wX:OpR X (binaryOp .Mod) (rI (fun _ j=>0<j) fun i j=>.int (i%j)):=opI fun i j _ _ _ _ _ hc q=>by have h1:(0:Int)<j:=hc;exact mod_int' (by omega) (by rw[Int.fmod_eq_emod_of_nonneg i (by omega)];exact q)
theorem unI{f:Value->Sem Value}{g:Int->Int}
  (rule:∀(i:Int)(t:Tok)(s:Shared)(Q:Value->Shared->Prop)(E:Value->Shared->Prop),Q (.int (g i) s.toks) {s with toks:=s.toks+1}->wpAny (model X.prog X.w) X.A (f (.int i t)) Q E s):
  UnR X f (rU fun i=>.int (g i)):=by
 intro jr s σ H x v Q I rx h;obtain⟨i,rfl,q⟩:=h;obtain⟨t,rfl⟩:=rx;exact rule i t s _ _ ⟨.int (g i),H,I.tok _,⟨_,rfl⟩,q⟩
theorem GC:UnR X (unaryOp .USub) (rU fun i=>.int (-i)):=unI fun _ _ _ _ _ q=>neg_int q
end
noncomputable def NZ:V->V->Bool
 | .non,.non=>true| .non,.int _=>true| .int _,.non=>true| .non,.bl _=>true| .bl _,.non=>true| .non,.str _=>true| .str _,.non=>true
 | .int _,.int _=>true| .bl _,.bl _=>true| .str _,.str _=>true| .byt _,.byt _=>true
 | .int _,.str _=>true| .str _,.int _=>true| .bl _,.str _=>true| .str _,.bl _=>true
 |_,_=>false
def rEq:R2:=fun x y H Q=>NZ x y=true/\Q (.bl (decide (x=y))) H
def rNe:R2:=fun x y H Q=>NZ x y=true/\Q (.bl (!decide (x=y))) H
theorem jM{i j:Int}:decide (V.int i=V.int j)=(i==j):=by rw[di];simp
theorem J8{i j:Bool}:decide (V.bl i=V.bl j)=(i==j):=by rw[di];simp
theorem DR{i j:Str}:decide (V.str i=V.str j)=(i==j):=by rw[di];simp
theorem DS{i j:Array UInt8}:decide (V.byt i=V.byt j)=(i.toList==j.toList):=by rw[di];cases i;cases j;simp
section
variable {X:Cx}{a b c:Expr}{ta tb tc:TE}{pos:Pos}
theorem bV{jr:List (Addr×Obj)}{σ:St}{H:Hp}{s:Shared}{Q:VK}{k k':Bool}(I:Inv X jr σ H s)(q:Q (.bl k) H)(e:k=k'):EP X jr σ Q (.bool k') s:=by subst e;exact⟨.bl k,H,I,rfl,q⟩
theorem gY:OpR X (compareOp .Eq) rEq:=by
 intro jr s σ H x y v u Q I rx ry h;obtain⟨hs,q⟩:=h;cases x with
 |non=>
  cases rx;cases y with
  |non=>cases ry;exact PySem.EqNone.eq_none_none (bV I q (by simp))
  |bl j=>cases ry;exact PySem.EqNone.eq_none_bool (bV I q (by simp))
  |int j=>obtain⟨t',rfl⟩:=ry;exact PySem.EqNone.eq_none_int (bV I q (by simp))
  |str j=>obtain⟨t',rfl⟩:=ry;exact PySem.EqNone.eq_none_str (bV I q (by simp))
  |_=>exact absurd (show false=true from hs) bo
 |bl i=>
  cases rx;cases y with
  |non=>cases ry;exact PySem.EqNone.eq_bool_none (bV I q (by simp))
  |bl j=>cases ry;exact eq_bool (bV I q J8)
  |str j=>obtain⟨t',rfl⟩:=ry;exact PySem.EqMixed.eq_bool_str (bV I q (by simp))
  |_=>exact absurd (show false=true from hs) bo
 |int i=>
  obtain⟨t,rfl⟩:=rx;cases y with
  |non=>cases ry;exact PySem.EqNone.eq_int_none (bV I q (by simp))
  |int j=>obtain⟨t',rfl⟩:=ry;exact eq_int (bV I q jM)
  |str j=>obtain⟨t',rfl⟩:=ry;exact PySem.EqMixed.eq_int_str (bV I q (by simp))
  |_=>exact absurd (show false=true from hs) bo
 |str i=>
  obtain⟨t,rfl⟩:=rx;cases y with
  |non=>cases ry;exact PySem.EqNone.eq_str_none (bV I q (by simp))
  |bl j=>cases ry;exact PySem.EqMixed.eq_str_bool (bV I q (by simp))
  |int j=>obtain⟨t',rfl⟩:=ry;exact PySem.EqMixed.eq_str_int (bV I q (by simp))
  |str j=>obtain⟨t',rfl⟩:=ry;exact eq_str (bV I q DR)
  |_=>exact absurd (show false=true from hs) bo
 |byt i=>
  obtain⟨t,rfl⟩:=rx;cases y with
  |byt j=>obtain⟨t',rfl⟩:=ry;exact W.eq_bytes (bV I q DS)
  |_=>exact absurd (show false=true from hs) bo
 |_=>cases y<;>exact absurd (show false=true from hs) bo
theorem LK:OpR X (compareOp .NotEq) rNe:=by
 intro jr s σ H x y v u Q I rx ry h;obtain⟨hs,q⟩:=h;cases x with
 |non=>
  cases rx;cases y with
  |non=>cases ry;exact PySem.EqNone.ne_none_none (bV I q (by simp))
  |bl j=>cases ry;exact PySem.EqNone.ne_none_bool (bV I q (by simp))
  |int j=>obtain⟨t',rfl⟩:=ry;exact PySem.EqNone.ne_none_int (bV I q (by simp))
  |str j=>obtain⟨t',rfl⟩:=ry;exact PySem.EqNone.ne_none_str (bV I q (by simp))
  |_=>exact absurd (show false=true from hs) bo
 |bl i=>
  cases rx;cases y with
  |non=>cases ry;exact PySem.EqNone.ne_bool_none (bV I q (by simp))
  |bl j=>cases ry;exact ne_bool (bV I q (congrArg not J8))
  |str j=>obtain⟨t',rfl⟩:=ry;exact PySem.EqMixed.ne_bool_str (bV I q (by simp))
  |_=>exact absurd (show false=true from hs) bo
 |int i=>
  obtain⟨t,rfl⟩:=rx;cases y with
  |non=>cases ry;exact PySem.EqNone.ne_int_none (bV I q (by simp))
  |int j=>obtain⟨t',rfl⟩:=ry;exact ne_int (bV I q (congrArg not jM))
  |str j=>obtain⟨t',rfl⟩:=ry;exact PySem.EqMixed.ne_int_str (bV I q (by simp))
  |_=>exact absurd (show false=true from hs) bo
 |str i=>
  obtain⟨t,rfl⟩:=rx;cases y with
  |non=>cases ry;exact PySem.EqNone.ne_str_none (bV I q (by simp))
  |bl j=>cases ry;exact PySem.EqMixed.ne_str_bool (bV I q (by simp))
  |int j=>obtain⟨t',rfl⟩:=ry;exact PySem.EqMixed.ne_str_int (bV I q (by simp))
  |str j=>obtain⟨t',rfl⟩:=ry;exact ne_str (bV I q (congrArg not DR))
  |_=>exact absurd (show false=true from hs) bo
 |byt i=>
  obtain⟨t,rfl⟩:=rx;cases y with
  |byt j=>obtain⟨t',rfl⟩:=ry;exact W.ne_bytes (bV I q (congrArg not DS))
  |_=>exact absurd (show false=true from hs) bo
 |_=>cases y<;>exact absurd (show false=true from hs) bo
theorem HN:OpR X (compareOp .Lt) (rI0 fun i j=>.bl (decide (i<j))):=O6 fun _ _ _ _ _ _ _ q=>lt_int q
theorem nK:OpR X (compareOp .Gt) (rI0 fun i j=>.bl (decide (j<i))):=O6 fun _ _ _ _ _ _ _ q=>gt_int q
theorem bU(b:Expr){op:CmpOp}(h:op≠ .In:=by decide)(h2:op≠ .NotIn:=by decide):behindInMarks op b=false:=by
 have e1:(op==CmpOp.In)=false:=by cases op<;>first|rfl|exact absurd rfl h
 have e2:(op==CmpOp.NotIn)=false:=by cases op<;>first|rfl|exact absurd rfl h2
 cases b<;>simp[behindInMarks,e1,e2]
theorem wW{op:CmpOp}{r:R2}(ho:OpR X (compareOp op) r)(ha:PE X a ta)(hb:PE X b tb)(hm:behindInMarks op b=false):PE X (.Compare a [op] [b] pos) (tOp r ta tb):=by intro jr s σ H Q I h;exact wpAny_Compare1 (NG ha hb I h fun v u s2 x y H2 I2 rx ry q=>ho jr s2 σ H2 x y v u Q I2 rx ry q) hm
def NO(t:TE):TT:=fun σ H Q=>t σ H fun x H'=>∃k,x=.bl k/\Q k H'
theorem bK{op:CmpOp}{r:R2}(ho:OpR X (compareOp op) r)(ha:PE X a ta)(hb:PE X b tb)(hm:behindInMarks op b=false):PT X (.Compare a [op] [b] pos) (NO (tOp r ta tb)):=by
 intro jr s σ H Q I h;refine wpAny_isTrue_Compare1 (thn (ha jr s σ H _ I h) fun v s1 ⟨x,H1,I1,r1,q1⟩=>thn (hb jr s1 σ H1 _ I1 q1) fun u s2 ⟨y,H2,I2,r2,q2⟩=>
  thn (ho jr s2 σ H2 x y v u _ I2 r1 r2 q2) fun c s3 ⟨z,H3,I3,r3,k,e,q3⟩=>?_) hm
 subst e;cases r3;exact wpAny_truthy_bool ⟨H3,I3,q3⟩
noncomputable def SI(K:W.Frag)(x:V)(H:Hp)(k:Bool):Prop:=
 match x with
 | .non=>k=false
 | .bl b=>k=b
 | .int i=>k=(i !=0)
 | .str y=>y.length<=sizeLine/\k=((y.length:Int) !=0)
 | .byt y=>y.size<=sizeLine/\k=((y.size:Int) !=0)
 | .ref p=>(∃xs,SqL K H p xs/\k=!xs.isEmpty)\/(∃xs,SqT K H p xs/\k=!xs.isEmpty)\/∃kvs,H p=some (.dK kvs)/\k=!kvs.isEmpty
 |_=>False
theorem BQ{κ:Type}{kvs:List (κ×V)}{vs:List (κ×Value)}(r:KV kvs vs):(!vs.isEmpty)=!kvs.isEmpty:=by cases r<;>rfl
theorem tM{xs:List V}{its:List Value}(r:Vals xs its):(!its.toArray.isEmpty)=!xs.isEmpty:=by cases r<;>simp
theorem tH:(sizeLine:Nat)<2^63:=by rw[sizeLine_eq];decide
theorem LU:X7 X (fun x H Q=>∃k,SI X.K x H k/\Q k H):=by
 intro jr s σ H x v Q I rx h;obtain⟨k,e,q⟩:=h;have hl:=tH;have hs:sizeLine=16777216:=sizeLine_eq;cases x with
 |non=>cases rx;have e':k=false:=e;subst e';exact truthy_none ⟨H,I,q⟩
 |bl b=>cases rx;have e':k=b:=e;subst e';exact wpAny_truthy_bool ⟨H,I,q⟩
 |int i=>obtain⟨t,rfl⟩:=rx;have e':k=(i !=0):=e;subst e';exact PySem.P.truthy_int ⟨H,I,q⟩
 |str y=>obtain⟨t,rfl⟩:=rx;obtain⟨hy,e'⟩:y.length<=sizeLine/\k=((y.length:Int) !=0):=e;subst e';exact PySem.P.truthy_str (by omega) ⟨H,I.tok _,q⟩
 |byt y=>obtain⟨t,rfl⟩:=rx;obtain⟨hy,e'⟩:y.size<=sizeLine/\k=((y.size:Int) !=0):=e;subst e';exact W.truthy_bytes (by omega) ⟨H,I.tok _,q⟩
 |ref p=>
  cases rx;have e':(∃xs,SqL X.K H p xs/\k=!xs.isEmpty)\/(∃xs,SqT X.K H p xs/\k=!xs.isEmpty)\/∃kvs,H p=some (.dK kvs)/\k=!kvs.isEmpty:=e
  rcases e' with⟨xs,hx,e'⟩|⟨xs,hx,e'⟩|⟨kvs,hx,e'⟩
  ·subst e';obtain⟨its,r,pl,hz⟩:=I.list hx;have kc:=r.length;exact wpAny_truthy_list pl.isList (by simp only[bg];omega) ⟨H,I.tok _,by rw[tM r];exact q⟩
  ·subst e';obtain⟨its,r,pl,hz⟩:=I.tuple hx;have kc:=r.length;exact truthy_tuple pl (by simp only[bg];omega) ⟨H,I.tok _,by rw[tM r];exact q⟩
  ·subst e';obtain⟨hz,hS,vs,r,m⟩:kvs.length<=sizeLine/\(p==sysModules)=false/\∃vs,KV kvs vs/\s.heap.DictOf (cD X.prog X.w) p vs:=I.hok p _ hx
   have kc:kvs.length=vs.length:=Paired.length r;exact wpAny_truthy_dict hS m (by omega) ⟨H,I.tok _,by rw[BQ r];exact q⟩
 |_=>exact(show False from e).elim
theorem sW(ha:PE X a ta)(he:∀mx,isTrue a X.env mx=(do let v<- mx;standAt a.pos;holding [v] (truthy v))):
  PT X a (fun σ H Q=>ta σ H fun x H'=>∃k,SI X.K x H' k/\Q k H'):=by
 intro jr s σ H Q I h;exact isTrue_plain (thn (ha jr s σ H _ I h) fun v s1 ⟨x,H1,I1,r1,q1⟩=>LU jr s1 σ H1 x v Q I1 r1 q1) (he _)
theorem vals1{x:V}{us:List Value}(r:Vals [x] us):∃u,us=[u]/\RelV x u:=by
 cases r with
 |cons r1 r2=>cases r2;exact⟨_,rfl,r1⟩
theorem vals2{x y:V}{us:List Value}(r:Vals [x,y] us):∃u w',us=[u,w']/\RelV x u/\RelV y w':=by
 cases r with
 |cons r1 r2=>
  cases r2 with
  |cons r3 r4=>cases r4;exact⟨_,_,rfl,r1,r3⟩
theorem G0(hc:X.calm=true):lC X (.builtin "max") (fun xs H Q=>∃i j,xs=[.int i,.int j]/\Q (.int (if j>i then j else i)) H):=by
 intro jr s σ H xs us Q I r h;obtain⟨i,j,rfl,q⟩:=h;obtain⟨u,w',rfl,⟨t,rfl⟩,⟨t',rfl⟩⟩:=vals2 r;refine max_two_ints (I.ok.hd hc) fun h' tk k=>⟨_,H,I.kept k,?_,q⟩
 by_cases hj:j>i
 ·rw[ag hj,ag hj];exact⟨_,rfl⟩
 ·rw[af hj,af hj];exact⟨_,rfl⟩
theorem FZ(hc:X.calm=true):lC X (.builtin "min") (fun xs H Q=>∃i j,xs=[.int i,.int j]/\Q (.int (if j<i then j else i)) H):=by
 intro jr s σ H xs us Q I r h;obtain⟨i,j,rfl,q⟩:=h;obtain⟨u,w',rfl,⟨t,rfl⟩,⟨t',rfl⟩⟩:=vals2 r;refine min_two_ints (I.ok.hd hc) fun h' tk k=>⟨_,H,I.kept k,?_,q⟩
 by_cases hj:j<i
 ·rw[ag hj,ag hj];exact⟨_,rfl⟩
 ·rw[af hj,af hj];exact⟨_,rfl⟩
end
structure G4(h:Heap)(x dx C:Addr)(mA:Str->Option Value):Prop where
 obj:h.get? x=some (W.instObj C dx)
 ns:h.Ns1 dx mA
 ne:dx≠x
theorem EX{h:Heap}{dx:Addr}{mA:Str->Option Value}(n:h.Ns1 dx mA):∃od,h.get? dx=some od/\∀name,W.lookIn name od=some (mA name):=by
 obtain⟨o,es,ep,ho,hd,hk,_,hm⟩:=n;refine⟨o,ho,fun name=>?_⟩;have e:=hm name;unfold nsFind findBy at e;rw[<- Array.find?_toList]at e;unfold W.lookIn;rw[hd];dsimp only;split
 ·rename_i y q;rw[q]at e;exact congrArg some e
 ·rename_i q;rw[q]at e;have a:es.toList.any (·.refKey)=false:=by rw[List.any_eq_false];intro y hy;obtain⟨z,t,oh⟩:=hk y (Array.mem_toList_iff.mp hy);simp[DictEntry.refKey,oh]
  have a':¬es.toList.any (·.refKey)=true:=by rw[a];exact bo
  rw[af a'];exact congrArg some e
theorem G4.look{h:Heap}{x dx C:Addr}{mA:Str->Option Value}(I:G4 h x dx C mA):∃od,W.InstAt h x (W.instObj C dx) C (some od)/\∀name,W.lookIn name od=some (mA name):=
 let⟨od,ho,hl⟩:=EX I.ns
 ⟨od,⟨I.obj,rfl,rfl,ho⟩,hl⟩
section
variable {prog:Program}{w:World}{A:Around}{E:Value->Shared->Prop}{s:Shared}{K:W.Frag}{x dx C f:Addr}{mA:Str->Option Value}{name:Str}{v:Value}
theorem get_map{expr:Bool}{Q:Value->Shared->Prop}(X:K.In s.heap)(I:G4 s.heap x dx C mA)(hg:W.plainGet K C name=true)(hh:W.hasDictIn K C=true)
  (ha:W.findIn K (.ref C) name=some none) (hv:mA name=some v) (hv':W.handedIn v=true) (h:Q v {s with toks:=s.toks+1}):
  wpAny (model prog w) A (getAttr (.ref x) name expr) Q E s:=by
 obtain⟨od,J,hl⟩:=I.look;exact W.get_value X J (W.plainGet_of hg).1 (W.findObj_own hh ha rfl (by rw[hl,hv])) hv' h
theorem JR{ns:List Str}{Q:Unit->Shared->Prop}(X:K.In s.heap)(I:G4 s.heap x dx C mA)
  (hs:W.findIn K (.ref C) "__setattr__" =some (some (.builtin "object.__setattr__"))) (hp:W.plainOver K C=true) (ht:W.takerIn K C name=some none) (hh:W.hasDictIn K C=true)
  (hw:PySem.Within mA ns) (hsz:ns.length<=sizeLine)
  (h:∀h',G4 h' x dx C (fun y=>if y=name then some v else mA y)->Heap.SameBut dx s.heap h'->Q () {s with heap:=h',toks:=s.toks+2}):
  wpAny (model prog w) A (setAttr (.ref x) name v) Q E s:=by
 obtain⟨od,J,hl⟩:=I.look;refine W.set_plain X J hs (W.osa_open (s:={s with toks:=s.toks+1}) (r:=none) X J hp ht fun b=>?_);obtain⟨cd,hc,wy⟩:=W.any_some hh;have hx:s.heap.get? x=some ⟨.ref C,some dx,.plain,#[]⟩:=I.obj;refine aa (ah (aa (aa (wpAny_loadPart hx (aa (W.Looks.here (s:={s with toks:=s.toks+1}) (W.looks_clsIn X hc) ?_))))));rw[wy];refine ah (a:=some dx) (aa (ah (aa ?_)));refine wpAny_nsSet1 (s:={s with toks:=s.toks+1}) I.ns fun h' As ug=>?_
 obtain⟨oD,esD,epD,hoD,hdD,hcD⟩:=As.count (PySem.Within.cons name v hw);refine aa (wpAny_lookBehind hoD (by rw[hdD];exact pastItsLine_dict (dj hcD (by rw[br];omega))) ?_);exact ah (h _ ⟨(ug.2 _ (Ne.symm I.ne)).trans I.obj,As,I.ne⟩ ug)
theorem I0{R:Result->Shared->Prop}{vs:List Value}{kw:List (Str×Value)}(X:K.In s.heap)(hm:W.makesIn K C=true)
  (hi:W.findIn K (.ref C) "__init__" =some (some (.ref f))) (hf:W.typeIn K (.ref f)=some (.type "function"))
  (h:codeAny (model prog w) (A.under (.builtin "type.__call__" ⟨.ref C::vs,kw⟩)) (.call (.ref f) ⟨.ref (s.heap.objs.size+1)::vs,kw⟩) (W.InitBack (s.heap.objs.size+1) R)
   {s with heap:=(s.heap.push W.emptyDict).push (W.instObj C s.heap.objs.size)}):
  codeAny (model prog w) A (.call (.ref C) ⟨vs,kw⟩) R s:=by
 obtain⟨hh,g,d,t,os⟩:=s;exact W.make_core (W.makes_of X hm) (W.looks_findIn X hi) (fun self=>W.bind_fn X self hf) (.inl rfl) h
end
noncomputable def bX(f:Str)(v:V):List (Str×V)->List (Str×V)
 |[]=>[(f,v)]
 |(g,x)::r=>if g=f then(g,v)::r else(g,x)::bX f v r
theorem bR(f g:Str)(v:V):∀fs:List (Str×V),(bX f v fs).lookup g=if g=f then some v else fs.lookup g
 |[]=>by
  show List.lookup g [(f,v)]=_
  by_cases h:g=f
  ·have hb:(g==f)=true:=beq_iff_eq.mpr h;simp only[List.lookup,hb,ag h]
  ·have hb:(g==f)=false:=beq_eq_false_iff_ne.mpr h;simp only[List.lookup,hb,af h]
 |(k,x)::r=>by
  have ih:=bR f g v r;rw[show bX f v ((k,x)::r)=(if k=f then(k,v)::r else(k,x)::bX f v r)from rfl];by_cases hk:k=f
  ·rw[ag hk];by_cases h:g=k
   ·have hb:(g==k)=true:=beq_iff_eq.mpr h;simp only[List.lookup,hb,ag (h.trans hk)]
   ·have hb:(g==k)=false:=beq_eq_false_iff_ne.mpr h;simp only[List.lookup,hb,af (fun e:g=f=>h (e.trans hk.symm))]
  ·rw[af hk];by_cases h:g=k
   ·have hb:(g==k)=true:=beq_iff_eq.mpr h;simp only[List.lookup,hb,af (fun e:g=f=>hk (h.symm.trans e))]
   ·have hb:(g==k)=false:=beq_eq_false_iff_ne.mpr h;simp only[List.lookup,hb];exact ih
theorem pQ(f:Str)(v:V):∀fs:List (Str×V),f∈(bX f v fs).map (·.1)/\∀g,g∈fs.map (·.1)->g∈(bX f v fs).map (·.1)
 |[]=>⟨by simp[bX],fun g h=>by simp at h⟩
 |(k,x)::r=>by
  obtain⟨i1,i2⟩:=pQ f v r;rw[show bX f v ((k,x)::r)=(if k=f then(k,v)::r else(k,x)::bX f v r)from rfl];by_cases hk:k=f
  ·rw[ag hk];subst hk;exact⟨by simp,fun g h=>by simpa using h⟩
  ·rw[af hk];refine⟨?_,fun g h=>?_⟩
   ·rw[bp];exact au _ i1
   ·rw[bp]at h ⊢;rcases ak.mp h with e|e
    ·exact ak.mpr (.inl e)
    ·exact au _ (i2 g e)
theorem dO(f:Str)(v:V):∀fs:List (Str×V),(bX f v fs).length<=fs.length+1
 |[]=>by simp[bX]
 |(k,x)::r=>by
  have ih:=dO f v r;rw[show bX f v ((k,x)::r)=(if k=f then(k,v)::r else(k,x)::bX f v r)from rfl];by_cases hk:k=f
  ·rw[ag hk,br,br];omega
  ·rw[af hk,br,br];omega
theorem mT.some_of{v:V}{o:Option Value}(r:mT (some v) o):∃u,o=some u/\RelV v u:=by
 cases o with
 |none=>exact(show False from r).elim
 |some u=>exact⟨u,rfl,r⟩
theorem F8{v:V}{u:Value}(r:RelV v u):W.handedIn u=true:=by
 cases v with
 |non=>cases (show u=Value.none from r);rfl
 |bl b=>cases (show u=Value.bool b from r);rfl
 |int i=>obtain⟨t,e⟩:=(show∃t,u=Value.int i t from r);cases e;rfl
 |str x=>obtain⟨t,e⟩:=(show∃t,u=Value.str x t from r);cases e;rfl
 |byt b=>obtain⟨t,e⟩:=(show∃t,u=Value.bytes b t from r);cases e;rfl
 |flt b=>obtain⟨t,e⟩:=(show∃t,u=Value.float b t from r);cases e;rfl
 |ref a=>cases (show u=Value.ref a from r);rfl
 |ty n=>cases (show u=Value.type n from r);rfl
section
variable {P:Program}{w:World}{H H':Hp}{h h':Heap}{a C dx:Addr}{fs fs':List (Str×V)}
theorem DH(hok:HOk P w H h)(e:H a=some (.ins C dx fs)):∃mA,G4 h a dx C mA/\(∀f,mT (fs.lookup f) (mA f))/\PySem.Within mA (fs.map (·.1))/\fs.length<=1000/\H dx=some (.own a):=by obtain⟨d,z,ne,ob,mA,n,r,q⟩:=(show d9 P w H h a (.ins C dx fs)from hok a _ e);exact⟨mA,⟨ob,n,ne⟩,r,q,z,d⟩
end
structure Cls(K:W.Frag)(C:Addr):Prop where
 pg:W.plainGet K C Str.empty=true
 hd:W.hasDictIn K C=true
 po:W.plainOver K C=true
 sa:W.findIn K (.ref C) "__setattr__" =some (some (.builtin "object.__setattr__"))
theorem Cls.get{K:W.Frag}{C:Addr}(c:Cls K C)(f:Str):W.plainGet K C f=true:=c.pg
def g7(K:W.Frag)(C:Addr)(f:Str):Prop:=W.findIn K (.ref C) f=some none
theorem g7.NM{K:W.Frag}{C:Addr}{f:Str}(n:g7 K C f):W.takerIn K C f=some none:=by unfold W.takerIn;rw[show W.findIn K (.ref C) f=some none from n];rfl
section
variable {X:Cx}{jr:List (Addr×Obj)}{σ:St}{H:Hp}{s:Shared}{a C dx:Addr}{fs:List (Str×V)}{f:Str}{v:V}{A:Around}{E:Value->Shared->Prop}
theorem BY{b:Bool}{Q:Value->Shared->Prop}(I:Inv X jr σ H s)(e:H a=some (.ins C dx fs))(c:Cls X.K C)(n:g7 X.K C f)(l:fs.lookup f=some v)
  (h:∀u s',Inv X jr σ H s'->RelV v u->Q u s'):wpAny (model X.prog X.w) A (getAttr (.ref a) f b) Q E s:=by
 obtain⟨mA,O,r,_,_,_⟩:=DH I.hok e;obtain⟨u,hu,ru⟩:=mT.some_of (v:=v) (o:=mA f) (by rw[<- l];exact r f);exact get_map I.kIn O (c.get f) c.hd n hu (F8 ru) (h u _ (I.tok _) ru)
theorem B1{y:V}{u:Value}{Q:Unit->Shared->Prop}(I:Inv X jr σ H s)(e:H a=some (.ins C dx fs))(c:Cls X.K C)(n:g7 X.K C f)(hl:fs.length<1000)(ry:RelV y u)
  (h:∀s',Inv X jr σ (upd H a (.ins C dx (bX f y fs))) s'->Q () s'):wpAny (model X.prog X.w) A (setAttr (.ref a) f u) Q E s:=by
 obtain⟨mA,O,r,wi,_,ho⟩:=DH I.hok e;have hz:(fs.map (·.1)).length<=sizeLine:=by rw[ai,sizeLine_eq];omega
 refine JR I.kIn O c.sa c.po n.NM c.hd wi hz fun h' O' sb=>h _ ?_
 have hd:∃o,h'.get? dx=some o:=let⟨o,_,_,e',_⟩:=O'.ns;⟨o,e'⟩
 refine I.write (x:=a) (e:=dx) (by rw[e];exact True.intro) (.inr ho) (fun b q hb z=>(sb.2 b hb).trans z) hd ?_;refine⟨by rw[aC O.ne];exact ho,?_,O.ne,O'.obj,_,O'.ns,fun g=>?_,fun g hg=>?_⟩
 ·have:=dO f y fs;omega
 ·show mT ((bX f y fs).lookup g) (if g=f then some u else mA g)
  rw[bR];by_cases q:g=f
  ·rw[ag q,ag q];exact ry
  ·rw[af q,af q];exact r g
 ·by_cases q:g=f
  ·rw[q];exact(pQ f y fs).1
  ·refine(pQ f y fs).2 g (wi g fun z=>hg ?_);show(if g=f then some u else mA g)=none
   rw[af q];exact z
theorem Inv.made(I:Inv X jr σ H s):Inv X jr σ (upd (upd H s.heap.objs.size (.own (s.heap.objs.size+1))) (s.heap.objs.size+1) (.ins C s.heap.objs.size []))
  {s with heap:=(s.heap.push W.emptyDict).push (W.instObj C s.heap.objs.size)}:=by
 have e1:(s.heap.push W.emptyDict).get? s.heap.objs.size=some W.emptyDict:=bb s.heap rfl;have e2:((s.heap.push W.emptyDict).push (W.instObj C s.heap.objs.size)).get? (s.heap.objs.size+1)=some (W.instObj C s.heap.objs.size):=by
  have:=bb (s.heap.push W.emptyDict) (o:=W.instObj C s.heap.objs.size) rfl
  rwa [fx]at this
 have e3:(s.heap.push W.emptyDict).Ns s.heap.objs.size (fun _=>none):=⟨W.emptyDict,#[],_,e1,rfl,(fun e he=>absurd he (by simp)),fun _=>rfl⟩;have I1:=I.laid (a:=s.heap.objs.size) (o:=.own (s.heap.objs.size+1)) (h':=s.heap.push W.emptyDict) (t':=s.toks) (fun b u q=>aq _ q) (ax _) ⟨_,e1⟩;refine I1.laid (a:=s.heap.objs.size+1) (o:=.ins C s.heap.objs.size []) (t':=s.toks) (fun b u q=>aq _ q) (ib (fx _ _)) ?_;have ne:s.heap.objs.size≠s.heap.objs.size+1:=da (Nat.lt_succ_self _);refine⟨by rw[aC ne,a8],cv _,ne,e2,fun _=>none,(Heap.Ns1.of_empty e3).at fun o q=>aq _ q,fun _=>True.intro,fun y hy=>absurd rfl hy⟩
theorem L6{prog:Program}{w:World}{env:Env}{e:Expr}{f:Str}{pos:Pos}{s:Shared}{Q:Value->Shared->Prop}(hb:attributeBase e f env (eval e env)=eval e env)
  (h:wpAny (model prog w) A (eval e env) (fun o s₁=>wpAny (model prog w) A (getAttr o f true) Q E s₁) E s):wpAny (model prog w) A (eval (.Attribute e f pos) env) Q E s:=
 Attribute_any_ h (by rw[arm_eval_Attribute,hb])
end
noncomputable def NV(K:W.Frag)(ta:TE)(f:Str):TE:=fun σ H Q=>ta σ H fun x H1=>∃a C dx fs v,x=.ref a/\H1 a=some (.ins C dx fs)/\Cls K C/\g7 K C f/\fs.lookup f=some v/\Q v H1
noncomputable def T1(K:W.Frag)(ta tv:TE)(f:Str):TS:=fun D σ H=>tv σ H fun y H1=>ta σ H1 fun x H2=>∃a C dx fs,x=.ref a/\H2 a=some (.ins C dx fs)/\Cls K C/\g7 K C f/\fs.length<1000/\
 D.nx σ (upd H2 a (.ins C dx (bX f y fs)))
section
variable {X:Cx}{o e kj:Expr}{f:Str}{pos ku oa:Pos}{ta tv:TE}
theorem gM(he:PE X e ta)(hb:attributeBase e f X.env (eval e X.env)=eval e X.env):PE X (.Attribute e f pos) (NV X.K ta f):=by intro jr s σ H Q I h;refine L6 hb (thn (he jr s σ H _ I h) fun u s1 ⟨x,H1,I1,rx,a,C,dx,fs,v,ex,ea,c,n,l,q⟩=>?_);subst ex;obtain rfl:u=Value.ref a:=rx;exact BY I1 ea c n l fun u' s2 I2 ru=>⟨v,H1,I2,ru,q⟩
theorem pH(ha:PE X o ta)(hv:PE X kj tv)(hs:swapsWith kj (some (.Attribute o f ku)) pos.line X.env=pure false):PS X (.Assign [.Attribute o f ku] kj pos) (T1 X.K ta tv f):=by intro jr s σ H D I h;refine plainObj_wpAny_Assign_Attribute (thn (hv jr s σ H _ I h) fun u s1 ⟨y,H1,I1,ry,q⟩=>thn (ha jr s1 σ H1 _ I1 q) fun ov s2 ⟨x,H2,I2,rx,a,C,dx,fs,ex,ea,c,n,l,q2⟩=>?_) hs;subst ex;obtain rfl:ov=Value.ref a:=rx;exact B1 I2 ea c n l ry fun s3 I3=>⟨σ,_,I3,q2⟩
end
structure d4(k:Nat)(A:Around):Prop where
 hd:A.handled=none
 dp:A.depth+3*k+5<recursionLimit
 un:A.units+16*k+200<cLine
theorem d4.mono{j k:Nat}{A:Around}(r:d4 k A)(h:j<=k):d4 j A:=⟨r.hd,by have:=r.dp;omega,by have:=r.un;omega⟩
theorem d4.deeper{k:Nat}{A:Around}(r:d4 (k+1) A)(env:Env):d4 k (A.deeper env):=
 ⟨r.hd,by have:=r.dp;show A.depth+1+3*k+5< _;omega,by have:=r.un;show A.units+3+16*k+200< _;omega⟩
theorem d4.in1{k:Nat}{A:Around}(r:d4 (k+1) A):d4 k A.in1:=
 ⟨r.hd,by have:=r.dp;show A.depth+3*k+5< _;omega,by have:=r.un;show A.units+1+16*k+200< _;omega⟩
theorem BL{A:Around}{C:Addr}{us:List Value}{kw:List (Str×Value)}:(A.under (.builtin "type.__call__" ⟨.ref C::us,kw⟩)).depth=A.depth+1:=by first|rfl|simp[Around.under,Code.weight,Code.isCreation,Code.isGuard,Code.isCaller,Code.frames,Code.isFrame,guardIds]
theorem BK{A:Around}{C:Addr}{us:List Value}{kw:List (Str×Value)}:(A.under (.builtin "type.__call__" ⟨.ref C::us,kw⟩)).units=A.units+1:=by first|rfl|simp[Around.under,Code.cUnits,Code.frames,Code.isFrame]
theorem d4.make{k:Nat}{A:Around}(r:d4 (k+1) A)(C:Addr)(us:List Value)(kw:List (Str×Value)):d4 k (A.under (.builtin "type.__call__" ⟨.ref C::us,kw⟩)):=
 ⟨r.hd,by have:=r.dp;rw[BL];omega,by have:=r.un;rw[BK];omega⟩
theorem d4.depth{k:Nat}{A:Around}(r:d4 k A):A.depth<recursionLimit:=by have:=r.dp;omega
theorem d4.units{k:Nat}{A:Around}(r:d4 k A):A.units+64<cLine:=by have:=r.un;omega
def JN:TA:=fun _ H Q=>Q [] H
noncomputable def m8(ta:TE)(tr:TA):TA:=fun σ H Q=>ta σ H fun x H1=>tr σ H1 fun xs H2=>Q (x::xs) H2
section
variable {X:Cx}{e:Expr}{es:List Expr}{te:TE}{t:TA}{pos:Pos}
theorem aD:PA X [] JN:=fun _ _ _ _ H Q I h=>Calls.spliced_nil ⟨[],H,I,.nil,h⟩
theorem a7(ha:PE X e te)(hr:PA X es t)(hs:starEach (e::es) X.env=(false,eval e X.env)::starEach es X.env:=by rfl):PA X (e::es) (m8 te t):=by
 intro pos jr s σ H Q I h;rw[hs];show wpAny _ _ (spliced ((false,eval e X.env)::backTo pos (starEach es X.env))) _ _ s
 refine Calls.spliced_cons (thn (ha jr s σ H _ I h) fun u s1 ⟨x,H1,I1,r1,q1⟩=>?_);exact thn (hr pos jr s1 σ H1 _ I1 q1) fun us s2 ⟨xs,H2,I2,r2,q2⟩=>⟨x::xs,H2,I2,.cons r1 r2,q2⟩
noncomputable def NN(t:TA):TE:=fun σ H Q=>t σ H fun xs H1=>xs.length<=sizeLine/\∀p,H1 p=none->Q (.ref p) (upd H1 p (.tup xs))
noncomputable def SO(t:TA):TE:=fun σ H Q=>t σ H fun xs H1=>xs.length<=sizeLine/\∀p,H1 p=none->Q (.ref p) (upd H1 p (.lst xs))
theorem cU{x1}(h:PA X es t):PE X (.Tuple es x1 pos) (NN t):=by intro jr s σ H Q I hq;refine wpAny_Tuple_spliced (thn (h pos jr s σ H _ I hq) fun us s1 ⟨xs,H1,I1,r,z,q⟩=>⟨by rw[<- r.length];exact z,?_⟩);have hf:H1 s1.heap.objs.size=none:=I1.hok.fresh (ax _);refine⟨.ref s1.heap.objs.size,upd H1 s1.heap.objs.size (.tup xs),I1.laid (t':=s1.toks) (fun b u e=>aq _ e) (ax _) ?_,rfl,q _ hf⟩;exact⟨z,us,r,⟨_,bb _ rfl,rfl,_,rfl⟩⟩
theorem fB(h:PA X es t):PE X (.List es pos) (SO t):=by intro jr s σ H Q I hq;refine wpAny_List_spliced (thn (h pos jr s σ H _ I hq) fun us s1 ⟨xs,H1,I1,r,z,q⟩=>⟨by rw[<- r.length];exact z,?_⟩);have hf:H1 s1.heap.objs.size=none:=I1.hok.fresh (ax _);refine⟨.ref s1.heap.objs.size,upd H1 s1.heap.objs.size (.lst xs),I1.laid (t':=s1.toks) (fun b u e=>aq _ e) (ax _) ?_,rfl,q _ hf⟩;exact⟨z,us,0,r,bb _ rfl⟩
end
abbrev Sp:=List V->Hp->VK->XK->Prop
abbrev CXT:=List Env->Hp->Shared->XK->Value->Shared->Prop
structure oU(P:Program)(w:World)(K:W.Frag)(mg:Str->Option Value)(base:Heap)(A:Around)(outer:List Env)(s:Shared)(H:Hp):Prop where
 frames:A.frames=some outer
 mod:Mod K mg base
 bs:∀b o,base.get? b=some o->s.heap.get? b=some o/\H b=none
 bsz:base.objs.size<=s.heap.objs.size
 kL:s.heap.FunFrames base outer
 frf:∀b∈frs outer,H b=none
 hok:HOk P w H s.heap
 bare:AllBare s.gens
noncomputable def CE(outer:List Env)(P:Program)(w:World)(H:Hp)(s:Shared)(Q:VK)(u:Value)(s':Shared):Prop:=
 ∃v H',s'.os=s.os/\AllBare s'.gens/\Un (frs outer) [] H H' s.heap s'.heap/\HOk P w H' s'.heap/\RelV v u/\Q v H'
noncomputable def CR(CX:CXT)(outer:List Env)(P:Program)(w:World)(H:Hp)(s:Shared)(Q:VK)(E:XK)(r:Result)(s':Shared):Prop:=
 match r with
 | .ok (.ret u)=>CE outer P w H s Q u s'
 | .ok _=>False
 | .error e=>CX outer H s E e s'
structure bN(P:Program)(w:World)(K:W.Frag)(mg:Str->Option Value)(base:Heap)(CX:CXT)(k:Nat)(f:Addr)(fd:FuncData)(ps:List Str)(sp:Sp):Prop where
 len:∀vs H Q E,sp vs H Q E->vs.length=ps.length
 run:∀(A:Around)(outer:List Env)(s:Shared)(H:Hp)(args:Args)(us:List Value)(vs:List V)(Q:VK)(E:XK),d4 k A->oU P w K mg base A outer s H->BindsTo s fd args (ps.zip us)->Vals vs us->sp vs H Q E ->
  codeAny (model P w) A (.call (.ref f) args) (CR CX outer P w H s Q E) s
theorem oU.make{P:Program}{w:World}{K:W.Frag}{mg:Str->Option Value}{base:Heap}{A:Around}{outer:List Env}{s:Shared}{H:Hp}(e:oU P w K mg base A outer s H)(C:Addr)(us:List Value)(kw:List (Str×Value)):
  oU P w K mg base (A.under (.builtin "type.__call__" ⟨.ref C::us,kw⟩)) outer s H:=⟨by first|exact e.frames|(simpa[Around.under,Code.envs,Code.isFrame,pushEnvs]using e.frames),e.mod,e.bs,e.bsz,e.kL,e.frf,e.hok,e.bare⟩
theorem oU.in1{P:Program}{w:World}{K:W.Frag}{mg:Str->Option Value}{base:Heap}{A:Around}{outer:List Env}{s:Shared}{H:Hp}(e:oU P w K mg base A outer s H):
  oU P w K mg base A.in1 outer s H:=⟨e.frames,e.mod,e.bs,e.bsz,e.kL,e.frf,e.hok,e.bare⟩
section
variable {X:Cx}{jr:List (Addr×Obj)}{σ:St}{H:Hp}{s s':Shared}
theorem Inv.J1(I:Inv X jr σ H s):oU X.prog X.w X.K X.mg X.base X.A X.stack s H:=
 ⟨I.ok.frames,I.ok.mod,I.bs,dj I.ok.bsz I.sz,I.stack,I.wN,I.hok,I.bare⟩
theorem Inv.after{Q:VK}{u:Value}(I:Inv X jr σ H s)(h:CE X.stack X.prog X.w H s Q u s'):EP X jr σ Q u s':=by obtain⟨v,H',os,bare,un,hok,r,q⟩:=h;obtain⟨hh,g,d,t,os'⟩:=s';obtain rfl:os'=s.os:=os;exact⟨v,H',I.call (h':=hh) (g':=g) (d':=d) (t':=t) (ch:=[]) un hok bare (fun b z=>absurd z (by simp)),r,q⟩
end
noncomputable def CP(sp:Sp)(qz:List V)(E:XK)(t:TA):TE:=fun σ H Q=>t σ H fun vs H1=>sp (vs++qz) H1 Q E
noncomputable def NT(C:Addr)(sp:Sp)(qz:List V)(E:XK)(t:TA):TE:=fun σ H Q=>t σ H fun vs H1=>∀x dx,H1 x=none->H1 dx=none->dx≠x ->
 sp (.ref x::(vs++qz)) (upd (upd H1 dx (.own x)) x (.ins C dx [])) (fun v H2=>v=.non/\Q (.ref x) H2) E
noncomputable def Binds(K:W.Frag)(fd:FuncData)(ps:List Str)(ds:List Value):Prop:=
 ∀(s:Shared)(us:List Value),K.In s.heap->(us++ds).length=ps.length->BindsTo s fd ⟨us,[]⟩ (ps.zip (us++ds))
theorem Binds.all{K:W.Frag}{fd:FuncData}{ps:List Str}(h:∀us:List Value,us.length=ps.length->bindArgs fd ⟨us,[]⟩=pure (ps.zip us)):Binds K fd ps []:=fun s us _ hl=>by rw[df]at hl ⊢;exact .of_eq (h us hl)
noncomputable def Passes(CX:CXT)(X:Cx)(E:XK):Prop:=∀(jr:List (Addr×Obj))(σ:St)(H:Hp)(s:Shared)(e:Value)(s':Shared),Inv X jr σ H s->CX X.stack H s E e s'->X.xe e s'
section
variable {X:Cx}{CX:CXT}{k:Nat}{f C:Addr}{fd:FuncData}{ps:List Str}{sp:Sp}{qz:List V}{ds:List Value}{E:XK}{x m:Str}{p pos lh:Pos}{e o:Expr}{es:List Expr}{ta:TE}{t:TA}
theorem M8{jr:List (Addr×Obj)}{σ:St}{H:Hp}{s:Shared}{Q:VK}{us:List Value}{vs:List V}(F:bN X.prog X.w X.K X.mg X.base CX k f fd ps sp)(hr:d4 k X.A)(hb:Binds X.K fd ps ds)(hd:Vals qz ds)(hx:Passes CX X E)
  (I:Inv X jr σ H s) (r:Vals vs us) (h:sp (vs++qz) H Q E):wpAny (model X.prog X.w) X.A (call (.ref f) us) (EP X jr σ Q) X.xe s:=by
 have r2:Vals (vs++qz) (us++ds):=r.append hd;have hl:(us++ds).length=ps.length:=by rw[<- r2.length];exact F.len _ _ _ _ h
 refine wpAny_call (codeAny_mono (F.run X.A X.stack s H ⟨us,[]⟩ (us++ds) (vs++qz) Q E hr I.J1 (hb s us I.kIn hl) r2 h) fun r s' hq=>?_);cases r with
 |error e=>exact hx jr σ H s e s' I hq
 |ok fl=>
  cases fl with
  |ret u=>exact I.after hq
  |next=>exact False.elim hq
  |brk=>exact False.elim hq
  |cont=>exact False.elim hq
theorem JY(F:bN X.prog X.w X.K X.mg X.base CX k f fd ps sp)(hr:d4 k X.A)(hg:Gl X x)(hm:X.mg x=some (.ref f))(hk:W.keepIn X.K (.ref f)=true)(hb:Binds X.K fd ps ds)(hd:Vals qz ds)(hx:Passes CX X E)
  (ha:PA X (e::es) t) (uj:(x==("__debug__" : Str))=false:=by decide) (he:starEach (e::es) X.env=(false,eval e X.env)::starEach es X.env:=by rfl) (sf:(backTo pos (starEach es X.env)).any (·.1)=false:=by rfl):
  PE X (.Call (.Name x p) (e::es) [] pos) (CP sp qz E t):=by
 intro jr s σ H Q I h;refine wpAny_Call_Name_kw (jB I hg hm ?_ uj);refine W.callWith_K (h₀:=X.base) I.ok.mod.kin hk (thn (ha pos jr s σ H _ I h) fun us s1 ⟨vs,H1,I1,r,q⟩=>⟨I1.kIn,?_⟩) he sf;exact M8 F hr hb hd hx I1 r q
structure Mk(K:W.Frag)(C f:Addr):Prop where
 makes:W.makesIn K C=true
 init:W.findIn K (.ref C) "__init__" =some (some (.ref f))
 fn:W.isFn K (.ref f)=true
 kp:W.keepIn K (.ref C)=true
theorem GQ{jr:List (Addr×Obj)}{σ:St}{H:Hp}{s:Shared}{Q:VK}{us:List Value}{vs:List V}(M:Mk X.K C f)(F:bN X.prog X.w X.K X.mg X.base CX k f fd ps sp)(hr:d4 (k+1) X.A)(hb:Binds X.K fd ps ds)(hd:Vals qz ds)
  (hx:Passes CX X E) (I:Inv X jr σ H s) (r:Vals vs us)
  (h:∀x dx,H x=none->H dx=none->dx≠x->sp (.ref x::(vs++qz)) (upd (upd H dx (.own x)) x (.ins C dx [])) (fun v H2=>v=.non/\Q (.ref x) H2) E):
  wpAny (model X.prog X.w) X.A (call (.ref C) us) (EP X jr σ Q) X.xe s:=by
 have hq:=h (s.heap.objs.size+1) s.heap.objs.size (I.hok.fresh (Nat.le_succ _)) (I.hok.fresh (ax _)) (da (Nat.lt_succ_self _));have I2:=Inv.made (C:=C) I;have r2:Vals (V.ref (s.heap.objs.size+1)::(vs++qz)) (Value.ref (s.heap.objs.size+1)::(us++ds)):=.cons rfl (r.append hd);have hl:(Value.ref (s.heap.objs.size+1)::us++ds).length=ps.length:=by have e:=r2.length;rw[F.len _ _ _ _ hq]at e;exact e.symm
 refine wpAny_call (I0 (f:=f) I.kIn M.makes M.init (beq_iff_eq.mp M.fn) (codeAny_mono (F.run _ X.stack _ _ ⟨Value.ref (s.heap.objs.size+1)::us,[]⟩ (Value.ref (s.heap.objs.size+1)::(us++ds)) _ _ E (hr.make C us [])
  (I2.J1.make C us []) (hb _ (Value.ref (s.heap.objs.size+1)::us) I2.kIn hl) r2 hq) fun r s' pf=>?_))
 cases r with
 |error e=>exact hx jr σ _ _ e s' I2 pf
 |ok fl=>
  cases fl with
  |ret u=>obtain⟨v,H',I3,rv,ev,q3⟩:=I2.after pf;subst ev;exact⟨rv,⟨V.ref (s.heap.objs.size+1),H',I3,rfl,q3⟩⟩
  |next=>exact False.elim pf
  |brk=>exact False.elim pf
  |cont=>exact False.elim pf
theorem JW(M:Mk X.K C f)(F:bN X.prog X.w X.K X.mg X.base CX k f fd ps sp)(hr:d4 (k+1) X.A)(hg:Gl X x)(hm:X.mg x=some (.ref C))(hb:Binds X.K fd ps ds)(hd:Vals qz ds)(hx:Passes CX X E)
  (ha:PA X (e::es) t) (uj:(x==("__debug__" : Str))=false:=by decide) (he:starEach (e::es) X.env=(false,eval e X.env)::starEach es X.env:=by rfl) (sf:(backTo pos (starEach es X.env)).any (·.1)=false:=by rfl):
  PE X (.Call (.Name x p) (e::es) [] pos) (NT C sp qz E t):=by
 intro jr s σ H Q I h;refine wpAny_Call_Name_kw (jB I hg hm ?_ uj);refine W.callWith_K (h₀:=X.base) I.ok.mod.kin M.kp (thn (ha pos jr s σ H _ I h) fun us s1 ⟨vs,H1,I1,r,q⟩=>⟨I1.kIn,?_⟩) he sf;exact GQ M F hr hb hd hx I1 r q
end
structure aM(N P:List Str)(sc:Scope):Prop where
 kind:sc.kind=.function
 co:sc.isCoroutine=false
 gen:sc.isGenerator=false
 nd:N.Nodup
 pre:N.take P.length=P
 par:∀x∈P,sc.names.lookup x=some .local\/sc.names.lookup x=some .cell
 MH:∀y∈sc.names,y.2≠ .free
theorem w9{kindOf:Str->Option NameKind}{x:Str}:∀{binds:List (Str×Value)}{m:Str->Option Value},(∀v,(x,v)∉binds)->bindL kindOf binds m x=m x
 |[],_,_=>rfl
 |(n,v)::r,m,h=>by
  unfold bindL;rw[w9 fun w hw=>h w (au _ hw)];split
  ·have:x≠n:=by rintro rfl;exact h v bh
   simp[this]
  ·rfl
theorem wC{kindOf:Str->Option NameKind}{x:Str}:∀{binds:List (Str×Value)}{m:Str->Option Value},(∀v,(x,v)∉binds)->bindC kindOf binds m x=m x
 |[],_,_=>rfl
 |(n,v)::r,m,h=>by
  unfold bindC;rw[wC fun w hw=>h w (au _ hw)];split
  ·rfl
  ·have:x≠n:=by rintro rfl;exact h v bh
   simp[this]
theorem wB{kindOf:Str->Option NameKind}{x:Str}{v:Value}:∀{P:List Str}{vs:List Value}{i:Nat}{m:Str->Option Value},P.Nodup->P[i]? =some x->vs[i]? =some v->kindOf x=some .local ->
  bindL kindOf (P.zip vs) m x=some v
 |[],_,_,_,_,h,_,_=>by simp at h
 |_::_,[],_,_,_,_,h,_=>by simp at h
 |p::P,w::vs,0,m,nd,h1,h2,hk=>by
  simp at h1 h2;subst h1;subst h2;show bindL kindOf ((p,w)::P.zip vs) m p=_
  unfold bindL;rw[w9 fun v hv=>(dc.mp nd).1 (of_mem_zip hv).1,ag hk];simp
 |p::P,w::vs,i+1,m,nd,h1,h2,hk=>by
  show bindL kindOf ((p,w)::P.zip vs) m x=_
  unfold bindL;exact wB (i:=i) (dc.mp nd).2 (by simpa using h1) (by simpa using h2) hk
theorem wD{kindOf:Str->Option NameKind}{x:Str}{v:Value}:∀{P:List Str}{vs:List Value}{i:Nat}{m:Str->Option Value},P.Nodup->P[i]? =some x->vs[i]? =some v->kindOf x≠some .local ->
  bindC kindOf (P.zip vs) m x=some v
 |[],_,_,_,_,h,_,_=>by simp at h
 |_::_,[],_,_,_,_,h,_=>by simp at h
 |p::P,w::vs,0,m,nd,h1,h2,hk=>by
  simp at h1 h2;subst h1;subst h2;show bindC kindOf ((p,w)::P.zip vs) m p=_
  unfold bindC;rw[wC fun v hv=>(dc.mp nd).1 (of_mem_zip hv).1,af hk];simp
 |p::P,w::vs,i+1,m,nd,h1,h2,hk=>by
  show bindC kindOf ((p,w)::P.zip vs) m x=_
  unfold bindC;exact wD (i:=i) (dc.mp nd).2 (by simpa using h1) (by simpa using h2) hk
noncomputable def start(N:List Str)(vs:List V):St:=vs.map some++List.replicate (N.length - vs.length) none
noncomputable def uN(CX:CXT)(P:Program)(w:World)(K:W.Frag)(mg:Str->Option Value)(base:Heap)(N:List Str)(qual:Str)(scope:Scope)(f:Addr)(cd:Value)(A:Around)(outer:List Env)(s:Shared)(H:Hp)(E:XK):Cx where
 prog:=P
 w:=w
 K:=K
 mg:=mg
 base:=base
 A:=A.deeper (envOfC qual scope s.heap.objs.size f cd)
 N:=N
 s_0:=s
 H_0:=H
 env:=envOfC qual scope s.heap.objs.size f cd
 outer:=outer
 stack:=envOfC qual scope s.heap.objs.size f cd::outer
 ex:=[]
 calm:=true
 fn:=fun _=>true
 pn:=[]
 xe:=fun e s'=>wpAny (model P w) (A.deeper (envOfC qual scope s.heap.objs.size f cd)) (leaving (envOfC qual scope s.heap.objs.size f cd) e) (fun _ yo=>CX outer H s E e yo) (fun e' yo=>CX outer H s E e' yo) s'
theorem A8{sc:Scope}{n:Nat}{x:Str}(h:sc.names.lookup x=some .cell):∃c,(cellsFrom n sc.names []).lookup x=some c:=by have q:=W.cellsFrom_some sc.names n [] (.inl h);exact Option.isSome_iff_exists.mp q
theorem pS{CX:CXT}{P:Program}{w:World}{K:W.Frag}{mg:Str->Option Value}{base:Heap}{N ps:List Str}{qual:Str}{scope:Scope}{f:Addr}{cd:Value}{A:Around}{outer:List Env}{s s1:Shared}{H:Hp}{E:XK}{us:List Value}{vs:List V}
  (S:aM N ps scope) (hd:A.handled=none) (e0:oU P w K mg base A outer s H) (hl:vs.length=ps.length) (r:Vals vs us)
  (x:InCallC s s.heap.objs.size (bindL (envOfC qual scope s.heap.objs.size f cd).kindOf (ps.zip us) fun _=>none) (cellsFrom (s.heap.objs.size+1) scope.names []) (bindC (envOfC qual scope s.heap.objs.size f cd).kindOf (ps.zip us) fun _=>none) s1):
  Inv (uN CX P w K mg base N qual scope f cd A outer s H E) [] (start N vs) H s1:=by
 have sf:ps.length<=N.length:=by have:=congrArg List.length S.pre;rw[bz]at this;omega
 obtain⟨h1,tk,rfl,hk⟩:=x.done;have noA:∀b:Addr,b∉ (uN CX P w K mg base N qual scope f cd A outer s H E).ex:=fun b z=>absurd (show b∈([]:List Addr)from z) (by simp)
 refine⟨⟨e0.mod,S.kind,rfl,rfl,ax _,fun y z c h1 h2=>?_,fun y hy=>?_,fun y c _ h=>?_,fun _=>hd,Around.frames_deeper e0.frames,.inr ⟨rfl,rfl⟩,fun b z=>absurd z (noA b),e0.bs,e0.bsz,fun b _ _=>noA b,fun b z=>absurd z (noA b),e0.kL,e0.frf⟩,
  rfl,e0.bare,Un.kept hk,⟨_,x.toInCall.ns,fun i y v h1 h2 h3=>?_⟩,fun y c h=>⟨_,x.cell y c h⟩,e0.hok.fresh (ax _),fun y c h=>?_,fun p hp=>absurd (show p∈([]:List (Addr×Obj))from hp) (by simp),e0.hok.kept hk,?_⟩
 ·exact name_of_addr x.apart (PySem.mem_of_lookup h1) (PySem.mem_of_lookup h2)
 ·have hy:scope.names.lookup y=some .cell\/scope.names.lookup y=some .free:=hy;rcases hy with hy|hy
  ·exact A8 hy
  ·exact absurd rfl (S.MH _ (PySem.mem_of_lookup hy))
 ·exact le_of_lt (x.above y c (PySem.mem_of_lookup h))
 ·have hi:i<vs.length:=by
   unfold start at h2;by_cases hi:i<vs.length
   ·exact hi
   ·rw[dm (by simpa using hi)]at h2;rw[List.getElem?_replicate]at h2;split at h2<;>cases h2
  have ha:vs[i]? =some v:=by
   unfold start at h2;rw[gj (by simpa using hi),bc]at h2;cases e:vs[i]? with
   |none=>rw[e]at h2;cases h2
   |some a=>rw[e]at h2;cases h2;rfl
  obtain⟨u,hu,rv⟩:=r.get ha;have hp:ps[i]? =some y:=by rw[<- S.pre,fy (by omega)];exact h1
  have ndP:ps.Nodup:=by rw[<- S.pre];exact S.nd.sublist (List.take_sublist _ _)
  refine⟨u,rv,?_⟩;rcases S.par y (az hp)with k|k
  ·exact .inl ⟨k,wB ndP hp hu k⟩
  ·obtain⟨c,e⟩:=A8 (n:=s.heap.objs.size+1) k;refine .inr ⟨.inl k,c,e,?_⟩;have q:=x.cell y c e;rw[wD ndP hp hu (by show scope.names.lookup y≠ _;rw[k];decide)]at q;exact q
 ·exact e0.hok.fresh (le_of_lt (x.above y c (PySem.mem_of_lookup h)))
 ·unfold start;show _=N.length
  rw[aj,ai,List.length_replicate];omega
theorem SA{CX:CXT}{P:Program}{w:World}{K:W.Frag}{mg:Str->Option Value}{base:Heap}{k:Nat}{f:Addr}{name qual:Str}{params:Arguments}{body:List Stmt}{scope:Scope}{dV kV md pm jx ct oc:Value}{an od:Option Addr}
  {mw:Array (Option Value)}{N ps:List Str}{sp:Sp} (lk:K.lookup f=some ⟨oc,od,.func (W.fnOf name qual params body scope dV kV md pm an jx ct),mw⟩) (om:W.codeIn K jx qual=true) (S:aM N ps scope)
  (len:∀vs H Q E,sp vs H Q E->vs.length=ps.length)
  (lz:∀(A:Around)(outer:List Env)(s:Shared)(H:Hp)(vs:List V)(Q:VK)(E:XK),d4 k (A.deeper (envOfC qual scope s.heap.objs.size f jx))->sp vs H Q E ->
   ∃t,PSs (uN CX P w K mg base N qual scope f jx A outer s H E) body t/\t {nx:=fun _ H'=>Q .non H',rt:=Q} (start N vs) H):
  bN P w K mg base CX (k+1) f (W.fnOf name qual params body scope dV kV md pm an jx ct) ps sp:=by
 refine⟨len,fun A outer s H args us vs Q E hr e0 hb r uf=>?_⟩;have hl:=len _ _ _ _ uf;have KX:K.In s.heap:=e0.mod.kin.keeps fun b o e=>(e0.bs b o e).1
 have yw:s.heap.NoLimit:=e0.mod.nolimit.keeps fun b o e=>(e0.bs b o e).1
 have qg:∀y∈ps.zip us,scope.names.lookup y.1=some .local\/(scope.names.lookup y.1=some .cell/\((cellsFrom (s.heap.objs.size+1) scope.names []).lookup y.1).isSome=true):=fun⟨n,v⟩ hy=>by
  rcases S.par n (of_mem_zip hy).1 with q|q
  ·exact .inl q
  ·exact .inr ⟨q,W.cellsFrom_some _ _ _ (.inl q)⟩
 refine codeAny_call_function hr.depth (KX _ _ lk) rfl S.co S.gen rfl (W.codeRec_of KX om) (hb _ _ _ _ ?_);refine wpAny_newFunctionEnv_cells S.kind qg fun env he s1 x=>?_
 subst he;refine⟨yw.keeps x.toInCall.keep,codeAny_func ?_⟩;obtain⟨t,ht,hq⟩:=lz A outer s H vs Q E (hr.deeper _) uf;have I:Inv (uN CX P w K mg base N qual scope f jx A outer s H E) [] (start N vs) H s1:=pS S hr.hd e0 hl r x;refine wpAny_mono (ht [] s1 (start N vs) H _ I hq) (fun fl s' hs=>?_) fun e s' hs=>hs
 have fin:∀{σ':St}{H':Hp}{v:V}{u:Value},Inv (uN CX P w K mg base N qual scope f jx A outer s H E) [] σ' H' s'->RelV v u->Q v H'->CE outer P w H s Q u s':=
  fun{σ' H' v u} J rv q=>⟨v,H',J.os,J.bare,J.base,J.hok,rv,q⟩
 cases fl with
 |ret u=>obtain⟨v,σ',H',J,rv,q⟩:=hs;exact fin J rv q
 |next=>obtain⟨σ',H',J,q⟩:=hs;exact fin (v:=V.non) (u:=Value.none) J rfl q
 |brk=>obtain⟨_,_,_,q⟩:=hs;exact False.elim q
 |cont=>obtain⟨_,_,_,q⟩:=hs;exact False.elim q
section
variable {X:Cx}{x:Str}{p pos:Pos}{e:Expr}{es:List Expr}{t:TA}{id T:String}{r:List V->Hp->VK->Prop}
noncomputable def tCB(r:List V->Hp->VK->Prop)(t:TA):TE:=fun σ H Q=>t σ H fun vs H1=>r vs H1 Q
theorem bY(hc:lC X (.builtin id) r)(hg:Gl X x)(hm:X.mg x=none)(hv:bootBuiltins x=some (.builtin id))(ha:PA X (e::es) t)(hn:x≠ "__name__" :=by decide)(uj:(x==("__debug__" : Str))=false:=by decide)
  (he:starEach (e::es) X.env=(false,eval e X.env)::starEach es X.env:=by rfl) (sf:(backTo pos (starEach es X.env)).any (·.1)=false:=by rfl):PE X (.Call (.Name x p) (e::es) [] pos) (tCB r t):=by
 intro jr s σ H Q I h;refine wpAny_Call_Name_kw (pP I hg hm hv ?_ hn uj);exact PyProof.Rows.callWith_builtin1 (thn (ha pos jr s σ H _ I h) fun us s1 ⟨vs,H1,I1,r1,q1⟩=>hc jr s1 σ H1 vs us Q I1 r1 q1) he sf
theorem pJ(hc:lC X (.type T) r)(hg:Gl X x)(hm:X.mg x=none)(hv:bootBuiltins x=some (.type T))(ha:PA X (e::es) t)(hn:x≠ "__name__" :=by decide)(uj:(x==("__debug__" : Str))=false:=by decide)
  (he:starEach (e::es) X.env=(false,eval e X.env)::starEach es X.env:=by rfl) (sf:(backTo pos (starEach es X.env)).any (·.1)=false:=by rfl):PE X (.Call (.Name x p) (e::es) [] pos) (tCB r t):=by
 intro jr s σ H Q I h;refine wpAny_Call_Name_kw (pP I hg hm hv ?_ hn uj);exact PyProof.Rows.callWith_type1 (thn (ha pos jr s σ H _ I h) fun us s1 ⟨vs,H1,I1,r1,q1⟩=>hc jr s1 σ H1 vs us Q I1 r1 q1) he sf
end
end L2
namespace HT
open PySem PyProof.Rows
section
variable {prog:Program}{w:World}{A:Around}{E:Value->Shared->Prop}{s:Shared}
noncomputable def sIx(n d:Nat):Option Int->Nat
 |none=>d
 |some v=>if v<0 then(v+(n:Int)).toNat else min v.toNat n
end
end HT
namespace L2
open PySem PySem.Spec PyProof.Rows
abbrev TO:=St->Hp->(Option Int->Hp->Prop)->Prop
noncomputable def PO(X:Cx)(e:Option Expr)(t:TO):Prop:=
 ∀(jr:List (Addr×Obj))(s:Shared)(σ:St)(H:Hp)(Q:Option Int->Hp->Prop),Inv X jr σ H s->t σ H Q ->
  wpAny (model X.prog X.w) X.A (evalPart e X.env) (fun u s'=>∃o H',Inv X jr σ H' s'/\IsPart u o/\Q o H') X.xe s
def JM:TO:=fun _ H Q=>Q none H
def NQ(t:TE):TO:=fun σ H Q=>t σ H fun x H1=>∃i,x=.int i/\Q (some i) H1
section
variable {X:Cx}{e:Expr}{te:TE}{lo hi:Option Expr}{tl th:TO}{pos p2:Pos}
theorem JU:PO X none JM:=by intro jr s σ H Q I h;rw[evalPart_none];exact ah ⟨none,H,I,.none,h⟩
theorem JT(h:PE X e te):PO X (some e) (NQ te):=by
 intro jr s σ H Q I hw;rw[evalPart_some];refine thn (h jr s σ H _ I hw) fun u s1 ⟨x,H1,I1,r1,q1⟩=>?_
 obtain⟨i,rfl,q⟩:=q1;obtain⟨t,rfl⟩:=r1;exact⟨some i,H1,I1,.int i t,q⟩
noncomputable def SlR(X:Cx)(r:V->Option Int->Option Int->Hp->VK->Prop):Prop:=
 ∀(jr:List (Addr×Obj))(s:Shared)(σ:St)(H:Hp)(x:V)(v vl vu:Value)(lo hi:Option Int)(sl:Addr)(Q:VK),Inv X jr σ H s->RelV x v->s.heap.IsSliceOf sl vl vu .none->IsPart vl lo->IsPart vu hi->r x lo hi H Q ->
  ∃T id,typeLookup (.type T) "__getitem__" =pure (some (.builtin id))/\s.TypeIs v T/\wpAny (model X.prog X.w) X.A (getItem v (.ref sl)) (EP X jr σ Q) X.xe s
noncomputable def tSl(r:V->Option Int->Option Int->Hp->VK->Prop)(te:TE)(tl th:TO):TE:=fun σ H Q=>te σ H fun x H1=>tl σ H1 fun l H2=>th σ H2 fun u H3=>r x l u H3 Q
theorem HE{r:V->Option Int->Option Int->Hp->VK->Prop}(hr:SlR X r)(he:PE X e te)(hl:PO X lo tl)(hu:PO X hi th):PE X (.Subscript e (.Slice lo hi none p2) pos) (tSl r te tl th):=by
 intro jr s σ H Q I h;refine Subscript_ (thn (he jr s σ H _ I h) fun v s1 ⟨x,H1,I1,r1,q1⟩=>?_);refine wpAny_Slice (thn (hl jr s1 σ H1 _ I1 q1) fun vl s2 ⟨l,H2,I2,pl,q2⟩=>thn (hu jr s2 σ H2 _ I2 q2) fun vu s3 ⟨u,H3,I3,pu,q3⟩=>?_);rw[evalPart_none];refine ah ?_;have I4:Inv X jr σ H3 {s3 with heap:=s3.heap.push {cls:=.type "slice",data:=.fields #[vl,vu,.none]}}:=I3.kept (t':=s3.toks) fun b ob q=>aq _ q
 obtain⟨T,id,hT,ht,hg⟩:=hr jr {s3 with heap:=s3.heap.push {cls:=.type "slice",data:=.fields #[vl,vu,.none]}} σ H3 x v vl vu l u s3.heap.objs.size Q I4 r1 (Heap.IsSliceOf.new ..) pl pu q3;show wpAny (model X.prog X.w) X.A (subscriptTail e (.Slice lo hi none p2) v (.ref s3.heap.objs.size)) (EP X jr σ Q) X.xe {s3 with heap:=s3.heap.push {cls:=.type "slice",data:=.fields #[vl,vu,.none]}}
 exact tail_any (ops:=[.ref s3.heap.objs.size,v]) ht hT hg (by with_unfolding_all rfl)
noncomputable def FU(xs:List V)(lo hi:Option Int):List V:=(xs.drop (HT.sIx xs.length 0 lo)).take (HT.sIx xs.length xs.length hi - HT.sIx xs.length 0 lo)
theorem A5(xs:List V)(lo hi:Option Int):(FU xs lo hi).length<=xs.length:=by unfold FU;rw[bz,fj];omega
end
noncomputable def ixN(n:Nat)(i:Int):Option Nat:=if 0<=i then(if i<n then some i.toNat else none)else if -(n:Int)<=i then some (i+n).toNat else none
def atI{α:Type}(xs:List α)(i:Int):Option α:=(ixN xs.length i).bind fun j=>xs[j]?
theorem KD{n:Nat}{i:Int}{j:Nat}(h:ixN n i=some j):seqIndex? i n=some j/\j<n/\-(n:Int)<=i/\i<n:=by
 unfold ixN at h;by_cases h0:0<=i
 ·rw[ag h0]at h;by_cases h1:i<n
  ·rw[ag h1]at h;have e:i.toNat=j:=Option.some.inj h;exact⟨by rw[seqIndex_of h0 h1,e],by omega,by omega,h1⟩
  ·rw[af h1]at h;cases h
 ·rw[af h0]at h;by_cases h1:-(n:Int)<=i
  ·rw[ag h1]at h;have e:(i+n).toNat=j:=Option.some.inj h;exact⟨by rw[seqIndex_neg (by omega) h1,e],by omega,h1,by omega⟩
  ·rw[af h1]at h;cases h
theorem DX{α:Type}{xs:List α}{i:Int}{v:α}(h:atI xs i=some v):∃j,seqIndex? i xs.length=some j/\xs[j]? =some v/\j<xs.length/\-(xs.length:Int)<=i/\i<xs.length:=by
 unfold atI at h;cases e:ixN xs.length i with
 |none=>rw[e]at h;cases h
 |some j=>rw[e]at h;obtain⟨h1,h2,h3,h4⟩:=KD e;exact⟨j,h1,h,h2,h3,h4⟩
theorem L8{α:Type}{xs:List α}{j:Nat}{v:α}(h:xs[j]? =some v):atI xs (j:Int)=some v:=by
 have hj:j<xs.length:=(ao.mp h).1;have e:ixN xs.length (j:Int)=some j:=by unfold ixN;rw[ag (by omega),ag (by omega)];simp
 unfold atI;rw[e];exact h
def LD(b:Expr):Prop:=∀o i,subscripted b false o i=operate [o,i] (getItem o i)
noncomputable def IxR(X:Cx)(r:R2):Prop:=
 ∀(kj slice:Expr)(jr:List (Addr×Obj))(s:Shared)(σ:St)(H:Hp)(x y:V)(v u:Value)(Q:VK),Inv X jr σ H s->RelV x v->RelV y u->r x y H Q ->
  subscripted slice false v u=operate [v,u] (getItem v u)->wpAny (model X.prog X.w) X.A (subscriptTail kj slice v u) (EP X jr σ Q) X.xe s
noncomputable def MtR(X:Cx)(id:String)(r:V->List V->Hp->VK->Prop):Prop:=
 ∀(jr:List (Addr×Obj))(s:Shared)(σ:St)(H:Hp)(x:V)(xs:List V)(v:Value)(us:List Value)(Q:VK),Inv X jr σ H s->RelV x v->Vals xs us->r x xs H Q ->
  wpAny (model X.prog X.w) X.A (call (.builtin id) (v::us)) (EP X jr σ Q) X.xe s
section
variable {X:Cx}{a b:Expr}{ta tb:TE}{pos:Pos}
theorem bH{r:R2}(hr:IxR X r)(ha:PE X a ta)(hb:PE X b tb)(hs:LD b):PE X (.Subscript a b pos) (tOp r ta tb):=by intro jr s σ H Q I h;exact Subscript_ (NG ha hb I h fun v u s2 x y H2 I2 rx ry q=>hr a b jr s2 σ H2 x y v u Q I2 rx ry q (hs _ _))
noncomputable def TC(K:W.Frag):R2:=fun x y H Q=>∃p xs i v,x=.ref p/\y=.int i/\SqL K H p xs/\atI xs i=some v/\Q v H
noncomputable def TB(K:W.Frag):R2:=fun x y H Q=>∃p xs i v,x=.ref p/\y=.int i/\SqT K H p xs/\atI xs i=some v/\Q v H
theorem jD:IxR X (TC X.K):=by
 intro kj slice jr s σ H x y v u Q I rx ry h hs;obtain⟨p,xs,i,z,rfl,rfl,hq,he,q⟩:=h;cases rx;obtain⟨t,rfl⟩:=ry;obtain⟨its,r,pl,hz⟩:=I.list hq;obtain⟨j,h1,h2,h3,h4,h5⟩:=DX he;obtain⟨w,ew,rl⟩:=r.get h2;have hl:=r.length;have hn:=tH;have fin:EP X jr σ Q w s:=⟨z,H,I,rl,q⟩;by_cases h0:0<=i
 ·have hj:i.toNat=j:=by rw[seqIndex_of h0 h5]at h1;exact Option.some.inj h1
  exact item_listR pl.isList h0 (by omega) (by rw[hj];simpa using ew) fin hs
 ·have hj:(i+(its.toArray.size:Int)).toNat=j:=by rw[seqIndex_neg (by omega) h4]at h1;rw[bg,<- hl];exact Option.some.inj h1
  exact subscriptTail_builtinR (x:=w) pl.isList.typeIs slot_list_getitem.lookup
   (wpAny_getItem_list_neg (Q:=fun r s'=>r=w/\EP X jr σ Q r s') pl.isList (by omega) (by rw[bg]<;>omega) (by omega) (by rw[hj];simpa using ew) ⟨rfl,fin⟩) hs
theorem bD:IxR X (TB X.K):=by
 intro kj slice jr s σ H x y v u Q I rx ry h hs;obtain⟨p,xs,i,z,rfl,rfl,hq,he,q⟩:=h;cases rx;obtain⟨t,rfl⟩:=ry;obtain⟨its,r,pl,hz⟩:=I.tuple hq;obtain⟨j,h1,h2,h3,h4,h5⟩:=DX he;obtain⟨w,ew,rl⟩:=r.get h2;have hl:=r.length;have hn:=tH;have fin:EP X jr σ Q w s:=⟨z,H,I,rl,q⟩;exact subscriptTail_builtinR (x:=w) pl.typeIs slot_tuple_getitem.lookup
  (getItem_tuple (j:=j) (Q:=fun r s'=>r=w/\EP X jr σ Q r s') pl (by omega) (by omega) (by rw[bg,<- hl];exact h1) (by simpa using ew) ⟨rfl,fin⟩) hs
theorem wQ(lo hi:Option Int)(n:Nat):(sliceBounds lo hi none n).1=((HT.sIx n 0 lo:Nat):Int)/\(sliceBounds lo hi none n).2.1=((HT.sIx n n hi:Nat):Int)/\(sliceBounds lo hi none n).2.2=1:=by
 refine⟨?_,?_,rfl⟩
 ·cases lo with
  |none=>simp[sliceBounds,HT.sIx]
  |some i=>
   simp only[sliceBounds,HT.sIx,Option.getD_none,show(1:Int)>0 by decide,if_true];by_cases h:i<0
   ·simp only[h,if_true]<;>omega
   ·simp only[h,if_false]<;>omega
 ·cases hi with
  |none=>simp[sliceBounds,HT.sIx]
  |some i=>
   simp only[sliceBounds,HT.sIx,Option.getD_none,show(1:Int)>0 by decide,if_true];by_cases h:i<0
   ·simp only[h,if_true]<;>omega
   ·simp only[h,if_false]<;>omega
theorem uF(its:List Value)(lo hi:Option Int):slicePick its.toArray lo hi none=((its.drop (HT.sIx its.length 0 lo)).take (HT.sIx its.length its.length hi - HT.sIx its.length 0 lo)).toArray:=by obtain⟨h1,h2,h3⟩:=wQ lo hi its.toArray.size;unfold slicePick;rw[h1,h2,h3];simp only[sliceRange_one,pick_run,bg]<;>rfl
noncomputable def T6(K:W.Frag):V->Option Int->Option Int->Hp->VK->Prop:=fun x lo hi H Q=>∃a xs,x=.ref a/\SqL K H a xs/\∀p,H p=none->Q (.ref p) (upd H p (.lst (FU xs lo hi)))
theorem JQ:SlR X (T6 X.K):=by intro jr s σ H x v vl vu lo hi sl Q I rx hs pl pu h;obtain⟨a,xs,rfl,hx,q⟩:=h;cases rx;obtain⟨its,r,ht,hz⟩:=I.list hx;have kc:=r.length;refine⟨"list",_,slot_list_getitem.lookup,ht.isList.typeIs,?_⟩;refine wpAny_getItem_list_slice ht.isList hs pl pu .none (by simp) ?_ (by rw[bg]<;>omega);rw[uF,<- kc];refine⟨.ref s.heap.objs.size,_,I.laid (t':=s.toks) (o:=.lst (FU xs lo hi)) (fun b ob q=>aq _ q) (ax _) ?_,rfl,q _ (I.hok.fresh (ax _))⟩;exact⟨dj (A5 xs lo hi) hz,_,0,(r.drop (HT.sIx xs.length 0 lo)).take (HT.sIx xs.length xs.length hi - HT.sIx xs.length 0 lo),bb _ rfl⟩
theorem c7:lC X (.builtin "len") (fun xs H Q=>∃p ys,xs=[.ref p]/\(SqL X.K H p ys\/SqT X.K H p ys)/\Q (.int ys.length) H):=by
 intro jr s σ H xs us Q I r h;obtain⟨p,ys,rfl,hq,q⟩:=h;obtain⟨u,rfl,rx⟩:=vals1 r;cases rx;have hn:=tH;rcases hq with hq|hq
 ·obtain⟨its,r',pl,hz⟩:=I.list hq;have kc:=r'.length;exact Calls.call_len_list pl.isList (by simp only[bg]<;>omega) ⟨.int ys.length,H,I.tok _,⟨s.toks+1,by rw[bg,kc]⟩,q⟩
 ·obtain⟨its,r',pl,hz⟩:=I.tuple hq;have kc:=r'.length;exact len_tuple pl (by simp only[bg]<;>omega) ⟨.int ys.length,H,I.tok _,⟨s.toks+1,by rw[bg,kc]⟩,q⟩
theorem xU:lC X (.type "list") (fun xs H Q=>∃p ys,xs=[.ref p]/\(SqL X.K H p ys\/SqT X.K H p ys)/\∀l,H l=none->Q (.ref l) (upd H l (.lst ys))):=by
 intro jr s σ H xs us Q I r h;obtain⟨p,ys,rfl,hq,q⟩:=h;obtain⟨u,rfl,rx⟩:=vals1 r;cases rx;have fin:∀(its:List Value),Vals ys its->ys.length<=sizeLine->∀(h':Heap)(c':Nat),(∀b o',s.heap.get? b=some o'->h'.get? b=some o') ->
   h'.get? s.heap.objs.size=some {cls:=.type "list",dict:=none,data:=.seq its.toArray c',slots:=#[]}->EP X jr σ Q (.ref s.heap.objs.size) {s with heap:=h'}:=fun its r' hz h' c' kp e=>
  ⟨.ref s.heap.objs.size,_,I.laid (t':=s.toks) kp (ax _) (show d9 X.prog X.w _ h' _ (.lst ys)from⟨hz,its,c',r',e⟩),rfl,q _ (I.hok.fresh (ax _))⟩
 rcases hq with hq|hq
 ·obtain⟨its,r',pl,hz⟩:=I.list hq;have kc:=r'.length;obtain⟨o,ho,hc,n,hd⟩:=pl.isList;exact call_list_seq p (.inl rfl) ho hc hd (fun h' c' kp e=>fin its r' hz h' c' kp e) (by simp only[bg]<;>omega)
 ·obtain⟨its,r',pl,hz⟩:=I.tuple hq;have kc:=r'.length;obtain⟨o,ho,hc,n,hd⟩:=pl;exact call_list_seq p (.inr rfl) ho hc hd (fun h' c' kp e=>fin its r' hz h' c' kp e) (by simp only[bg]<;>omega)
noncomputable def tyV(K:W.Frag)(T:String)(x:V)(H:Hp):Prop:=match x with
 | .str _=>T= "str"
 | .int _=>T= "int"
 | .ref p=>(T= "list" /\∃xs,SqL K H p xs)\/(T= "tuple" /\∃o,K.lookup p=some o/\o.cls=.type "tuple" /\o.dict=none)\/
   (T= "dict" /\((∃kvs,H p=some (.dK kvs))\/∃kvs,H p=some (.dT kvs)))\/(T= "set" /\∃S n,H p=some (.set S n))
 |_=>False
theorem GD{jr:List (Addr×Obj)}{σ:St}{H:Hp}{s:Shared}{T:String}{x:V}{v:Value}(I:Inv X jr σ H s)(r:RelV x v)(ty:tyV X.K T x H):
  s.TypeIs v T/\∀a,v=.ref a->∃ob,s.heap.get? a=some ob/\ob.dict=none:=by
 cases x with
 |str z=>obtain⟨t,rfl⟩:=r;cases (show T= "str" from ty);exact⟨typeIs_str s z t,fun _ e=>nomatch e⟩
 |int i=>obtain⟨t,rfl⟩:=r;cases (show T= "int" from ty);exact⟨typeIs_int s i t,fun _ e=>nomatch e⟩
 |ref p=>
  cases r;rcases ty with⟨rfl,xs,hq⟩|⟨rfl,o,hk,hc,hd⟩|⟨rfl,hk⟩|⟨rfl,S,n,hk⟩
  ·obtain⟨its,_,pl,_⟩:=I.list hq;refine⟨pl.isList.typeIs,fun a e=>?_⟩;cases e;obtain⟨o,n,e,c,hd,_⟩:=pl;exact⟨o,e,hd⟩
  ·refine⟨⟨o,I.kIn p o hk,hc⟩,fun a e=>?_⟩;cases e;exact⟨o,I.kIn _ o hk,hd⟩
  ·have z:∃o,s.heap.get? p=some o/\o.ExactDict:=by
    rcases hk with⟨kvs,hk⟩|⟨kvs,hk⟩
    ·obtain⟨_,_,_,_,o,_,_,e,ex,_⟩:=I.hok p _ hk;exact⟨o,e,ex⟩
    ·obtain⟨_,_,_,_,o,_,_,e,ex,_⟩:=I.hok p _ hk;exact⟨o,e,ex⟩
   obtain⟨o,e,ex⟩:=z;refine⟨⟨o,e,ex.1⟩,fun a e2=>?_⟩;cases e2;exact⟨o,e,ex.2.1⟩
  ·obtain⟨o,_,_,_,e,ex,_⟩:=I.hok p _ hk;refine⟨⟨o,e,ex.1⟩,fun a e2=>?_⟩;cases e2;exact⟨o,e,ex.2.1⟩
 |_=>exact False.elim ty
noncomputable def SV(K:W.Frag)(T:String)(r:V->List V->Hp->VK->Prop)(to:TE):TE:=fun σ H Q=>to σ H fun x H1=>tyV K T x H1/\r x [] H1 Q
noncomputable def tBM(K:W.Frag)(T:String)(r:V->List V->Hp->VK->Prop)(to:TE)(t:TA):TE:=fun σ H Q=>to σ H fun x H1=>tyV K T x H1/\t σ H1 fun xs H2=>r x xs H2 Q
variable {o e:Expr}{es:List Expr}{to:TE}{t:TA}{name:Str}{lh jy:Pos}{T id:String}{r:V->List V->Hp->VK->Prop}
theorem B7(pa:PlainAttrs T)(slot:Slot T name id)(Ca:typeOf (.builtin id)=pure (.type "method_descriptor"))(hm:MtR X id r)(ho:PE X o to)
  (nj:attributeBase o name X.env (eval o X.env)=eval o X.env:=by rfl) (qc:(lh.endLine==jy.line)=true:=by rfl):PE X (.Call (.Attribute o name lh) [] [] jy) (SV X.K T r to):=by
 intro jr s σ H Q I h;refine wpAny_Call_method0_late nj qc (thn (ho jr s σ H _ I h) fun v s1 ⟨x,H1,I1,r1,ty,q1⟩=>?_);obtain⟨h1,h2⟩:=GD I1 r1 ty;exact⟨T,id,pa,slot,Ca,h1,h2,Calls.callWith_builtin rfl (PySem.evalArgs_none (hm jr s1 σ H1 x [] v [] Q I1 r1 .nil q1))⟩
theorem gX(pa:PlainAttrs T)(slot:Slot T name id)(Ca:typeOf (.builtin id)=pure (.type "method_descriptor"))(hm:MtR X id r)(ho:PE X o to)(ha:PA X (e::es) t)
  (nj:attributeBase o name X.env (eval o X.env)=eval o X.env:=by rfl)
  (hfew:((backTo jy (starEach (e::es) X.env)).all (fun x=>!x.1)&& (backToKw jy (keywordEach [] X.env)).all (fun x=>x.1.isSome)
   && decide ((e::es).length+([]:List Keyword).length+(if([]:List Keyword).isEmpty then 0 else 1)<30))=true:=by rfl)
  (qc:(lh.endLine==jy.line)=true:=by rfl) (hs:starEach (e::es) X.env=(false,eval e X.env)::starEach es X.env:=by rfl) (zm:(backTo jy (starEach es X.env)).any (·.1)=false:=by rfl):
  PE X (.Call (.Attribute o name lh) (e::es) [] jy) (tBM X.K T r to t):=by
 intro jr s σ H Q I h;refine wpAny_Call_method_late nj hfew qc rfl (thn (ho jr s σ H _ I h) fun v s1 ⟨x,H1,I1,r1,ty,q1⟩=>?_);obtain⟨h1,h2⟩:=GD I1 r1 ty;refine⟨T,id,pa,slot,Ca,h1,h2,?_⟩;have hA:=ha jy jr s1 σ H1 _ I1 q1;rw[hs]at hA ⊢;refine Calls.callWith_builtin (by show(false||(backTo jy (starEach es X.env)).any (·.1))=false;rw[zm]<;>rfl) (Calls.evalArgs_plain ?_);exact thn hA fun us s2 ⟨vs,H2,I2,r2,q2⟩=>hm jr s2 σ H2 x vs v us Q I2 r1 r2 q2
end
noncomputable def MtM(X:Cx)(id:String)(r:V->List V->Hp->VK->Prop):Prop:=
 ∀(jr:List (Addr×Obj))(s:Shared)(σ:St)(H:Hp)(x:V)(xs:List V)(v:Value)(us:List Value)(Q:VK),Inv X jr σ H s->RelV x v->Vals xs us->r x xs H Q ->
  wpAny (model X.prog X.w) X.A (call (.builtin id) (v::us)) (EP X jr σ Q) X.xe s
theorem Vals.one:∀{x:V}{us:List Value},Vals [x] us->∃u,us=[u]/\RelV x u
 |_,_,.cons r .nil=>⟨_,rfl,r⟩
theorem Vals.zero:∀{us:List Value},Vals [] us->us=[]
 |_,.nil=>rfl
theorem Vals.dropLast{xs:List V}{us:List Value}(h:Vals xs us):Vals xs.dropLast us.dropLast:=by
 induction h with
 |nil=>exact .nil
 |cons r t ih=>
  cases t with
  |nil=>exact .nil
  |cons q t'=>exact .cons r ih
theorem C6{α:Type}(l:List α):l.eraseIdx (l.length - 1)=l.dropLast:=by
 induction l with
 |nil=>rfl
 |cons a r ih=>
  cases r with
  |nil=>rfl
  |cons b r=>
   have e:(a::b::r).length - 1=((b::r).length - 1)+1:=by have h1:(a::b::r).length=r.length+2:=rfl;have h2:(b::r).length=r.length+1:=rfl;omega
   rw[e,List.eraseIdx_cons_succ,ih];all_goals rfl
section
variable {X:Cx}{jr:List (Addr×Obj)}{σ:St}{H:Hp}{s:Shared}{l b:Addr}{xs ys zs:List V}
theorem Inv.EW{its its':List Value}{n:Nat}{f:Array Value->Array Value}{t':Nat}(I:Inv X jr σ H s)(hH:H l=some (.lst xs))
  (e:s.heap.get? l=some {cls:=.type "list",data:=.seq its.toArray n}) (hf:f its.toArray=its'.toArray) (hv:Vals ys its') (hz:ys.length<=sizeLine):
  Inv X jr σ (upd H l (.lst ys)) {s with heap:=s.heap.update l (Obj.mapSeq f),toks:=t'}:=by
 have q:=PySem.IsL.update e f;rw[hf]at q;refine I.write (x:=l) (e:=l) (by rw[hH];exact trivial) (.inl rfl) (fun b' u hb hu=>(Heap.get?_update_other s.heap (Obj.mapSeq f) (Ne.symm hb)).trans hu) ⟨_,q⟩ ?_;exact⟨hz,its',_,hv,q⟩
theorem Inv.MJ{its:List Value}{t':Nat}(I:Inv X jr σ H s)(hv:Vals ys its)(hz:ys.length<=sizeLine):
  Inv X jr σ (upd H s.heap.objs.size (.lst ys)) {s with heap:=s.heap.push {cls:=.type "list",data:=.seq its.toArray},toks:=t'}:=
 I.laid (fun _ _ q=>aq _ q) (ax _) ⟨hz,its,0,hv,bb _ rfl⟩
theorem Inv.fresh(I:Inv X jr σ H s):H s.heap.objs.size=none:=I.hok.fresh (ax _)
theorem Inv.yW(I:Inv X jr σ H s)(hH:H l=some (.lst xs)):xs.length<=sizeLine/\∃(its:List Value)(n:Nat),Vals xs its/\xs.length=its.length/\s.heap.get? l=some {cls:=.type "list",data:=.seq its.toArray n}:=by obtain⟨z,its,n,r,e⟩:=I.hok l _ hH;exact⟨z,its,n,r,r.length,e⟩
end
section
variable {X:Cx}
noncomputable def JS:V->List V->Hp->VK->Prop:=fun x vs H Q=>∃l xs y,x=.ref l/\vs=[y]/\H l=some (.lst xs)/\xs.length<sizeLine/\Q .non (upd H l (.lst (xs++[y])))
theorem cC:MtM X "list.append" JS:=by intro jr s σ H x vs v us Q I rx rv h;obtain⟨l,xs,y,rfl,rfl,hH,hz,q⟩:=h;cases rx;obtain⟨u,rfl,ru⟩:=rv.one;obtain⟨z,its,n,r,hl,e⟩:=I.yW hH;refine call_meets F.slot_list_append ⟨_,e,rfl⟩ F.entry_list_append (F.args_list_append_2 _ _) (PySem.list_append l its.toArray n u (by rw[bg];omega)) ⟨e,?_⟩;refine⟨.non,_,I.EW (its':=its++[u]) hH e (by simp) (r.append (.cons ru .nil)) ?_,rfl,q⟩;rw[aj,List.length_singleton];omega
noncomputable def T7:V->List V->Hp->VK->Prop:=fun x vs H Q=>∃l xs y,x=.ref l/\vs=[]/\H l=some (.lst xs)/\xs[xs.length - 1]? =some y/\Q y (upd H l (.lst xs.dropLast))
theorem BG:MtM X "list.pop" T7:=by
 intro jr s σ H x vs v us Q I rx rv h;obtain⟨l,xs,y,rfl,rfl,hH,hy,q⟩:=h;cases rx;have hus:=rv.zero;subst hus;obtain⟨z,its,n,r,hl,e⟩:=I.yW hH;obtain⟨u,hu,ru⟩:=r.get hy;have Bx:its.toArray[its.toArray.size - 1]? =some u:=by
  show its.toArray[its.length - 1]? =some u
  rw[<- ik,<- hl];exact hu
 refine call_meets F.slot_list_pop ⟨_,e,rfl⟩ F.entry_list_pop (F.args_list_pop_1 _) (MeetsSeq.list_pop_last l its.toArray n u Bx (by rw[bg];omega)) ⟨e,?_⟩;refine⟨y,_,I.EW (its':=its.dropLast) hH e ?_ r.dropLast ?_,ru,q⟩
 ·show its.toArray.eraseIdxIfInBounds (its.toArray.size - 1)=its.dropLast.toArray
  rw[bg,List.eraseIdxIfInBounds_toArray,C6]
 ·rw[gx];omega
noncomputable def TF:R2:=fun x y H Q=>∃l b xs zs,x=.ref l/\y=.ref b/\H l=some (.lst xs)/\H b=some (.lst zs)/\xs.length+zs.length<=sizeLine/\∀p,H p=none->Q (.ref p) (upd H p (.lst (xs++zs)))
theorem MG:OpR X (binaryOp .Add) TF:=by
 intro jr s σ H x y v u Q I rx ry h;obtain⟨l,b,xs,zs,rfl,rfl,hH,hB,hz,q⟩:=h;cases rx;cases ry;obtain⟨z,its,n,r,hl,e⟩:=I.yW hH;obtain⟨z2,Bv,n2,r2,Au,e2⟩:=I.yW hB;refine PySem.P.add_list e e2 ?_ (by rw[bg,bg];omega);have ea:its.toArray++Bv.toArray=(its++Bv).toArray:=by simp
 rw[ea];exact⟨.ref _,_,I.MJ (t':=s.toks) (r.append r2) (by rw[aj];omega),rfl,q _ I.fresh⟩
end
theorem Vals.ints:∀{ns:List Int}{us:List Value},Vals (ns.map V.int) us->IntsAre us ns
 |[],us,h=>by rw[jd]at h;cases h;exact IntsAre.nil
 |n::ns,us,h=>by
  rw[bp]at h;cases h with
  |cons r t=>obtain⟨k,rfl⟩:=r;exact IntsAre.cons n k (Vals.ints t)
theorem Vals.bls:∀{bs:List Bool}{us:List Value},Vals (bs.map V.bl) us->us=bs.map Value.bool
 |[],us,h=>by rw[jd]at h;cases h;rfl
 |b::bs,us,h=>by
  rw[bp]at h;cases h with
  |cons r t=>cases r;rw[Vals.bls t,bp]
theorem Vals.O3{a:Addr}{us:List Value}(r:Vals [V.ref a] us):us=[Value.ref a]:=by
 cases r with
 |cons r t=>cases t;cases r;rfl
section
variable {prog:Program}{w:World}{A:Around}{E:Value->Shared->Prop}{s:Shared}{l:Addr}{its:List Value}{ns:List Int}{Q:Value->Shared->Prop}
theorem K5(hh:A.handled=none)(hl:s.heap.IsList l its.toArray)(hi:IntsAre its ns)(jv:0<ns.length)
  (h:∀h' tk M t',(∀b o,s.heap.get? b=some o->h'.get? b=some o)->M∈ns->(∀a,a∈ns->M<=a)->Q (.int M t') {s with heap:=h',toks:=tk}):wpAny (model prog w) A (call (.builtin "min") [.ref l]) Q E s:=by
 obtain⟨xs,e⟩:=hi.allInts.items;have hn:numsOf (intItems xs).toList=ns:=by rw[<- e];exact hi.numsOf
 rw[nums_intItems]at hn;subst hn;rw[e]at hl;have hsz:0<xs.size:=by simpa using jv
 refine PySem.min_intList hh hl hsz fun v h' tk hv hk=>?_
 obtain⟨t,rfl⟩:=intItems_at hv;obtain⟨h1,h2⟩:=argBest_lt (numAt xs) (xs.size - 1);refine h h' tk _ t hk ?_ fun a ha=>?_
 ·rw[numAt_eq];exact PySem.getD_mem (by rw[ai,dq];omega)
 ·obtain⟨j,hj,rfl⟩:=mem_getD ha;rw[ai,dq]at hj;rw[<- numAt_eq];exact h2 j (by omega)
end
section
variable {X:Cx}
noncomputable def T9(K:W.Frag):List V->Hp->VK->Prop:=fun vs H Q=>∃(a:Addr)(ns:List Int),vs=[V.ref a]/\SqL K H a (ns.map V.int)/\0<ns.length/\∀m,m∈ns->(∀y,y∈ns->m<=y)->Q (.int m) H
theorem NC(hc:X.calm=true):lC X (.builtin "min") (T9 X.K):=by intro jr s σ H vs us Q I r h;obtain⟨a,ns,rfl,hs,jv,q⟩:=h;obtain⟨its,rv,hl,_⟩:=I.list hs;rw[Vals.O3 r];exact K5 (I.ok.hd hc) hl.isList rv.ints jv fun h' tk m t' hk h1 h2=>⟨.int _,H,I.kept hk,⟨_,rfl⟩,q m h1 h2⟩
end
theorem IJ{prog:Program}{w:World}{A:Around}{E:Value->Shared->Prop}{s:Shared}{l:Addr}{items:Array Value}{Q:Value->Shared->Prop}(hl:s.heap.IsList l items)
  (h:∀s₂:Shared,s₂={s with heap:=s.heap.push {cls:=.type "list_iterator",data:=.fields #[.ref l,.int 0 0]}} ->
   (s₂.heap.IsListIter s.heap.objs.size l 0/\s₂.heap.IsList l items)->l≠s.heap.objs.size->Q (.ref s.heap.objs.size) s₂):wpAny (model prog w) A (pyIter (.ref l)) Q E s:=by
 have jz:l<s.heap.objs.size:=by obtain⟨_,e,_⟩:=hl;exact bq e
 exact wpAny_pyIter_list hl (h _ rfl ⟨⟨_,bb _ rfl,rfl,rfl⟩,hl.push _⟩ (da jz))
theorem y9{prog:Program}{w:World}{A:Around}{bs:List Bool}{its:List Value}(e:its=bs.map Value.bool):
  TruthOf prog w A (fun i v=>its.toArray[i]? =some v) (fun i=>bs.getD i false):=fun i v s Q E hv hq=>by
 have hv':its[i]? =some v:=by simpa using hv
 rw[e,bc]at hv';obtain⟨b,hb,rfl⟩:=Option.map_eq_some_iff.mp hv';have hg:bs.getD i false=b:=by rw[List.getD_eq_getElem?_getD,hb]<;>rfl
 have pf:Q (bs.getD i false) s:=hq;rw[hg]at pf;exact wpAny_truthy_bool pf
theorem any_range:∀bs:List Bool,(List.range bs.length).any (fun i=>bs.getD i false)=bs.any id
 |[]=>rfl
 |b::bs=>by rw[br,List.range_succ_eq_map,any_cons,any_map,any_cons,<- any_range bs];all_goals rfl
section
variable {X:Cx}
noncomputable def TH(K:W.Frag):List V->Hp->VK->Prop:=fun vs H Q=>∃(a:Addr)(bs:List Bool),vs=[V.ref a]/\SqL K H a (bs.map V.bl)/\Q (.bl (bs.any id)) H
theorem ND(hc:X.calm=true):lC X (.builtin "any") (TH X.K):=by
 intro jr s σ H vs us Q I r h;obtain⟨a,bs,rfl,hs,q⟩:=h;obtain⟨its,rv,hl,_⟩:=I.list hs;rw[Vals.O3 r];have hb:=rv.bls;refine call_any_walk (IJ hl.isList fun s₂ e2 st jv=>?_);subst e2;refine⟨_,_,_,_,_,_,_,rfl,Walks.list (A:=X.A.in1) (I.ok.hd hc) _ a jv its.toArray,st,y9 hb,fun h' tk hk=>?_⟩;refine⟨.bl _,H,I.kept fun b o eo=>hk b o (fun hmem=>?_) (aq _ eo),?_,q⟩
 ·rcases ak.mp hmem with e1|hmem
  ·exact absurd (e1▸bq eo) (gy _)
  ·cases hmem
 ·show Value.bool _=Value.bool _
  rw[<- any_range,hb,bg,ai]
end
mutual
inductive Dp (K:W.Frag) (H:Hp):V->PyData->Prop
 |non:Dp K H .non .none
 |bl (b:Bool):Dp K H (.bl b) (.bool b)
 |int (i:Int):Dp K H (.int i) (.int i)
 |str (x:Str):Dp K H (.str x) (.str x)
 |lst {a:Addr}{xs:List V}{ds:List PyData}:SqL K H a xs->u9 K H xs ds->Dp K H (.ref a) (.list ds)
 |tup {a:Addr}{xs:List V}{ds:List PyData}:SqT K H a xs->u9 K H xs ds->Dp K H (.ref a) (.tuple ds)
inductive u9 (K:W.Frag) (H:Hp):List V->List PyData->Prop
 |nil:u9 K H [] []
 |cons {v:V}{vs:List V}{d:PyData}{ds:List PyData}:Dp K H v d->u9 K H vs ds->u9 K H (v::vs) (d::ds)
end
section
variable {X:Cx}{jr:List (Addr×Obj)}{σ:St}{H:Hp}{s:Shared}
mutual
theorem Dp.reads(I:Inv X jr σ H s):∀(d:PyData)(v:V)(u:Value),Dp X.K H v d->RelV v u->∃as,Reads s.heap u d as
 | .none,_,_,h,r=>by cases h;cases r;exact⟨_,Reads.none⟩
 | .bool b,_,_,h,r=>by cases h;cases r;exact⟨_,Reads.bool b⟩
 | .int i,_,_,h,r=>by cases h;obtain⟨t,rfl⟩:=r;exact⟨_,Reads.int i t⟩
 | .str x,_,_,h,r=>by cases h;obtain⟨t,rfl⟩:=r;exact⟨_,Reads.str x t⟩
 | .list ds,_,_,h,r=>by
  cases h with
  |lst hs ha=>cases r;obtain⟨its,rv,⟨o,n,ho,hc,_,hd⟩,_⟩:=I.list hs;obtain⟨as,hr⟩:=Dp.readsAll I ds _ its ha rv;exact⟨_,Reads.list ho hc hd hr⟩
 | .tuple ds,_,_,h,r=>by
  cases h with
  |tup hs ha=>cases r;obtain⟨its,rv,⟨o,ho,hc,n,hd⟩,_⟩:=I.tuple hs;obtain⟨as,hr⟩:=Dp.readsAll I ds _ its ha rv;exact⟨_,Reads.tuple ho hc hd hr⟩
 | .dict _,_,_,h,_=>by cases h
theorem Dp.readsAll(I:Inv X jr σ H s):∀(ds:List PyData)(vs:List V)(us:List Value),u9 X.K H vs ds->Vals vs us->∃as,ReadsAll s.heap us ds as
 |[],_,_,h,r=>by cases h;cases r;exact⟨_,ReadsAll.nil⟩
 |d::ds,_,_,h,r=>by
  cases h with
  |cons h1 h2=>
   cases r with
   |cons r1 r2=>obtain⟨as,q1⟩:=Dp.reads I d _ _ h1 r1;obtain⟨bs,q2⟩:=Dp.readsAll I ds _ _ h2 r2;exact⟨_,ReadsAll.cons q1 q2⟩
end
end
section
variable {X:Cx}
noncomputable def T8(K:W.Frag):R2:=fun x y H Q=>∃d e,Dp K H x d/\Dp K H y e/\SeqAt.shaped d=true/\SeqAt.shaped e=true/\Q (.bl (!PyData.eqv d e)) H
theorem HM(hu:X.A.units+64<cLine):OpR X (compareOp .NotEq) (T8 X.K):=by intro jr s σ H x y v u Q I rx ry h;obtain⟨d,e,hd,he,sd,se,q⟩:=h;obtain⟨as,r1⟩:=Dp.reads I d x v hd rx;obtain⟨bs,r2⟩:=Dp.reads I e y u he ry;exact SeqAt.compareNe_shaped r1 r2 sd se hu ⟨.bl _,H,I,rfl,q⟩
end
abbrev JI(h:Heap)(c:Addr)(v:Option Value):Prop:=h.IsCell c v
noncomputable def T5(scope sc:Scope):Scope:=
 {scope with names:=scope.names.map fun(n,k)=>if(k== .free&& sc.kind== .function&& sc.names.lookup n==some .cell)then(n,.cell)else(n,k)}
noncomputable def bJ(cells:List (Str×Addr)):List (Str×NameKind)->List (Str×Addr)->List (Str×Addr)
 |[],acc=>acc
 |(n,k)::r,acc=>if k== .free then bJ cells r ((n,(cells.lookup n).getD 0)::acc)else bJ cells r acc
theorem oR(env:Env)(f:Str×NameKind->List (Str×Addr)->Sem (ForInStep (List (Str×Addr))))
  (hf:∀n k c,f (n,k) c=if k== .free then(do let a<- cellOf env n;pure (.yield ((n,a)::c)))else pure (.yield c)):
  ∀(names:List (Str×NameKind))(acc:List (Str×Addr)),(∀y∈names,y.2=.free->∃c,env.cells.lookup y.1=some c)->forIn names acc f=pure (bJ env.cells names acc)
 |[],acc,_=>by rw[List.forIn_nil];rfl
 |(n,k)::r,acc,h=>by
  rw[List.forIn_cons,hf];have ih:=fun acc=>oR env f hf r acc fun y hy=>h y (au _ hy)
  unfold bJ;by_cases hk:(k==NameKind.free)=true
  ·rw[ag hk,ag hk];obtain⟨c,hc⟩:=h (n,k) bh (by simpa using hk);have e:cellOf env n=pure c:=by unfold cellOf;rw[hc]
   rw[e];have e2:(env.cells.lookup n).getD 0=c:=by rw[hc];rfl
   rw[e2];exact ih _
  ·rw[af hk,af hk];exact ih _
theorem mS{scope:Scope}{env:Env}(h:∀y∈scope.names,y.2=.free->∃c,env.cells.lookup y.1=some c):closureFor scope env=pure (bJ env.cells scope.names []):=by simp only[closureFor];rw[oR env _ (fun n k c=>rfl) scope.names [] h];rfl
theorem mem_lookup{α:Type}:∀{l:List (Str×α)}{n:Str}{c:α},(n,c)∈l->∃c',l.lookup n=some c'
 |(k,v)::r,n,c,h=>by
  rw[gk];cases hb:n==k with
  |true=>exact⟨_,rfl⟩
  |false=>
   rcases ak.mp h with e|h
   ·cases e;simp at hb
   ·exact mem_lookup h
theorem fU{cells:List (Str×Addr)}:∀{names:List (Str×NameKind)}{acc:List (Str×Addr)}{n:Str}{c:Addr},(n,c)∈bJ cells names acc->(n,c)∈acc\/((n,.free)∈names/\c=(cells.lookup n).getD 0)
 |[],_,_,_,h=>.inl h
 |(m,k)::r,acc,n,c,h=>by
  unfold bJ at h;split at h
  ·rename_i hk;have hk:k=.free:=by simpa using hk
   rcases fU h with h|⟨h1,h2⟩
   ·rcases ak.mp h with e|h
    ·cases e;exact .inr ⟨hk▸bh,rfl⟩
    ·exact .inl h
   ·exact .inr ⟨au _ h1,h2⟩
  ·rcases fU h with h|⟨h1,h2⟩
   ·exact .inl h
   ·exact .inr ⟨au _ h1,h2⟩
theorem kR{cells:List (Str×Addr)}:∀{names:List (Str×NameKind)}{acc:List (Str×Addr)}{p:Str×Addr},p∈acc->p∈bJ cells names acc
 |[],_,_,h=>h
 |(m,k)::r,acc,p,h=>by
  unfold bJ;split
  ·exact kR (au _ h)
  ·exact kR h
theorem hZ{cells:List (Str×Addr)}:∀{names:List (Str×NameKind)}{acc:List (Str×Addr)}{n:Str},(n,.free)∈names->(n,(cells.lookup n).getD 0)∈bJ cells names acc
 |(m,k)::r,acc,n,h=>by
  unfold bJ;rcases ak.mp h with e|h
  ·cases e;exact kR bh
  ·split
   ·exact hZ h
   ·exact hZ h
theorem iY:∀{names:List (Str×NameKind)}{h:Heap}{acc:List (Str×Addr)}{x:Str}{c:Addr},(x,c)∈cellsFrom h.objs.size names acc ->
  (x,c)∈acc\/((x,.cell)∈names/\h.objs.size<=c/\JI (pushCells h names) c none)
 |[],_,_,_,_,h=>.inl h
 |(n,k)::r,h,acc,x,c,hm=>by
  unfold cellsFrom at hm;unfold pushCells;split at hm
  ·rename_i hk;rw[ag hk];have hk:k=.cell:=by simpa using hk
   rw[<- fx h {cls:=.type "cell",data:=.cell none}]at hm;rcases iY hm with hm|⟨h1,h2,h3⟩
   ·rcases ak.mp hm with e|hm
    ·cases e;exact .inr ⟨hk▸bh,ax _,_,pushCells_keeps r _ _ _ (bb _ rfl),rfl⟩
    ·exact .inl hm
   ·rw[fx]at h2;exact .inr ⟨au _ h1,jo h2,h3⟩
  ·rename_i hk;rw[af hk];rcases iY hm with hm|⟨h1,h2,h3⟩
   ·exact .inl hm
   ·exact .inr ⟨au _ h1,h2,h3⟩
theorem lX:∀{names:List (Str×NameKind)}{n:Nat}{acc:List (Str×Addr)}{p:Str×Addr},p∈acc->p∈cellsFrom n names acc
 |[],_,_,_,h=>h
 |(m,k)::r,n,acc,p,h=>by
  unfold cellsFrom;split
  ·exact lX (au _ h)
  ·exact lX h
theorem qC:∀{names:List (Str×NameKind)}{n:Nat}{acc:List (Str×Addr)}{x:Str},(x,.cell)∈names->∃c,(x,c)∈cellsFrom n names acc
 |(m,k)::r,n,acc,x,h=>by
  unfold cellsFrom;rcases ak.mp h with e|h
  ·cases e;exact⟨n,lX bh⟩
  ·split
   ·exact qC h
   ·exact qC h
theorem qB:∀{names:List (Str×NameKind)}{h:Heap}{acc:List (Str×Addr)}{x y:Str}{c:Addr},(∀p∈acc,p.2<h.objs.size)->(∀x y c,(x,c)∈acc->(y,c)∈acc->x=y) ->
  (x,c)∈cellsFrom h.objs.size names acc->(y,c)∈cellsFrom h.objs.size names acc->x=y
 |[],_,_,_,_,_,_,hi,h1,h2=>hi _ _ _ h1 h2
 |(n,k)::r,h,acc,x,y,c,hl,hi,h1,h2=>by
  unfold cellsFrom at h1 h2;split at h1
  ·rename_i hk;rw[ag hk]at h2;rw[<- fx h {cls:=.type "cell",data:=.cell none}]at h1 h2;refine qB (h:=h.push _) (fun p hp=>?_) (fun x y c a b=>?_) h1 h2
   ·rw[fx];rcases ak.mp hp with rfl|hp
    ·exact Nat.lt_succ_self _
    ·exact ir (hl p hp)
   ·rcases ak.mp a with e|a<;>rcases ak.mp b with e'|b
    ·cases e;cases e';rfl
    ·cases e;exact absurd (hl _ b) (gy _)
    ·cases e';exact absurd (hl _ a) (gy _)
    ·exact hi _ _ _ a b
  ·rename_i hk;rw[af hk]at h2;exact qB hl hi h1 h2
theorem qT{M:Model}{A:Around}{E:Value->Shared->Prop}{s:Shared}{scope:Scope}{globals:Addr}{closure:List (Str×Addr)}{qual:Str}{func:Option Addr}{code:Value}{uv:Env}{builtins:Addr}{Q:Env->Shared->Prop}
  (h:Q (newEnv scope s.heap.objs.size globals (cellsFrom (s.heap.objs.size+1) scope.names closure) qual func code (some uv) builtins)
   {s with heap:=pushCells (s.heap.push {cls:=.type "dict",data:=.dict #[]}) scope.names}):
  wpAny M A (newFunctionEnv scope globals closure [] qual func code (some uv) builtins) Q E s:=by
 simp only[newFunctionEnv,Option.isSome_some,if_true];refine aa (wpAny_alloc ?_);refine aa (wpAny_layCells _ (fun n k c=>rfl) scope.names closure _ _ ?_);rw[show({s with heap:=s.heap.push {cls:=.type "dict",data:=.dict #[]}}:Shared).heap.objs.size=s.heap.objs.size+1 from fx ..];rw[List.forIn_nil];exact aa (ah (ah h))
theorem kG{sc:Scope}:∀{names:List (Str×NameKind)}{x:Str}{k:NameKind},
  (names.map fun(n,k)=>if(k==NameKind.free&& sc.kind== .function&& sc.names.lookup n==some .cell)then(n,NameKind.cell)else(n,k)).lookup x=some k ->
  ∃k',names.lookup x=some k'/\(k=k'\/(k'=.free/\k=.cell))
 |[],_,_,h=>by simp at h
 |(n,k₀)::r,x,k,h=>by
  have ih:=@kG sc r x k;have h':List.lookup x ((if(k₀==NameKind.free&& sc.kind== .function&& sc.names.lookup n==some .cell)=true then(n,NameKind.cell)else(n,k₀))::(r.map _))=some k:=h;cases hx:x==n with
  |true=>
   simp only[gk,hx];by_cases hc:(k₀==NameKind.free&& sc.kind== .function&& sc.names.lookup n==some .cell)=true
   ·rw[ag hc]at h';simp only[gk,hx]at h';cases h';simp only[dk,beq_iff_eq]at hc;exact⟨k₀,rfl,.inr ⟨hc.1.1,rfl⟩⟩
   ·rw[af hc]at h';simp only[gk,hx]at h';cases h';exact⟨_,rfl,.inl rfl⟩
  |false=>
   simp only[gk,hx];by_cases hc:(k₀==NameKind.free&& sc.kind== .function&& sc.names.lookup n==some .cell)=true
   ·rw[ag hc]at h';simp only[gk,hx]at h';exact ih h'
   ·rw[af hc]at h';simp only[gk,hx]at h';exact ih h'
structure oV(N:List Str)(sc scope:Scope)(own:List (Str×Nat)):Prop where
 kind:scope.kind=.function
 uniq:∀y∈scope.names,scope.names.lookup y.1=some y.2
 ix:∀p∈own,N[p.2]? =some p.1
 free:∀y∈scope.names,y.2=.free->sc.names.lookup y.1=some .cell\/sc.names.lookup y.1=some .free
 own:∀y∈scope.names,y.2=.local\/y.2=.cell->y.1∈own.map (·.1)\/y.1∉N
def wipe(σ:St):List Nat->St
 |[]=>σ
 |v::vs=>(wipe σ vs).set v none
theorem gV(σ:St):∀vs:List Nat,(wipe σ vs).length=σ.length
 |[]=>rfl
 |v::vs=>by unfold wipe;rw[List.length_set,gV σ vs]
theorem lD{σ:St}{i:Nat}{x:V}:∀{vs:List Nat},(wipe σ vs)[i]? =some (some x)->σ[i]? =some (some x)/\i∉vs
 |[],h=>⟨h,by simp⟩
 |v::vs,h=>by
  unfold wipe at h;by_cases hi:v=i
  ·subst hi;by_cases hv:v<(wipe σ vs).length
   ·rw[List.getElem?_set_self hv]at h;cases h
   ·rw[List.getElem?_eq_none (by simpa using hv)]at h;cases h
  ·rw[List.getElem?_set_ne hi]at h;obtain⟨h1,h2⟩:=lD h;exact⟨h1,by simp only[ak,not_or];exact⟨fun e=>hi e.symm,h2⟩⟩
noncomputable abbrev Cx.blk(X:Cx)(s:Shared)(H:Hp)(scope:Scope)(jt:Env)(fp:List Addr):Cx:={X with s_0:=s,H_0:=H,env:=jt,outer:=X.stack,ex:=fp,fn:=fun x=>scope.names.lookup x==some .cell,pn:=[],xe:=fun _ _=>False}
section
variable {X:Cx}{jr:List (Addr×Obj)}{σ:St}{H:Hp}{s:Shared}
theorem rB{scope:Scope}{own:List (Str×Nat)}{fp:List Addr}(I:Inv X jr σ H s)(ok:oV X.N X.env.scope scope own)(hN:X.N.Nodup)(xu:∀b∈fp,mV X jr H b/\b<s.heap.objs.size):
  Inv (X.blk s H scope (compEnvC scope (cellsFrom (s.heap.objs.size+1) scope.names (bJ X.env.cells scope.names [])) s.heap.objs.size X.env) fp) [] (wipe σ (own.map (·.2))) H {s with heap:=pushCells (s.heap.push {cls:=.type "dict",data:=.dict #[]}) scope.names}:=by
 have lu:∀y∈scope.names,y.2=.free->∃c,X.env.cells.lookup y.1=some c:=fun y hy e=>by
  rcases ok.free y hy e with k|k
  ·exact I.ok.has _ (.inl k)
  ·exact I.ok.has _ (.inr k)
 generalize hcenv:compEnvC scope (cellsFrom (s.heap.objs.size+1) scope.names (bJ X.env.cells scope.names [])) s.heap.objs.size X.env=jt;have kp:∀b o,s.heap.get? b=some o->(pushCells (s.heap.push {cls:=.type "dict",data:=.dict #[]}) scope.names).get? b=some o:=fun b o e=>pushCells_keeps _ _ _ _ (aq _ e)
 have hL:jt.locals=s.heap.objs.size:=by rw[<- hcenv];rfl
 have nz:jt.cells=cellsFrom (s.heap.objs.size+1) scope.names (bJ X.env.cells scope.names []):=by rw[<- hcenv];rfl
 have hsc:jt.scope=T5 scope X.env.scope:=by rw[<- hcenv];rfl
 rw[<- fx s.heap {cls:=.type "dict",data:=.dict #[]}]at nz;have cm:∀{y c},(y,c)∈bJ X.env.cells scope.names []->X.env.cells.lookup y=some c/\c<s.heap.objs.size:=fun{y c} hm=>by
  rcases fU hm with hm|⟨h1,rfl⟩
  ·cases hm
  ·obtain⟨c,hc⟩:=lu _ h1 rfl;rw[hc];obtain⟨w,z⟩:=I.cell _ _ hc;exact⟨rfl,z.lt⟩
 have mem:∀{y c},jt.cells.lookup y=some c->(X.env.cells.lookup y=some c/\c<s.heap.objs.size)\/(s.heap.objs.size+1<=c/\JI (pushCells (s.heap.push {cls:=.type "dict",data:=.dict #[]}) scope.names) c none):=fun{y c} e=>by
  rw[nz]at e;rcases iY (PySem.mem_of_lookup e)with hm|⟨_,h2,h3⟩
  ·exact .inl (cm hm)
  ·rw[fx]at h2;exact .inr ⟨h2,h3⟩
 have look:∀{y},scope.names.lookup y=some .free->∃c,jt.cells.lookup y=some c/\X.env.cells.lookup y=some c:=fun{y} hl=>by
  have hy:(y,NameKind.free)∈scope.names:=PySem.mem_of_lookup hl;obtain⟨c',e'⟩:=mem_lookup (lX (names:=scope.names) (n:=(s.heap.push {cls:=.type "dict",data:=.dict #[]}).objs.size) (hZ (cells:=X.env.cells) (acc:=[]) hy));rw[<- nz]at e';refine⟨c',e',?_⟩;rw[nz]at e';rcases iY (PySem.mem_of_lookup e')with hm|⟨h1,_,_⟩
  ·exact(cm hm).1
  ·have:=ok.uniq _ h1;rw[hl]at this;cases this
 have okB:(X.blk s H scope jt fp).Ok:=by
  refine⟨I.ok.mod,by show jt.scope.kind=_;rw[hsc];exact ok.kind,by show jt.globals=_;rw[<- hcenv];exact I.ok.glob,by show jt.builtins=_;rw[<- hcenv];exact I.ok.blt,by show s.heap.objs.size<=jt.locals;rw[hL];exact ax _,
   fun y z c e1 e2=>?_,fun y hy=>?_,fun y c z e=>?_,I.ok.hd,I.ok.frames,.inl rfl,fun b hb=>⟨?_,fun y c e z=>?_⟩,I.bs,dj I.ok.bsz I.sz,fun b o e hb=>?_,fun b hb z=>?_,I.stack,I.wN⟩
  ·have e1:jt.cells.lookup y=some c:=e1;have e2:jt.cells.lookup z=some c:=e2;rw[nz]at e1 e2;refine qB (fun p hp=>?_) (fun y z c a b=>I.ok.inj y z c (cm a).1 (cm b).1) (PySem.mem_of_lookup e1) (PySem.mem_of_lookup e2);rw[fx];exact ir (cm (y:=p.1) (c:=p.2) hp).2
  ·show∃c,jt.cells.lookup y=some c
   have key:∀k,jt.kindOf y=some k->(k=.cell\/k=.free)->∃c,jt.cells.lookup y=some c:=fun k hk hk'=>by
    unfold Env.kindOf at hk;rw[hsc]at hk;obtain⟨k',e,r⟩:=kG hk;have:k'=.cell\/k'=.free:=by
     rcases r with rfl|⟨rfl,_⟩
     ·exact hk'
     ·exact .inr rfl
    rcases this with rfl|rfl
    ·obtain⟨c,hm⟩:=qC (n:=(s.heap.push {cls:=.type "dict",data:=.dict #[]}).objs.size) (acc:=bJ X.env.cells scope.names []) (PySem.mem_of_lookup e);obtain⟨c',e'⟩:=mem_lookup hm;exact⟨c',by rw[nz];exact e'⟩
    ·obtain⟨c,h1,_⟩:=look e;exact⟨c,h1⟩
   rcases hy with hy|hy
   ·exact key _ hy (.inl rfl)
   ·exact key _ hy (.inr rfl)
  ·have z:(scope.names.lookup y==some NameKind.cell)=true:=z;have z:scope.names.lookup y=some .cell:=by simpa using z
   have e:jt.cells.lookup y=some c:=e;rw[nz]at e;rcases iY (PySem.mem_of_lookup e)with hm|⟨_,h2,_⟩
   ·rcases fU hm with hm|⟨h1,_⟩
    ·cases hm
    ·have q:=ok.uniq _ h1;rw[z]at q;cases q
   ·rw[fx]at h2;exact jo h2
  ·show b≠jt.locals
   rw[hL];exact da (xu b hb).2
  ·have e:jt.cells.lookup y=some c:=e;rcases mem e with⟨h1,_⟩|⟨h1,_⟩
   ·exact(xu b hb).1.2.2.2.2.1 y c h1 z
   ·have h2:s.heap.objs.size+1<=b:=by rw[<- z];exact h1
    exact absurd (cc (xu b hb).2 (jo h2)) (gy _)
  ·rcases(xu b hb).1.2.2.2.1 with z|z
   ·exact I.ok.HU b o e z
   ·exact absurd (cc (bq e) (dj I.ok.bsz z)) (gy _)
  ·rcases ak.mp (I.sF b z)with z|z
   ·exact(xu b hb).1.2.1 z
   ·exact(xu b hb).1.2.2.1 z
 refine⟨okB,rfl,I.bare,Un.kept kp,⟨fun _=>none,?_,fun i y av e1 e2 e3=>?_⟩,fun y c e=>?_,?_,fun y c e=>?_,fun p hp=>?_,I.hok.kept kp,by rw[gV];exact I.len⟩
 ·show Heap.Ns _ jt.locals _
  rw[hL];exact Heap.Ns.keeps (Heap.Ns.new ..) fun b o e=>pushCells_keeps _ _ _ _ e
 ·obtain⟨e2,jv⟩:=lD e2;have wm:scope.names.lookup y=some .free/\(jt.kindOf y=some .cell\/jt.kindOf y=some .free):=by
   have key:∀k,jt.scope.names.lookup y=some k->k=.local\/k=.cell\/k=.free->scope.names.lookup y=some .free/\(jt.kindOf y=some .cell\/jt.kindOf y=some .free):=fun k hk hk'=>by
    have hk0:=hk;rw[hsc]at hk;obtain⟨k',e,r⟩:=kG hk;have no:¬(k'=.local\/k'=.cell):=fun hh=>by
     rcases ok.own _ (PySem.mem_of_lookup e) hh with e'|e'
     ·obtain⟨p,hp,hpy⟩:=ar.mp e';have e3:=ok.ix p hp;have:p.1=y:=hpy;rw[this]at e3;exact jv (ar.mpr ⟨p,hp,tE hN e3 e1⟩)
     ·exact e' (az e1)
    rcases r with rfl|⟨rfl,rfl⟩
    ·rcases hk' with rfl|rfl|rfl
     ·exact absurd (.inl rfl) no
     ·exact absurd (.inr rfl) no
     ·exact⟨e,.inr hk0⟩
    ·exact⟨e,.inl hk0⟩
   have e3:Vis jt.scope y:=e3;rcases e3 with e3|e3|e3
   ·exact key _ e3 (.inl rfl)
   ·exact key _ e3 (.inr (.inl rfl))
   ·exact key _ e3 (.inr (.inr rfl))
  obtain⟨m,hn,hl⟩:=I.loc;have hvis:Vis X.env.scope y:=(ok.free _ (PySem.mem_of_lookup wm.1) rfl).elim (fun k=>.inr (.inl k)) (fun k=>.inr (.inr k));obtain⟨w,r,q⟩:=hl i y av e1 e2 hvis;refine⟨w,r,.inr ⟨wm.2,?_⟩⟩;obtain⟨c,h1,h2⟩:=look wm.1;rcases q with⟨k,_⟩|⟨_,c',e',z⟩
  ·have k:X.env.scope.names.lookup y=some .local:=k;rcases ok.free _ (PySem.mem_of_lookup wm.1) rfl with k'|k'<;>rw[show X.env.scope.names.lookup y=_ from k']at k<;>cases k
  ·rw[h2]at e';cases e';exact⟨c,h1,z.keeps kp⟩
 ·have e:jt.cells.lookup y=some c:=e;rcases mem e with⟨h1,_⟩|⟨_,z⟩
  ·obtain⟨w,z⟩:=I.cell y c h1;exact⟨w,z.keeps kp⟩
  ·exact⟨_,z⟩
 ·show H jt.locals=none
  rw[hL];exact I.hok.fresh (ax _)
 ·have e:jt.cells.lookup y=some c:=e;rcases mem e with⟨h1,_⟩|⟨h1,_⟩
  ·exact I.hV y c h1
  ·exact I.hok.fresh (jo h1)
 ·exact absurd (show p∈([]:List (Addr×Obj))++[]from hp) (by simp)
theorem JD{E:Value->Shared->Prop}{D:Addr}{xs:List V}{y:V}{v:Value}{Q:Value->Shared->Prop}(I:Inv X jr σ H s)(hD:H D=some (.lst xs))(hz:xs.length<sizeLine)(r:RelV y v)
  (h:∀s',Inv X jr σ (upd H D (.lst (xs++[y]))) s'->Q .none s'):wpAny (model X.prog X.w) X.A (call (.builtin "list.append") [.ref D,v]) Q E s:=by
 obtain⟨Ao,its,n,ri,e⟩:=I.hok D _ hD;have hl:=ri.length;refine append_at (hsz:=by rw[bg];omega) e fun h' sb vb=>?_
 refine h {s with heap:=h'} (I.write (t':=s.toks) (by rw[hD];trivial) (.inl rfl) (fun b u hb q=>(sb.2 b hb).trans q) ⟨_,vb⟩ ⟨by rw[aj];exact hz,its++[v],n+1,ri.append (.cons r .nil),?_⟩);rw[vb];simp
noncomputable def PTs(X:Cx)(oz:List Expr)(t:TT):Prop:=
 ∀(jr:List (Addr×Obj))(s:Shared)(σ:St)(H:Hp)(Q:Bool->Hp->Prop),Inv X jr σ H s->t σ H Q ->
  wpAny (model X.prog X.w) X.A (forIn oz true fun c r=>if r=true then do let ok<- isTrue c X.env (eval c X.env);pure (ForInStep.yield ok)else pure (ForInStep.yield r)) (TP X jr σ Q) X.xe s
def GG:TT:=fun _ H Q=>Q true H
theorem rL:PTs X [] GG:=fun _ _ _ H _ I h=>wpAny_tests_nil ⟨H,I,h⟩
theorem CY{c:Expr}{t:TT}(h:PT X c t):PTs X [c] t:=fun jr s σ H Q I hw=>wpAny_tests_one (h jr s σ H Q I hw)
end
theorem wL{α:Type}{t:Sem α}{Q Q':α->Shared->Prop}{M:Model}{A:Around}{E:Value->Shared->Prop}{s:Shared}(h:wpAny M A t Q (fun _ _=>False) s)(hQ:∀a s,Q a s->Q' a s):wpAny M A t Q' E s:=wpAny_mono h hQ fun _ _ z=>False.elim z
theorem oQ{prog:Program}{w:World}{A:Around}{R:Result->Shared->Prop}{s:Shared}{mf mr iter:Expr}{oz:List Expr}{scope:Scope}{pos:Pos}{it acc:Value}{env:Env}(I:Nat->Shared->Prop)
  (kr:∀n s,I n s->wpAny (model prog w) A (pyNext it) (fun r s₁=>match r with
   |none=>R (.ok .next) s₁
   |some v=>wpAny (model prog w) A (letOwnedTupleGo mr it v) (fun _ s₁'=>wpAny (model prog w) A (assign mr env v) (fun _ s₂=>
     wpAny (model prog w) A (forIn oz true fun c r=>if r=true then do let ok<- isTrue c env (eval c env);pure (ForInStep.yield ok)else pure (ForInStep.yield r)) (fun ok s₃=>
      if ok=true then wpAny (model prog w) A (eval mf env) (fun x s₄=>
       wpAny (model prog w) A (call (.builtin "list.append") [acc,x]) (fun _ s₅=>∃m,m<n/\I m s₅) (notedBy (model prog w) A env fun e s'=>R (.error e) s') s₄) (notedBy (model prog w) A env fun e s'=>R (.error e) s') s₃
      else∃m,m<n/\I m s₃) (notedBy (model prog w) A env fun e s'=>R (.error e) s') s₂) (notedBy (model prog w) A env fun e s'=>R (.error e) s') s₁') (notedBy (model prog w) A env fun e s'=>R (.error e) s') s₁) (notedBy (model prog w) A env fun e s'=>R (.error e) s') s)
  (n:Nat) (h:I n s):
  codeAny (model prog w) A (.compLoop (.ListComp mf [⟨mr,iter,oz,0⟩] scope pos) 0 it acc env) R s:=by
 refine codeAny_loop rfl I (fun n s hI=>?_) n h;show wpAny _ A ((compTurn (.ListComp mf [⟨mr,iter,oz,0⟩] scope pos) 0 it acc env).onRaise (fun x=>do noteFrame x env;theTreesLotGoes x)) _ _ s
 refine wpAny_noted ?_;rw[compTurn_list];refine aa (wpAny_standAt (aa (wpAny_mono (kr n s hI) (fun r s₁ h₁=>?_) fun _ _ h'=>h')));cases r with
 |none=>exact ah h₁
 |some v=>
  refine aa (wpAny_mono h₁ (fun _ s₁' h₁'=>?_) fun _ _ h'=>h');refine aa (wpAny_mono h₁' (fun _ s₂ h₂=>aa (wpAny_mono h₂ (fun ok s₃ h₃=>?_) fun _ _ h'=>h')) fun _ _ h'=>h');cases ok with
  |false=>exact ah ⟨rfl,h₃⟩
  |true=>exact aa (aa (wpAny_mono h₃ (fun x s₄ h₄=>aa (wpAny_mono h₄ (fun _ s₅ h₅=>ah (ah ⟨rfl,h₅⟩)) fun _ _ h'=>h')) fun _ _ h'=>h'))
section
variable {X:Cx}
noncomputable def tLc(wi:TI)(g:TG)(tt:TT)(te:TE)(vs:List Nat):TE:=fun σ H Q=>wi σ H fun J H1=>∀D,H1 D=none->∃W:Nat->Nat->Hp->Prop,(∃m,W 0 m (upd H1 D (.lst [])))/\∀i m H,W i m H ->
 (J.stop i H/\Q (.ref D) H)\/(J.go i H/\∃Nx:Hp->Prop,(∀H',Nx H'->∃m',m'<m/\W (i+1) m' H')/\∀x H',J.yld i H x H'->g x (wipe σ vs) H' fun σ2 H2=>wipe σ2 vs=wipe σ vs/\tt σ2 H2 fun b H3=>
  if b=true then te σ2 H3 fun y H4=>∃acc,H4 D=some (.lst acc)/\acc.length<sizeLine/\Nx (upd H4 D (.lst (acc++[y])))else Nx H3)
theorem DC{jr:List (Addr×Obj)}{s:Shared}{σ:St}{H:Hp}{Q:VK}{mf tg iter:Expr}{oz:List Expr}{scope:Scope}{own:List (Str×Nat)}{pos ku:Pos}{wi:TI}{g:TG}{tt:TT}{te:TE}{use:Option (Value->Sem Unit)}{Qf:Value->Shared->Prop}
  (hc:X.calm=true) (hN:X.N.Nodup) (I:Inv X jr σ H s) (hi:PI X tg iter wi) (ok:oV X.N X.env.scope scope own)
  (hg:∀(s:Shared)(H:Hp)(C:Addr)(cl:List (Str×Addr))(fp:List Addr),PG (X.blk s H scope (compEnvC scope cl C X.env) fp) tg g) (ht:∀(s:Shared)(H:Hp)(C:Addr)(cl:List (Str×Addr))(fp:List Addr),PTs (X.blk s H scope (compEnvC scope cl C X.env) fp) oz tt)
  (he:∀(s:Shared)(H:Hp)(C:Addr)(cl:List (Str×Addr))(fp:List Addr),PE (X.blk s H scope (compEnvC scope cl C X.env) fp) mf te) (hs:∀x,foldedSetIterable iter X.env x=pure x)
  (h:tLc wi g tt te (own.map (·.2)) σ H Q)
  (hRR:∀D C s' m H',Inv X jr σ H' s'->Q (.ref D) H'->s'.heap.Ns C m->mV X jr H' C->compPost (model X.prog X.w) X.A X.xe use Qf (.ref D) C (.ok .next) s'):
  wpAny (model X.prog X.w) X.A (comprehension (.ListComp mf [⟨tg,iter,oz,0⟩] scope pos) scope X.env ku (newList []) false (eval iter X.env) use) Qf X.xe s:=by
 have lu:∀y∈scope.names,y.2=.free->∃c,X.env.cells.lookup y.1=some c:=fun y hy e=>by
  rcases ok.free y hy e with k|k
  ·exact I.ok.has _ (.inl k)
  ·exact I.ok.has _ (.inr k)
 refine wpAny_comprehension_free (use:=use) rfl hs (mS lu) ok.kind (fun y hy e=>by rw[ok.uniq y hy,e])
  (thn (hi jr s σ H _ I h) fun xv s1 hx=>thn hx fun itv s2 h2=>?_)
 obtain⟨it,fp,tn,J,H2,e,I2,T,yl,f2,q⟩:=h2;subst e;refine wpAny_newObj_type (qT ?_) (by show 0<=sizeLine;decide);generalize hD:s2.heap.objs.size=D;have hDn:H2 D=none:=I2.hok.fresh (ib hD);obtain⟨W,⟨m0,w0⟩,kr⟩:=q D hDn;generalize hs3:({s2 with heap:=s2.heap.push {cls:=.type "list",data:=.seq ([]:List Value).toArray}}:Shared)=s3;have I3:Inv X jr σ (upd H2 D (.lst [])) s3:=by rw[<- hs3];refine I2.laid (t':=s2.toks) (fun b o e=>aq _ e) (ib hD) ⟨cv _,[],0,.nil,?_⟩;rw[<- hD];exact bb _ rfl
 have h3:s3.heap=s2.heap.push {cls:=.type "list",data:=.seq ([]:List Value).toArray}:=by rw[<- hs3]
 have sz:∀b∈fp,b<s2.heap.objs.size:=fun b hb=>by obtain⟨o,e,_⟩:=T.obj _ _ yl b hb;exact bq e
 have f3:∀b∈fp,mV X jr (upd H2 D (.lst [])) b/\b<s3.heap.objs.size:=fun b hb=>by have jz:=sz b hb;refine⟨⟨?_,(f2 b hb).2⟩,by rw[h3,fx];exact ir jz⟩;rw[aC (by rw[<- hD];exact da jz)];exact(f2 b hb).1
 have Aj:tn 0 s3.heap:=T.keep _ _ _ yl fun b _ o e=>by rw[h3];exact aq _ e
 have I4:=rB I3 ok hN f3;have pg:=hg s3 (upd H2 D (.lst [])) s3.heap.objs.size (cellsFrom (s3.heap.objs.size+1) scope.names (bJ X.env.cells scope.names [])) fp;have pt:=ht s3 (upd H2 D (.lst [])) s3.heap.objs.size (cellsFrom (s3.heap.objs.size+1) scope.names (bJ X.env.cells scope.names [])) fp;have pe:=he s3 (upd H2 D (.lst [])) s3.heap.objs.size (cellsFrom (s3.heap.objs.size+1) scope.names (bJ X.env.cells scope.names [])) fp;show codeAny _ _ (.compStart (.ListComp mf [⟨tg,iter,oz,0⟩] scope pos) 0 (.ref it) (.ref D) (compEnvC scope (cellsFrom (s3.heap.objs.size+1) scope.names (bJ X.env.cells scope.names [])) s3.heap.objs.size X.env)) (compPost (model X.prog X.w) X.A X.xe use Qf (.ref D) s3.heap.objs.size) {s3 with heap:=pushCells (s3.heap.push {cls:=.type "dict",data:=.dict #[]}) scope.names}
 have Br:∀b∈fp,(upd H2 D (.lst [])) b=none:=fun b hb=>(f3 b hb).1.1
 generalize hce:compEnvC scope (cellsFrom (s3.heap.objs.size+1) scope.names (bJ X.env.cells scope.names [])) s3.heap.objs.size X.env=ce at I4 pg pt pe ⊢;have cL:ce.locals=s3.heap.objs.size:=by subst hce;rfl
 generalize hH3:upd H2 D (.lst [])=H3 at I3 I4 pg pt pe w0 Br f3;generalize hs4:({s3 with heap:=pushCells (s3.heap.push {cls:=.type "dict",data:=.dict #[]}) scope.names}:Shared)=s4 at I4 ⊢;have Bi:tn 0 s4.heap:=T.keep _ _ _ Aj fun b _ o e=>by rw[<- hs4];exact pushCells_keeps _ _ _ _ (aq _ e)
 have mz:∀{σ':St}{H':Hp}{s':Shared},Inv (X.blk s3 H3 scope ce fp) [] σ' H' s'->(∀b∈fp,H' b=none)->∀b∈fp,mV (X.blk s3 H3 scope ce fp) [] H' b:=fun{σ' H' s'} I' hn b hb=>
  ⟨hn b hb,(I'.ok.exf b hb).1,I'.ok.C5 b hb,.inl hb,fun x c e=>(I'.ok.exf b hb).2 x c e,fun p hp=>absurd (show p∈([]:List (Addr×Obj))++[]from hp) (by simp)⟩
 have loop:codeAny (model X.prog X.w) X.A (.compLoop (.ListComp mf [⟨tg,iter,oz,0⟩] scope pos) 0 (.ref it) (.ref D) ce) (compPost (model X.prog X.w) X.A X.xe use Qf (.ref D) s3.heap.objs.size) s4:=by
  refine oQ (fun n s'=>∃i H',Inv (X.blk s3 H3 scope ce fp) [] (wipe σ (own.map (·.2))) H' s'/\tn i s'.heap/\(∀b∈fp,H' b=none)/\W i n H') ?_ m0 ⟨0,H3,I4,Bi,Br,w0⟩;rintro n s5 ⟨i,H5,I5,vt,n5,w5⟩;rcases kr i n H5 w5 with⟨stop,qq⟩|⟨go,Nx,hNx,step⟩
  ·have td:=T.done (X.blk s3 H3 scope ce fp) rfl rfl rfl hc i [] s5 _ H5 (fun _ _=>False) I5 (mz I5 n5) vt stop;refine wL td fun r s6 ⟨hr,I6⟩=>?_
   subst hr;have I7:Inv X jr σ H5 s6:=I3.DV (ch:=fp) I6.os I6.base I6.hok I6.bare fun b hb=>⟨(f3 b hb).1.2.2.2.1,(f3 b hb).1.2.1,(f3 b hb).1.2.2.2.2.1,(f3 b hb).1.2.2.2.2.2⟩
   have nC:H5 s3.heap.objs.size=none:=by have z:H5 ce.locals=none:=I6.free;rw[cL]at z;exact z
   obtain⟨m,hn,_⟩:=I6.loc;have hn:s6.heap.Ns ce.locals m:=hn;rw[cL]at hn;exact hRR D s3.heap.objs.size s6 m H5 I7 qq hn (I3.C1 (ax _) nC)
  ·have ti:=T.item (X.blk s3 H3 scope ce fp) rfl rfl rfl hc i [] s5 _ H5 (fun _ _=>False) I5 (mz I5 n5) vt go;refine wL ti fun r s6 ⟨u,hr,h6⟩=>?_
   subst hr;refine wL h6 fun _ s7 ⟨x,H7,I7,r7,y7,yk,n7⟩=>?_
   have I7':=I7.pinned (mz I7 n7) (T.obj _ _ yk);refine wL (pg _ s7 _ H7 x u _ I7' r7 (step x H7 y7)) fun _ s8 ⟨σ8,H8,I8,By,q8⟩=>?_
   refine wL (pt _ s8 σ8 H8 _ I8 q8) fun b s9 ⟨H9,I9,q9⟩=>?_
   have fin:∀{s':Shared}{H':Hp},Inv (X.blk s3 H3 scope ce fp) ([]++pI fp s7.heap) σ8 H' s'->Nx H'->∃m,m<n/\∃i H',Inv (X.blk s3 H3 scope ce fp) [] (wipe σ (own.map (·.2))) H' s'/\tn i s'.heap/\(∀b∈fp,H' b=none)/\W i m H':=fun{s' H'} I' nx=>by
    obtain⟨m',hm,w'⟩:=hNx H' nx;have sq:∀b∈fp,∀o,s7.heap.get? b=some o->s'.heap.get? b=some o/\H' b=none:=fun b hb o e=>
     let z:=I'.pin (b,o) (bf _ (bf _ (jA hb e)))
     ⟨z.1,z.2.1⟩
    have hl:(wipe σ (own.map (·.2))).length=σ8.length:=by rw[<- By,gV]
    refine⟨m',hm,i+1,H',(I'.k7 (jr:=[])).weak hl (fun j v e=>?_),T.keep _ _ _ yk fun b hb o e=>(sq b hb o e).1,fun b hb=>?_,w'⟩
    ·rw[<- By]at e;exact(lD e).1
    ·obtain⟨o,e,_⟩:=T.obj _ _ yk b hb;exact(sq b hb o e).2
   cases b with
   |false=>simp only[iu,if_false]at q9 ⊢;exact fin I9 q9
   |true=>
    simp only[if_true]at q9 ⊢;refine wL (pe _ s9 σ8 H9 _ I9 q9) fun z s10 ⟨yv,H10,I10,r10,acc,Ad,zb,nx⟩=>?_
    exact JD (X:=X.blk s3 H3 scope ce fp) I10 Ad zb r10 fun s11 I11=>fin I11 nx
 exact codeAny_compStart_list loop (T.self X.A 0 _ _ _ Bi loop)
theorem HG{mf tg iter:Expr}{oz:List Expr}{scope:Scope}{own:List (Str×Nat)}{pos:Pos}{wi:TI}{g:TG}{tt:TT}{te:TE}(hc:X.calm=true)(hN:X.N.Nodup)(hi:PI X tg iter wi)(ok:oV X.N X.env.scope scope own)
  (hg:∀(s:Shared)(H:Hp)(C:Addr)(cl:List (Str×Addr))(fp:List Addr),PG (X.blk s H scope (compEnvC scope cl C X.env) fp) tg g) (ht:∀(s:Shared)(H:Hp)(C:Addr)(cl:List (Str×Addr))(fp:List Addr),PTs (X.blk s H scope (compEnvC scope cl C X.env) fp) oz tt)
  (he:∀(s:Shared)(H:Hp)(C:Addr)(cl:List (Str×Addr))(fp:List Addr),PE (X.blk s H scope (compEnvC scope cl C X.env) fp) mf te) (hs:∀x,foldedSetIterable iter X.env x=pure x:=by intro _;rfl):
  PE X (.ListComp mf [⟨tg,iter,oz,0⟩] scope pos) (tLc wi g tt te (own.map (·.2))):=by
 intro jr s σ H Q I h;rw[eval_ListComp];refine DC hc hN I hi ok hg ht he hs h fun D C s' m H' I' q hn f=>⟨m,hn,fun xc sb=>?_⟩
 obtain⟨f0,f1,f2,f3,f4,f5⟩:=f;exact⟨.ref D,H',I'.turned (t':=s'.toks) (fun b o hb e=>(sb.2 b hb).trans e) f0 f1 f3 f4 f5,rfl,q⟩
theorem sX{i:Nat}{y:Str}{py:Pos}{mf tg iter:Expr}{oz:List Expr}{scope:Scope}{own:List (Str×Nat)}{pos sk:Pos}{wi:TI}{g:TG}{tt:TT}{te:TE}(hc:X.calm=true)(hN:X.N.Nodup)(hy:X.N[i]? =some y)(uc:X.env.scope.names.lookup y=some .local)
  (hsw:swapsWith (.ListComp mf [⟨tg,iter,oz,0⟩] scope pos) (some (.Name y py)) sk.line X.env=pure true) (hi:PI X tg iter wi) (ok:oV X.N X.env.scope scope own)
  (hg:∀(s:Shared)(H:Hp)(C:Addr)(cl:List (Str×Addr))(fp:List Addr),PG (X.blk s H scope (compEnvC scope cl C X.env) fp) tg g) (ht:∀(s:Shared)(H:Hp)(C:Addr)(cl:List (Str×Addr))(fp:List Addr),PTs (X.blk s H scope (compEnvC scope cl C X.env) fp) oz tt)
  (he:∀(s:Shared)(H:Hp)(C:Addr)(cl:List (Str×Addr))(fp:List Addr),PE (X.blk s H scope (compEnvC scope cl C X.env) fp) mf te) (hs:∀x,foldedSetIterable iter X.env x=pure x:=by intro _;rfl):
  PS X (.Assign [.Name y py] (.ListComp mf [⟨tg,iter,oz,0⟩] scope pos) sk) (AX (tLc wi g tt te (own.map (·.2))) (hO i)):=by
 intro jr s σ H D I h;rw[exec_Assign_Name_used _ _ _ _ hsw];refine aa (wpAny_standAt (aa ?_));show wpAny _ X.A (do let _<- comprehension (.ListComp mf [⟨tg,iter,oz,0⟩] scope pos) scope X.env (firstIterPos [⟨tg,iter,oz,0⟩] pos) (newList []) false (eval iter X.env) (some (assign (.Name y py) X.env))) _ _ s
 have h:tLc wi g tt te (own.map (·.2)) σ H (fun x H1=>hO i x σ H1 D.nx):=h;refine aa (thn (DC (Qf:=fun _ s'=>SP X jr D .next s') hc hN I hi ok hg ht he hs h fun L C s' m H' I' q hn f=>?_) fun _ s' hq=>ah (ah hq));show wpAny _ _ (assign (.Name y py) X.env (.ref L)) _ _ _
 refine wpAny_assign_Name (pA (v:=V.ref L) I' hN hy (.inl uc) rfl (fun s2 I2 ⟨a,sb,ha⟩=>?_) (.inr uc));obtain⟨f0,f1,f2,f3,f4,f5⟩:=f;have haC:C≠a:=by
  rcases ha with z|z
  ·rw[z];exact f1
  ·exact fun e=>f4 y a z e.symm
 refine⟨m,hn.sameBut sb haC,fun h3 sb3=>?_⟩;exact⟨_,H',I2.turned (t':=s2.toks) (fun b o hb e=>(sb3.2 b hb).trans e) f0 f1 f3 f4 f5,q⟩
theorem n8{mf:Expr}{gs:List Comprehension}{scope:Scope}{pos py:Pos}{y:Str}{l:Nat}{env:Env}(hk:env.scope.kind=.function)(hy:env.scope.names.lookup y=some .local)(hl:(py.line==pos.line)=true)
  (ha:(scope.names.any fun(n,k)=>n==y&& (k== .local||k== .cell))=false):swapsWith (.ListComp mf gs scope pos) (some (.Name y py)) l env=pure true:=by
 have ky:env.kindOf y=some .local:=hy;have hb:env.blockKind=.function:=by unfold Env.blockKind;rw[hk];rfl
 unfold swapsWith;simp only[hb,ky,ha,Expr.pos,hl];rfl
end
theorem lQ{K:W.Frag}{a:Addr}{xs:List V}{g:TG}{tt:TT}{te:TE}{vs:List Nat}{σ:St}{H1:Hp}{D:Addr}{Qd:Hp->Prop}(Pv:Nat->Hp->Prop)(h0:Pv 0 (upd H1 D (.lst [])))(hl:∀i H,i<=xs.length->Pv i H->SqL K H a xs)
  (hs:∀i x H,xs[i]? =some x->Pv i H->g x (wipe σ vs) H fun σ2 H2=>wipe σ2 vs=wipe σ vs/\tt σ2 H2 fun b H3=>
   if b=true then te σ2 H3 fun y H4=>∃acc,H4 D=some (.lst acc)/\acc.length<sizeLine/\Pv (i+1) (upd H4 D (.lst (acc++[y])))else Pv (i+1) H3) (hd:∀H,Pv xs.length H->Qd H):
  ∃W:Nat->Nat->Hp->Prop,(∃m,W 0 m (upd H1 D (.lst [])))/\∀i m H,W i m H ->
   ((Itl K a).stop i H/\Qd H)\/((Itl K a).go i H/\∃Nx:Hp->Prop,(∀H',Nx H'->∃m',m'<m/\W (i+1) m' H')/\∀x H',(Itl K a).yld i H x H'->g x (wipe σ vs) H' fun σ2 H2=>wipe σ2 vs=wipe σ vs/\tt σ2 H2 fun b H3=>
    if b=true then te σ2 H3 fun y H4=>∃acc,H4 D=some (.lst acc)/\acc.length<sizeLine/\Nx (upd H4 D (.lst (acc++[y])))else Nx H3):=by
 refine⟨fun i m H=>m=xs.length - i/\i<=xs.length/\Pv i H,⟨xs.length,by simp,cv _,h0⟩,?_⟩;rintro i m H ⟨rfl,hi,p⟩;have q:=hl i H hi p;by_cases jz:i<xs.length
 ·refine .inr ⟨⟨xs,xs[i],q,by simp[jz]⟩,Pv (i+1),fun H' p'=>⟨xs.length - (i+1),by omega,rfl,jz,p'⟩,fun x H' y=>?_⟩;obtain⟨e,y⟩:=y;subst e;exact hs i x _ (y xs q) p
 ·have e:i=xs.length:=by omega
  subst e;exact .inl ⟨⟨xs,q,ax _⟩,hd H p⟩
theorem IF{K:W.Frag}{a:Addr}{xs:List V}{g:TG}{tt:TT}{te:TE}{vs:List Nat}{σ:St}{H1:Hp}{D:Addr}{Qd:Hp->Prop}(Pv:Nat->Hp->Prop)(h0:Pv 0 (upd H1 D (.lst [])))(hl:∀i H,i<=xs.length->Pv i H->SqT K H a xs)
  (hs:∀i x H,xs[i]? =some x->Pv i H->g x (wipe σ vs) H fun σ2 H2=>wipe σ2 vs=wipe σ vs/\tt σ2 H2 fun b H3=>
   if b=true then te σ2 H3 fun y H4=>∃acc,H4 D=some (.lst acc)/\acc.length<sizeLine/\Pv (i+1) (upd H4 D (.lst (acc++[y])))else Pv (i+1) H3) (hd:∀H,Pv xs.length H->Qd H):
  ∃W:Nat->Nat->Hp->Prop,(∃m,W 0 m (upd H1 D (.lst [])))/\∀i m H,W i m H ->
   ((Itt K a).stop i H/\Qd H)\/((Itt K a).go i H/\∃Nx:Hp->Prop,(∀H',Nx H'->∃m',m'<m/\W (i+1) m' H')/\∀x H',(Itt K a).yld i H x H'->g x (wipe σ vs) H' fun σ2 H2=>wipe σ2 vs=wipe σ vs/\tt σ2 H2 fun b H3=>
    if b=true then te σ2 H3 fun y H4=>∃acc,H4 D=some (.lst acc)/\acc.length<sizeLine/\Nx (upd H4 D (.lst (acc++[y])))else Nx H3):=by
 refine⟨fun i m H=>m=xs.length - i/\i<=xs.length/\Pv i H,⟨xs.length,by simp,cv _,h0⟩,?_⟩;rintro i m H ⟨rfl,hi,p⟩;have q:=hl i H hi p;by_cases jz:i<xs.length
 ·refine .inr ⟨⟨xs,xs[i],q,by simp[jz]⟩,Pv (i+1),fun H' p'=>⟨xs.length - (i+1),by omega,rfl,jz,p'⟩,fun x H' y=>?_⟩;obtain⟨e,y⟩:=y;subst e;exact hs i x _ (y xs q) p
 ·have e:i=xs.length:=by omega
  subst e;exact .inl ⟨⟨xs,q,ax _⟩,hd H p⟩
noncomputable def SH(N:List Str)(sc scope:Scope)(own:List (Str×Nat)):Bool:=
 (match scope.kind with| .function=>true|_=>false)&& (scope.names.all fun y=>decide (scope.names.lookup y.1=some y.2))&& (own.all fun p=>decide (N[p.2]? =some p.1))&&
  (scope.names.all fun y=>match y.2 with
   | .free=>(match sc.names.lookup y.1 with|some .cell=>true|some .free=>true|_=>false)
   | .local=>decide (y.1∈own.map (·.1))||decide (y.1∉N)
   | .cell=>decide (y.1∈own.map (·.1))||decide (y.1∉N)
   |_=>true)
theorem f6{N:List Str}{sc scope:Scope}{own:List (Str×Nat)}(h:SH N sc scope own=true):oV N sc scope own:=by
 unfold SH at h;simp only[dk,ij,decide_eq_true_eq]at h;obtain⟨⟨⟨h1,h2⟩,h3⟩,h4⟩:=h;refine⟨?_,h2,h3,fun y hy e=>?_,fun y hy e=>?_⟩
 ·split at h1
  ·assumption
  ·cases h1
 ·have q:=h4 y hy;simp only[e]at q;split at q<;>first|exact .inl (by assumption)|exact .inr (by assumption)|cases q
 ·have q:=h4 y hy;rcases e with e|e<;>(simp only[e,or_eq_true,decide_eq_true_eq]at q;exact q)
section
variable {κ:Type} [DecidableEq κ]
noncomputable def rZ(kvs:List (κ×V))(k:κ):Option V:=(kvs.find? fun kv=>decide (kv.1=k)).map (·.2)
noncomputable def putK(kvs:List (κ×V))(k:κ)(v:V):List (κ×V):=
 if(kvs.any fun kv=>decide (kv.1=k))=true then kvs.map (fun kv=>if kv.1=k then(kv.1,v)else kv)else kvs++[(k,v)]
theorem mX{p:κ×V}{r:List (κ×V)}{k:κ}(e:p.1=k):rZ (p::r) k=some p.2:=by simp[rZ,je,e]
theorem mY{p:κ×V}{r:List (κ×V)}{k:κ}(e:¬p.1=k):rZ (p::r) k=rZ r k:=by simp[rZ,je,e]
theorem xY(k:κ):∀kvs:List (κ×V),(kvs.any fun kv=>decide (kv.1=k))=(rZ kvs k).isSome
 |[]=>rfl
 |p::r=>by
  rw[any_cons];by_cases e:p.1=k
  ·simp only[mX e,decide_eq_true e,Bool.true_or,Option.isSome_some]
  ·rw[mY e,decide_eq_false e,Bool.false_or];exact xY k r
theorem kH(kvs:List (κ×V))(k:κ)(v:V):(putK kvs k v).length<=kvs.length+1:=by
 unfold putK;split
 ·rw[ai];omega
 ·rw[aj,br,fh];omega
theorem mT.iV{o:Option V}{u:Option Value}(r:mT o u):o.isSome=u.isSome:=by
 cases o with
 |none=>cases u with
  |none=>rfl
  |some _=>exact(show False from r).elim
 |some _=>cases u with
  |none=>exact(show False from r).elim
  |some _=>rfl
theorem mT.getD{o:Option V}{u:Option Value}{d:V}{d':Value}(r:mT o u)(rd:RelV d d'):RelV (o.getD d) (u.getD d'):=by
 cases o with
 |none=>cases u with
  |none=>exact rd
  |some _=>exact(show False from r).elim
 |some _=>cases u with
  |none=>exact(show False from r).elim
  |some _=>exact r
theorem KV.val{kvs:List (κ×V)}{vs:List (κ×Value)}(r:KV kvs vs)(k:κ):mT (rZ kvs k) (valueAt vs k):=by
 unfold KV at r;induction r with
 |nil=>exact True.intro
 | @cons p q ps qs h t ih=>
  obtain⟨h1,h2⟩:=h;by_cases e:p.1=k
  ·have e':q.1=k:=h1.symm.trans e;have b:valueAt (q::qs) k=some q.2:=by simp[valueAt,je,e']
   rw[mX e,b];exact h2
  ·have e':¬q.1=k:=fun z=>e (h1.trans z)
   have b:valueAt (q::qs) k=valueAt qs k:=by simp[valueAt,je,e']
   rw[mY e,b];exact ih
theorem KV.any{kvs:List (κ×V)}{vs:List (κ×Value)}(r:KV kvs vs)(k:κ):(kvs.any fun kv=>decide (kv.1=k))=vs.any fun kv=>decide (kv.1=k):=by
 unfold KV at r;induction r with
 |nil=>rfl
 |cons h t ih=>rw[any_cons,any_cons,ih,h.1]
theorem KV.M9{kvs:List (κ×V)}{vs:List (κ×Value)}(r:KV kvs vs)(k:κ){y:V}{u:Value}(ry:RelV y u):
  KV (kvs.map fun kv=>if kv.1=k then(kv.1,y)else kv) (vs.map fun kv=>if kv.1=k then(kv.1,u)else kv):=by
 unfold KV at r ⊢;induction r with
 |nil=>exact .nil
 | @cons p q ps qs h t ih=>
  rw[bp,bp];refine .cons ?_ ih;obtain⟨h1,h2⟩:=h;by_cases e:p.1=k
  ·rw[ag e,ag (h1.symm.trans e)];exact⟨h1,ry⟩
  ·rw[af e,af (fun z=>e (h1.trans z))];exact⟨h1,h2⟩
theorem KV.put{kvs:List (κ×V)}{vs:List (κ×Value)}(r:KV kvs vs)(k:κ){y:V}{u:Value}(ry:RelV y u):KV (putK kvs k y) (stored vs k u):=by
 unfold putK stored;rw[r.any k];by_cases e:(vs.any fun kv=>decide (kv.1=k))=true
 ·rw[ag e,ag e];exact r.M9 k ry
 ·rw[af e,af e];exact Paired.snoc r ⟨rfl,ry⟩
theorem KV.length{kvs:List (κ×V)}{vs:List (κ×Value)}(r:KV kvs vs):kvs.length=vs.length:=Paired.length r
end
theorem tJ{P:Program}{w:World}{k:Key}{u:Value}(r:RelV (kV k) u):(cD P w).is k u=true:=by
 cases k with
 |inl i=>obtain⟨t,e⟩:=(show∃t,u=Value.int i t from r);subst e;exact yV P w i t
 |inr x=>obtain⟨t,e⟩:=(show∃t,u=Value.str x t from r);subst e;exact yU P w x t
theorem vP{P:Program}{w:World}:∀{ks:List Key}{us:List Value},Vals (ks.map kV) us->ItemsAre (cD P w) ks us
 |[],_,r=>by rw[jd]at r;cases r;exact .nil
 |k::ks,_,r=>by
  rw[bp]at r;cases r with
  |cons h t=>exact .cons (tJ h) (vP t)
noncomputable abbrev KT(H:Hp):List (List Key×V)->List (List Key×Addr×Value)->Prop:=Paired fun p q=>p.1=q.1/\H q.2.1=some (.tup (p.1.map kV))/\RelV p.2 q.2.2
theorem KT.val{H:Hp}{kvs:List (List Key×V)}{xs:List (List Key×Addr×Value)}(r:KT H kvs xs)(k:List Key):mT (rZ kvs k) ((atKey xs k).map (·.2)):=by
 induction r with
 |nil=>exact True.intro
 | @cons p q ps qs h t ih=>
  obtain⟨h1,_,h2⟩:=h;by_cases e:p.1=k
  ·have e':q.1=k:=h1.symm.trans e;have b:atKey (q::qs) k=some q.2:=by simp[atKey,je,e']
   rw[mX e,b];exact h2
  ·have e':¬q.1=k:=fun z=>e (h1.trans z)
   have b:atKey (q::qs) k=atKey qs k:=by simp[atKey,je,e']
   rw[mY e,b];exact ih
theorem KT.M9{H:Hp}{kvs:List (List Key×V)}{xs:List (List Key×Addr×Value)}(r:KT H kvs xs)(k:List Key){y:V}{u:Value}(ry:RelV y u):
  KT H (kvs.map fun kv=>if kv.1=k then(kv.1,y)else kv) (xs.map (putAt k u)):=by
 induction r with
 |nil=>exact .nil
 | @cons p q ps qs h t ih=>
  rw[bp,bp];refine .cons ?_ ih;obtain⟨h1,h2,h3⟩:=h;unfold putAt;by_cases e:p.1=k
  ·rw[ag e,ag (h1.symm.trans e)];exact⟨h1,h2,ry⟩
  ·rw[af e,af (fun z=>e (h1.trans z))];exact⟨h1,h2,h3⟩
theorem KT.put{H:Hp}{kvs:List (List Key×V)}{xs:List (List Key×Addr×Value)}(r:KT H kvs xs)(k:List Key){b:Addr}{y:V}{u:Value}(hb:H b=some (.tup (k.map kV)))(ry:RelV y u):
  KT H (putK kvs k y) (storedH xs k b u):=by
 have e:(kvs.any fun kv=>decide (kv.1=k))=(atKey xs k).isSome:=by rw[xY,(r.val k).iV,Option.isSome_map]
 unfold putK storedH;rw[e];by_cases q:(atKey xs k).isSome=true
 ·rw[ag q,ag q];exact r.M9 k ry
 ·rw[af q,af q];exact Paired.snoc r ⟨rfl,hb,ry⟩
theorem KT.keeps{H H':Hp}{kvs:List (List Key×V)}{xs:List (List Key×Addr×Value)}(r:KT H kvs xs)(ht:∀b ys,H b=some (.tup ys)->H' b=some (.tup ys)):KT H' kvs xs:=
 Paired.MI r fun _ _ z=>⟨z.1,ht _ _ z.2.1,z.2.2⟩
section
variable {P:Program}{w:World}{H:Hp}{h:Heap}{a:Addr}
theorem LH{u:HO}(ok:HOk P w H h)(e:Rd H a u):d9 P w H h a u:=e.ok ok
theorem r9{kvs:List (Key×V)}(ok:HOk P w H h)(e:Rd H a (.dK kvs)):kvs.length<=sizeLine/\(a==sysModules)=false/\∃vs,KV kvs vs/\h.DictOf (cD P w) a vs:=
 show d9 P w H h a (.dK kvs)from LH ok e
theorem SF{kvs:List (Key×V)}(ok:HOk P w H h)(e:H a=some (.dK kvs)):kvs.length<=sizeLine/\(a==sysModules)=false/\∃vs,KV kvs vs/\h.DictOf (cD P w) a vs:=r9 ok (.inl e)
theorem kJ{ks:List Key}(ok:HOk P w H h)(e:H a=some (.tup (ks.map kV))):(tupleKind (cD P w)).is h ks a:=by obtain⟨_,its,r,o,h1,h2,n,h3⟩:=(show d9 P w H h a (.tup (ks.map kV))from ok a _ e);exact⟨o,its.toArray,n,h1,h2,h3,by simpa using vP r⟩
theorem oN{kvs:List (List Key×V)}(ok:HOk P w H h)(e:Rd H a (.dT kvs)):kvs.length<=sizeLine/\(a==sysModules)=false/\
  ∃xs,KT H kvs xs/\h.DictOfH (tupleKind (cD P w)) a xs:=by
 obtain⟨z,y,xs,r,o,es,ep,h1,h2,h3,h4,h5⟩:=(show d9 P w H h a (.dT kvs)from LH ok e);refine⟨z,y,xs,r,o,es,ep,h1,h2,h3,h4,fun x hx=>?_,h5⟩;have all:∀{l:List (List Key×V)}{m:List (List Key×Addr×Value)},KT H l m->∀x∈m,(tupleKind (cD P w)).is h x.1 x.2.1:=by
  intro l m q;induction q with
  |nil=>intro x hx;exact nomatch hx
  | @cons p q ps qs hq t ih=>
   intro x hx;rcases ak.mp hx with e|hx
   ·subst e;exact kJ ok (by rw[<- hq.1];exact hq.2.1)
   ·exact ih x hx
 exact all r x hx
theorem SE{kvs:List (List Key×V)}(ok:HOk P w H h)(e:H a=some (.dT kvs)):kvs.length<=sizeLine/\(a==sysModules)=false/\
  ∃xs,KT H kvs xs/\h.DictOfH (tupleKind (cD P w)) a xs:=oN ok (.inl e)
end
noncomputable def lB(H:Hp)(a:Addr)(y:V)(r:Option V):Prop:=
 (∃kvs k,Rd H a (.dK kvs)/\y=kV k/\r=rZ kvs k)\/∃kvs k b,Rd H a (.dT kvs)/\y=.ref b/\H b=some (.tup (k.map kV))/\r=rZ kvs k
noncomputable def LG(H:Hp)(a:Addr)(y v:V)(H':Hp):Prop:=
 (∃kvs k,H a=some (.dK kvs)/\y=kV k/\kvs.length<sizeLine/\H'=upd H a (.dK (putK kvs k v)))\/
 ∃kvs k b,H a=some (.dT kvs)/\y=.ref b/\H b=some (.tup (k.map kV))/\kvs.length<sizeLine/\H'=upd H a (.dT (putK kvs k v))
section
variable {X:Cx}{jr:List (Addr×Obj)}{σ:St}{H:Hp}{s:Shared}{a:Addr}{y v:V}{u r:Value}{o:Option V}{A:Around}{E:Value->Shared->Prop}
theorem Inv.big(I:Inv X jr σ H s):sysModules<s.heap.objs.size:=by have h:mainGlobals<s.heap.objs.size:=(I.mod.glob.keeps I.bk).lt;exact Nat.lt_trans (by decide) h
theorem FR{Q:Value->Shared->Prop}(hu:A.units+1<cLine)(I:Inv X jr σ H s)(g:lB H a y (some v))(ry:RelV y u)(h:∀w' s',Inv X jr σ H s'->RelV v w'->Q w' s'):
  wpAny (model X.prog X.w) A (getItem (.ref a) u) Q E s:=by
 rcases g with⟨kvs,k,e,ey,l⟩|⟨kvs,k,b,e,ey,eb,l⟩
 ·subst ey;obtain⟨z,hd,vs,rel,dd⟩:=r9 I.hok e;obtain⟨w',hw,rl⟩:=mT.some_of (v:=v) (o:=valueAt vs k) (by rw[l];exact rel.val k);exact wpAny_getItem_of (tJ ry) dd.mapOf hw (h w' _ (I.tok _) rl)
 ·subst ey;cases (show u=Value.ref b from ry);obtain⟨z,hd,xs,rel,dd⟩:=oN I.hok e;obtain⟨w',hw,rl⟩:=mT.some_of (v:=v) (o:=(atKey xs k).map (·.2)) (by rw[l];exact rel.val k);obtain⟨p,hp,hp2⟩:=Option.map_eq_some_iff.mp hw;refine wpAny_getItem_heap (tupleKind_room_in1 hu) (kJ I.hok eb) dd hp ?_;rw[hp2];exact h w' _ (I.tok _) rl
theorem X5{Q:Value->Shared->Prop}(hu:A.units+1<cLine)(I:Inv X jr σ H s)(g:lB H a y o)(ry:RelV y u)(h:∀s',Inv X jr σ H s'->Q (.bool o.isSome) s'):
  wpAny (model X.prog X.w) A (compareOp .In u (.ref a)) Q E s:=by
 rcases g with⟨kvs,k,e,ey,l⟩|⟨kvs,k,b,e,ey,eb,l⟩
 ·subst ey;obtain⟨z,hd,vs,rel,dd⟩:=r9 I.hok e;refine wpAny_in_of (tJ ry) hd dd.mapOf ?_;rw[<- (rel.val k).iV,<- l];exact h _ (I.tok _)
 ·subst ey;cases (show u=Value.ref b from ry);obtain⟨z,hd,xs,rel,dd⟩:=oN I.hok e;refine wpAny_in_heap (tupleKind_room_in1 hu) (kJ I.hok eb) hd dd ?_;have q:=(rel.val k).iV;rw[Option.isSome_map]at q;rw[<- q,<- l];exact h _ (I.tok _)
theorem L1{Q:Value->Shared->Prop}(hu:A.units+1<cLine)(I:Inv X jr σ H s)(g:lB H a y o)(ry:RelV y u)(h:∀s',Inv X jr σ H s'->Q (.bool (!o.isSome)) s'):
  wpAny (model X.prog X.w) A (compareOp .NotIn u (.ref a)) Q E s:=by
 rcases g with⟨kvs,k,e,ey,l⟩|⟨kvs,k,b,e,ey,eb,l⟩
 ·subst ey;obtain⟨z,hd,vs,rel,dd⟩:=r9 I.hok e;refine wpAny_notIn_of (tJ ry) hd dd.mapOf ?_;rw[<- (rel.val k).iV,<- l];exact h _ (I.tok _)
 ·subst ey;cases (show u=Value.ref b from ry);obtain⟨z,hd,xs,rel,dd⟩:=oN I.hok e;refine wpAny_notIn_heap (tupleKind_room_in1 hu) (kJ I.hok eb) hd dd ?_;have q:=(rel.val k).iV;rw[Option.isSome_map]at q;rw[<- q,<- l];exact h _ (I.tok _)
theorem DT{h':Heap}{t':Nat}{ob:HO}(I:Inv X jr σ H s)(mu:Mut (H a))(hs:Heap.SameBut a s.heap h')(he:∃q,h'.get? a=some q)(new:d9 X.prog X.w (upd H a ob) h' a ob):
  Inv X jr σ (upd H a ob) {s with heap:=h',toks:=t'}:=
 I.write (x:=a) (e:=a) mu (.inl rfl) (fun b q hb z=>(hs.2 b hb).trans z) he new
theorem N7{P:Program}{w:World}{H':Hp}{h':Heap}{kvs:List (Key×V)}{vs:List (Key×Value)}(z:kvs.length<=sizeLine)(hd:(a==sysModules)=false)(rel:KV kvs vs)(dd:h'.DictOf (cD P w) a vs):
  d9 P w H' h' a (.dK kvs):=⟨z,hd,vs,rel,dd⟩
theorem FQ{H':Hp}{Q:Unit->Shared->Prop}(hu:A.units+1<cLine)(I:Inv X jr σ H s)(g:LG H a y v H')(ry:RelV y u)(rv:RelV v r)(h:∀s',Inv X jr σ H' s'->Q () s'):
  wpAny (model X.prog X.w) A (setItem (.ref a) u r) Q E s:=by
 rcases g with⟨kvs,k,e,ey,l,eH⟩|⟨kvs,k,b,e,ey,eb,l,eH⟩
 ·subst ey eH;obtain⟨z,hd,vs,rel,dd⟩:=SF I.hok e;have hz:vs.length<=sizeLine:=by rw[<- rel.length];exact z
  have hl:(putK kvs k v).length<=sizeLine:=by have:=kH kvs k v;omega
  refine wpAny_setItem_pairs (hsz:=hz) (tJ ry) dd fun h' Af hs=>h _ ?_
  have he:∃q,h'.get? a=some q:=let⟨q,_,_,hq,_⟩:=Af;⟨q,hq⟩
  exact DT I (by rw[e];exact True.intro) hs he (N7 hl hd (rel.put k rv) Af)
 ·subst ey eH;cases (show u=Value.ref b from ry);obtain⟨z,hd,xs,rel,dd⟩:=SE I.hok e;have hz:xs.length<=sizeLine:=by rw[<- Paired.length rel];exact z
  have hl:(putK kvs k v).length<=sizeLine:=by have:=kH kvs k v;omega
  refine wpAny_setItem_heap (hsz:=hz) (tupleKind_room_in1 hu) (kJ I.hok eb) dd fun h' Af hs=>h _ ?_
  obtain⟨q,es,ep,hq,h2,h3,h4,_,h5⟩:=Af;refine DT I (by rw[e];exact True.intro) hs ⟨q,hq⟩ ⟨hl,hd,_,(rel.put k eb rv).keeps fun c ys ec=>?_,q,es,ep,hq,h2,h3,h4,h5⟩;rw[aC (eJ ec e (fun z=>nomatch z))];exact ec
end
noncomputable def SJ(i:Expr):Prop:=∀ov iv,subscripted i false ov iv=operate [ov,iv] (getItem ov iv)
theorem JP{prog:Program}{w:World}{A:Around}{E:Value->Shared->Prop}{s:Shared}{env:Env}{kj slice:Expr}{pos:Pos}{T id:String}{Q:Value->Shared->Prop}
  (hl:typeLookup (.type T) "__getitem__" =pure (some (.builtin id))) (hs:SJ slice)
  (h:wpAny (model prog w) A (eval kj env) (fun o s₁=>wpAny (model prog w) A (eval slice env) (fun i s₂=>s₂.TypeIs o T/\wpAny (model prog w) A (getItem o i) Q E s₂) E s₁) E s):
  wpAny (model prog w) A (eval (.Subscript kj slice pos) env) Q E s:=by
 refine Subscript_ (wpAny_mono h (fun o s₁ h₁=>wpAny_mono h₁ (fun i s₂ h₂=>?_) fun _ _ x=>x) fun _ _ x=>x);obtain⟨hT,h₂⟩:=h₂;unfold subscriptTail;refine aa ?_;rw[getitemInPython_of_ne hT.not_modules];refine aa (wpAny_specialOf hT hl ?_);have fin:wpAny (model prog w) A (subscripted slice false o i) (fun r s₃=>wpAny (model prog w) A (letTemporaryGo kj o r>>=fun _=>pure r) Q E s₃) E s₂:=by rw[hs o i];exact wpAny_operating (wpAny_mono h₂ (fun r s₃ h₃=>aa (wpAny_letTemporaryGo (ah h₃))) fun _ _ x=>x)
 first
  |exact ah (aa fin)
  |exact aa (ah (aa fin))
  |exact aa fin
theorem A0{X:Cx}{jr:List (Addr×Obj)}{σ:St}{H:Hp}{s:Shared}{a:Addr}{y:V}{o:Option V}(I:Inv X jr σ H s)(g:lB H a y o):s.TypeIs (.ref a) "dict" :=by
 rcases g with⟨kvs,k,e,_,_⟩|⟨kvs,k,b,e,_,_,_⟩
 ·obtain⟨_,_,vs,_,dd⟩:=r9 I.hok e;exact dd.typeIs
 ·obtain⟨_,_,xs,_,dd⟩:=oN I.hok e;exact dd.typeIs
noncomputable def NX(td ty:TE):TE:=fun σ H Q=>td σ H fun x H1=>ty σ H1 fun y H2=>∃a v,x=.ref a/\lB H2 a y (some v)/\Q v H2
noncomputable def SU(ty td:TE):TE:=fun σ H Q=>ty σ H fun y H1=>td σ H1 fun x H2=>∃a o,x=.ref a/\lB H2 a y o/\Q (.bl o.isSome) H2
noncomputable def JO(ty td:TE):TE:=fun σ H Q=>ty σ H fun y H1=>td σ H1 fun x H2=>∃a o,x=.ref a/\lB H2 a y o/\Q (.bl (!o.isSome)) H2
noncomputable def O1(td ty tv:TE):TS:=fun D σ H=>tv σ H fun v H1=>td σ H1 fun x H2=>ty σ H2 fun y H3=>∃a H4,x=.ref a/\LG H3 a y v H4/\D.nx σ H4
section
variable {X:Cx}{o i e kj:Expr}{pos ku oa:Pos}{td ty tv:TE}
theorem fL(hu:X.A.units+1<cLine)(ho:PE X o td)(hi:PE X i ty)(hs:SJ i):PE X (.Subscript o i pos) (NX td ty):=by intro jr s σ H Q I h;refine JP PySem.F.slot_dict_getitem.lookup hs (thn (ho jr s σ H _ I h) fun u s1 ⟨x,H1,I1,rx,q1⟩=>thn (hi jr s1 σ H1 _ I1 q1) fun iv s2 ⟨y,H2,I2,ry,a,v,ex,g,q2⟩=>?_);subst ex;obtain rfl:u=Value.ref a:=rx;exact⟨A0 I2 g,FR hu I2 g ry fun w' s3 I3 rl=>⟨v,H2,I3,rl,q2⟩⟩
theorem B8(hu:X.A.units+1<cLine)(hi:PE X i ty)(ho:PE X o td):PC X .In i o (SU ty td):=by
 intro jr s σ H Q I h;refine thn (hi jr s σ H _ I h) fun iv s1 ⟨y,H1,I1,ry,q1⟩=>thn (ho jr s1 σ H1 _ I1 q1) fun u s2 ⟨x,H2,I2,rx,a,ov,ex,g,q2⟩=>?_
 subst ex;obtain rfl:u=Value.ref a:=rx;exact X5 hu I2 g ry fun s3 I3=>⟨.bl ov.isSome,H2,I3,rfl,q2⟩
theorem cW(hu:X.A.units+1<cLine)(hi:PE X i ty)(ho:PE X o td):PC X .NotIn i o (JO ty td):=by
 intro jr s σ H Q I h;refine thn (hi jr s σ H _ I h) fun iv s1 ⟨y,H1,I1,ry,q1⟩=>thn (ho jr s1 σ H1 _ I1 q1) fun u s2 ⟨x,H2,I2,rx,a,ov,ex,g,q2⟩=>?_
 subst ex;obtain rfl:u=Value.ref a:=rx;exact L1 hu I2 g ry fun s3 I3=>⟨.bl (!ov.isSome),H2,I3,rfl,q2⟩
theorem fK(hu:X.A.units+1<cLine)(ho:PE X o td)(hi:PE X i ty)(hv:PE X kj tv)(hs:swapsWith kj (some (.Subscript o i ku)) pos.line X.env=pure false):
  PS X (.Assign [.Subscript o i ku] kj pos) (O1 td ty tv):=by
 intro jr s σ H D I h;refine wpAny_Assign_Subscript (thn (hv jr s σ H _ I h) fun r s1 ⟨v,H1,I1,rv,q1⟩=>thn (ho jr s1 σ H1 _ I1 q1) fun u s2 ⟨x,H2,I2,rx,q2⟩=>thn (hi jr s2 σ H2 _ I2 q2) fun iv s3 ⟨y,H3,I3,ry,a,H4,ex,g,q3⟩=>?_) hs;subst ex;obtain rfl:u=Value.ref a:=rx;exact FQ hu I3 g ry rv fun s4 I4=>⟨σ,H4,I4,q3⟩
end
theorem J4{P:Program}{w:World}{H:Hp}(h:Heap)(hb:sysModules<h.objs.size):d9 P w H (h.push {cls:=.type "dict",data:=.dict #[]}) h.objs.size (.dT []):=
 ⟨cv _,beq_eq_false_iff_ne.mpr (Ne.symm (da hb)),[],.nil,_,#[],0,bb _ rfl,⟨rfl,rfl,rfl⟩,rfl,rfl,nodup_nil⟩
def M0:TE:=fun _ H Q=>∀p,H p=none->Q (.ref p) (upd H p (.dT []))
section
variable {X:Cx}{pos:Pos}
theorem eD:PE X (.Dict [] [] pos) M0:=fun jr s σ H Q I h=>
 wpAny_Dict_empty ⟨.ref s.heap.objs.size,_,I.laid (a:=s.heap.objs.size) (o:=.dT []) (t':=s.toks) (fun _ _ q=>aq _ q) (ax _) (J4 s.heap I.big),rfl,h _ (I.hok.fresh (ax _))⟩
end
structure M1(X:Cx)(o:Expr)(m:Str)(lh:Pos)(e:Expr)(jy:Pos):Prop where
 base:attributeBase o m X.env (eval o X.env)=eval o X.env
 few:((backTo jy (starEach [e] X.env)).all (fun x=>!x.1)&& (backToKw jy (keywordEach [] X.env)).all (fun x=>x.1.isSome)
  && decide (([e]:List Expr).length+([]:List Keyword).length+(if([]:List Keyword).isEmpty then 0 else 1)<30))=true
 line:(lh.endLine==jy.line)=true
 trees:backTo jy (starEach [e] X.env)=[(false,eval e X.env)]
structure M2(X:Cx)(o:Expr)(m:Str)(lh:Pos)(e f:Expr)(jy:Pos):Prop where
 base:attributeBase o m X.env (eval o X.env)=eval o X.env
 few:((backTo jy (starEach [e,f] X.env)).all (fun x=>!x.1)&& (backToKw jy (keywordEach [] X.env)).all (fun x=>x.1.isSome)
  && decide (([e,f]:List Expr).length+([]:List Keyword).length+(if([]:List Keyword).isEmpty then 0 else 1)<30))=true
 line:(lh.endLine==jy.line)=true
 trees:backTo jy (starEach [e,f] X.env)=[(false,eval e X.env),(false,eval f X.env)]
def IsD(H:Hp)(a:Addr):Prop:=(∃kvs,Rd H a (.dK kvs))\/∃kvs,Rd H a (.dT kvs)
theorem IP{X:Cx}{jr:List (Addr×Obj)}{σ:St}{H:Hp}{s:Shared}{a:Addr}(I:Inv X jr σ H s)(d:IsD H a):
  s.TypeIs (.ref a) "dict" /\(∀b,Value.ref a=.ref b->∃ob,s.heap.get? b=some ob/\ob.dict=none)/\(a==sysModules)=false:=by
 rcases d with⟨kvs,e⟩|⟨kvs,e⟩
 ·obtain⟨_,hd,vs,_,dd⟩:=r9 I.hok e;refine⟨dd.typeIs,fun b q=>?_,hd⟩;cases q;obtain⟨ob,_,_,h1,h2,_⟩:=dd;exact⟨ob,h1,h2.2.1⟩
 ·obtain⟨_,hd,xs,_,dd⟩:=oN I.hok e;refine⟨dd.typeIs,fun b q=>?_,hd⟩;cases q;obtain⟨ob,_,_,h1,h2,_⟩:=dd;exact⟨ob,h1,h2.2.1⟩
section
variable {X:Cx}{jr:List (Addr×Obj)}{σ:St}{H:Hp}{s:Shared}{a:Addr}{y d:V}{u r:Value}{o:Option V}{A:Around}{E:Value->Shared->Prop}
theorem NB{Q:Value->Shared->Prop}(hu:A.units+1<cLine)(I:Inv X jr σ H s)(g:lB H a y o)(ry:RelV y u)(h:∀w' s',Inv X jr σ H s'->RelV (o.getD .non) w'->Q w' s'):
  wpAny (model X.prog X.w) A (call (.builtin "dict.get") [.ref a,u]) Q E s:=by
 rcases g with⟨kvs,k,e,ey,l⟩|⟨kvs,k,b,e,ey,eb,l⟩
 ·subst ey;obtain⟨z,hd,vs,rel,dd⟩:=r9 I.hok e;refine call_meetsIn PySem.F.slot_dict_get dd.typeIs PySem.F.entry_dict_get (PySem.F.args_dict_get_2 _ _) (meets_dict_get (cD X.prog X.w) a (tJ ry) hd) ⟨_,dd.mapOf,h _ _ (I.tok _) ?_⟩;rw[l];exact(rel.val k).getD rfl
 ·subst ey;cases (show u=Value.ref b from ry);obtain⟨z,hd,xs,rel,dd⟩:=oN I.hok e;refine call_meetsIn PySem.F.slot_dict_get dd.typeIs PySem.F.entry_dict_get (PySem.F.args_dict_get_2 _ _) (meetsH_dict_get (tupleKind (cD X.prog X.w)) a b hd) ⟨tupleKind_room_in1 hu,k,xs,kJ I.hok eb,dd,h _ _ (I.tok _) ?_⟩;rw[l];exact(rel.val k).getD rfl
theorem NA{Q:Value->Shared->Prop}(hu:A.units+1<cLine)(I:Inv X jr σ H s)(g:lB H a y o)(ry:RelV y u)(rd:RelV d r)(h:∀w' s',Inv X jr σ H s'->RelV (o.getD d) w'->Q w' s'):
  wpAny (model X.prog X.w) A (call (.builtin "dict.get") [.ref a,u,r]) Q E s:=by
 rcases g with⟨kvs,k,e,ey,l⟩|⟨kvs,k,b,e,ey,eb,l⟩
 ·subst ey;obtain⟨z,hd,vs,rel,dd⟩:=r9 I.hok e;refine call_meetsIn PySem.F.slot_dict_get dd.typeIs PySem.F.entry_dict_get (PySem.F.args_dict_get_3 _ _ _) (meets_dict_get_default (cD X.prog X.w) a (tJ ry) hd r) ⟨_,dd.mapOf,h _ _ (I.tok _) ?_⟩;rw[l];exact(rel.val k).getD rd
 ·subst ey;cases (show u=Value.ref b from ry);obtain⟨z,hd,xs,rel,dd⟩:=oN I.hok e;refine call_meetsIn PySem.F.slot_dict_get dd.typeIs PySem.F.entry_dict_get (PySem.F.args_dict_get_3 _ _ _) (meetsH_dict_get_default (tupleKind (cD X.prog X.w)) a b hd r) ⟨tupleKind_room_in1 hu,k,xs,kJ I.hok eb,dd,h _ _ (I.tok _) ?_⟩;rw[l];exact(rel.val k).getD rd
end
noncomputable def M4(td ty:TE):TE:=fun σ H Q=>td σ H fun x H1=>∃a,x=.ref a/\IsD H1 a/\ty σ H1 fun y H2=>∃o,lB H2 a y o/\Q (o.getD .non) H2
noncomputable def M3(td ty tx:TE):TE:=fun σ H Q=>td σ H fun x H1=>∃a,x=.ref a/\IsD H1 a/\ty σ H1 fun y H2=>tx σ H2 fun z H3=>∃o,lB H3 a y o/\Q (o.getD z) H3
section
variable {X:Cx}{o e f:Expr}{lh jy:Pos}{td ty tx:TE}
theorem HI(hu:X.A.units+1<cLine)(ho:PE X o td)(he:PE X e ty)(m:M1 X o "get" lh e jy):PE X (.Call (.Attribute o "get" lh) [e] [] jy) (M4 td ty):=by intro jr s σ H Q I h;refine wpAny_Call_method m.base m.few m.line PySem.F.plainAttrs_dict PySem.F.slot_dict_get PySem.F.type_dict_get (thn (ho jr s σ H _ I h) fun u s1 ⟨x,H1,I1,rx,a,ex,d,q1⟩=>?_);subst ex;obtain rfl:u=Value.ref a:=rx;obtain⟨t1,t2,_⟩:=IP I1 d;refine⟨t1,t2,?_⟩;rw[m.trees];refine Calls.callWith_builtin rfl (Calls.evalArgs_plain (Calls.spliced_cons (thn (he jr s1 σ H1 _ I1 q1) fun iv s2 ⟨y,H2,I2,ry,ov,g,q2⟩=>Calls.spliced_nil ?_)));exact NB hu I2 g ry fun w' s3 I3 rl=>⟨_,H2,I3,rl,q2⟩
theorem HH(hu:X.A.units+1<cLine)(ho:PE X o td)(he:PE X e ty)(hf:PE X f tx)(m:M2 X o "get" lh e f jy):PE X (.Call (.Attribute o "get" lh) [e,f] [] jy) (M3 td ty tx):=by
 intro jr s σ H Q I h;refine wpAny_Call_method m.base m.few m.line PySem.F.plainAttrs_dict PySem.F.slot_dict_get PySem.F.type_dict_get (thn (ho jr s σ H _ I h) fun u s1 ⟨x,H1,I1,rx,a,ex,d,q1⟩=>?_);subst ex;obtain rfl:u=Value.ref a:=rx;obtain⟨t1,t2,_⟩:=IP I1 d;refine⟨t1,t2,?_⟩;rw[m.trees];refine Calls.callWith_builtin rfl (Calls.evalArgs_plain (Calls.spliced_cons (thn (he jr s1 σ H1 _ I1 q1) fun iv s2 ⟨y,H2,I2,ry,q2⟩=>
  Calls.spliced_cons (thn (hf jr s2 σ H2 _ I2 q2) fun fv s3 ⟨z,H3,I3,rz,ov,g,q3⟩=>Calls.spliced_nil ?_))))
 exact NA hu I3 g ry rz fun w' s4 I4 rl=>⟨_,H3,I4,rl,q3⟩
end
theorem tG:typeLookup (.type "list") "keys" =pure none:=am_miss_of_fast (by first|decide+kernel|rfl)
theorem xZ:entryFor table "dict.update.loop" =some Builtin.«dict.update.loop» :=entryFor_of_tree (by kernel_rfl)
theorem k8:plainId "dict.update.loop" =true:=by decide+kernel
section
variable {prog:Program}{w:World}{A:Around}{E:Value->Shared->Prop}
theorem EU{s:Shared}{a:Addr}{o:Obj}{xs:Array Value}{k:Nat}{Q:Option Value->Shared->Prop}(hx:s.heap.get? a=some o)(hc:o.cls=.type "list")(lg:o.data=.seq xs k)(hd:o.dict=none)(hA:A.handled=none)
  (h:∀h' tk,(∀b ob,s.heap.get? b=some ob->h'.get? b=some ob)->Q none {s with heap:=h',toks:=tk}):wpAny (model prog w) A (getAttr? (.ref a) "keys") Q E s:=by
 obtain⟨c,dct,dat,sl⟩:=o;simp only at hc lg hd;subst hc lg hd;obtain⟨hp,g,d,tk,os⟩:=s;have hT:∀tk',(⟨hp,g,d,tk',os⟩:Shared).TypeIs (.ref a) "list" :=fun _=>⟨_,hx,rfl⟩
 have Cs:=tG;have Cq:(["__module__","__name__","__qualname__","__doc__","__annotations__"]:List Str).contains "keys" =false:=by decide+kernel
 have hsz:("keys" : Str).length+100<=sizeLine:=by first|size_fits|decide+kernel
 have f1:=sub_AttributeError;have f3:=PySem.F.slot_list_getattribute.lookup;have f4:=PySem.F.slot_list_getattribute.bind (.ref a);have f5:=am_list_getattr_none;unfold getAttr? getAttrBy? getAttrBy
 repeat (any_goals (first|assumption|exact hT _|((with_reducible show wpAny _ _ (call (Value.builtin "list.__getattribute__") _ _) _ _ _);refine call_meets PySem.F.slot_list_getattribute (hT _) am_entry_list_getattribute (PySem.F.args_list_getattribute_2 _ _) (meets_getattribute_miss_list a xs k sl "keys" _ Cs Cq hsz) ⟨hx,hA,fun h' tk' e Ap=>?_⟩)|wp_step))
 obtain⟨t',u',he⟩:=Ap.there;show wpAny _ _ (getattributeRaised _ _ _ _ _ _ _) _ _ _
 unfold getattributeRaised
 repeat (any_goals (first|assumption|wp_step))
 all_goals first|exact h _ _ Ap.keeps|(dsimp only;repeat (any_goals (first|assumption|exact h _ _ Ap.keeps|wp_step)))
end
section
variable {X:Cx}
theorem j5:∀{ps:List Addr}{us:List Value},Vals (ps.map V.ref) us->us=ps.map Value.ref
 |[],us,r=>by rw[jd]at r;cases r;rfl
 |p::ps,us,r=>by
  rw[bp]at r;cases r with
  |cons h t=>cases h;rw[bp,<- j5 t]
end
section
variable {X:Cx}{jr:List (Addr×Obj)}{σ:St}{H:Hp}{s:Shared}{h':Heap}
theorem Inv.uV{t':Nat}{ch:List Addr}{T:Addr}{ob:HO}(I:Inv X jr σ H s)(k:∀b o,b∉ch->s.heap.get? b=some o->h'.get? b=some o)(hf:∀b∈ch,mV X jr H b)(hT:s.heap.objs.size<=T)
  (new:d9 X.prog X.w (upd H T ob) h' T ob):Inv X jr σ (upd H T ob) {s with heap:=h',toks:=t'}:=by
 have hn:H T=none:=I.hok.fresh hT;have Bq:∀b u,H b=some u->b∉ch:=fun b u e z=>by have q:=(hf b z).1;rw[q]at e;cases e
 refine I.step (g':=s.gens) (d':=s.drawn) (ch:=ch) (fun b hb=>⟨(hf b hb).2.2.2.1,(hf b hb).2.1,(hf b hb).2.2.2.2.1,(hf b hb).2.2.2.2.2⟩) (fun b o _ _ hc e _=>k b o hc e) (fun b o _ _ hc e _=>⟨o.slots,k b o hc e⟩)
  (fun b o _ e n=>?_) (fun b o hc e=>⟨o,k b o hc e⟩) (fun b xs e=>?_) (fun b o u e=>?_) (fun b ps e=>⟨#[],?_⟩) (fun m hm=>?_) (fun b u e=>?_) I.bare
 ·rw[aC (da (cc (bq e) hT))];exact n
 ·rw[aC (aI e hn)];exact e
 ·rw[aC (aI e hn)];exact e
 ·rw[aC (aI e hn),e];simp
 ·obtain⟨o,es,ep,ho,r⟩:=hm;exact⟨o,es,ep,k _ o (fun z=>(hf _ z).2.1 rfl) ho,r⟩
 ·by_cases hb:b=T
  ·subst hb;rw[a8]at e;cases e;exact new
  ·rw[aC hb]at e;refine(I.hok b u e).n9 (fun c v hc q=>k c v ?_ q) (fun c q=>by rw[aC (aI q hn)];exact q) fun c xs q=>by rw[aC (aI q hn)];exact q
   rcases hc with z|z
   ·rw[z];exact Bq b u e
   ·exact Bq c _ z
theorem Inv.lock{d:Addr}{u:HO}(I:Inv X jr σ H s)(h:H d=some u)(mu:Mut (some u)):∃od,Inv X jr σ (upd H d (.frz od u)) s:=by
 have x:=I.hok d u h;have ex:∃od,s.heap.get? d=some od:=by
  cases u with
  |lst xs=>obtain⟨_,_,_,_,e⟩:=x;exact⟨_,e⟩
  |dK kvs=>obtain⟨_,_,_,_,o,_,_,e,_⟩:=x;exact⟨o,e⟩
  |dT kvs=>obtain⟨_,_,_,_,o,_,_,e,_⟩:=x;exact⟨o,e⟩
  |set S n=>obtain⟨o,_,_,_,e,_⟩:=x;exact⟨o,e⟩
  |ins C dx fs=>obtain⟨_,_,_,e,_⟩:=x;exact⟨_,e⟩
  |ext φ=>obtain⟨_,⟨_,e⟩,_⟩:=x;exact⟨_,e⟩
  |_=>exact False.elim mu
 obtain⟨od,e⟩:=ex;have new:d9 X.prog X.w (upd H d (.frz od u)) s.heap d (.frz od u):=by
  refine⟨e,x.n9 (fun b v _ q=>q) (fun b q=>?_) fun b xs q=>?_⟩
  ·rw[aC (fun z=>by rw[z,h]at q;cases q;exact mu)];exact q
  ·rw[aC (fun z=>by rw[z,h]at q;cases q;exact mu)];exact q
 exact⟨od,I.write (x:=d) (e:=d) (t':=s.toks) (h':=s.heap) (by rw[h];exact mu) (.inl rfl) (fun b v _ q=>q) ⟨od,e⟩ new⟩
theorem Inv.vL{d:Addr}{u:HO}(I:Inv X jr σ H s)(h:H d=some u)(mu:Mut (some u)):∀o' u',X.H_0 d≠some (.frz o' u'):=fun o' u' e=>by have q:=I.base.nZ d o' u' e;rw[h]at q;cases q;exact mu
theorem Inv.unlock{d:Addr}{od:Obj}{u:HO}(I:Inv X jr σ H s)(h:H d=some (.frz od u))(hn:∀o' u',X.H_0 d≠some (.frz o' u')):Inv X jr σ (upd H d u) s:=by
 have An:∀b o,H b=some o->(∀o' u',o≠ .frz o' u')->b≠d:=fun b o e jv z=>by rw[z,h]at e;cases e;exact jv _ _ rfl
 have neN:∀b,H b=none->b≠d:=fun b e z=>by rw[z,h]at e;cases e
 refine⟨I.ok,I.os,I.bare,⟨I.base.keep,I.base.slot,fun b o e n hx=>?_,I.base.there,fun b xs e=>?_,fun b o x e=>?_,fun b ps e=>?_⟩,I.loc,I.cell,?_,fun x c e=>?_,fun p hp=>?_,fun b o e=>?_,I.len⟩
 ·rw[aC (neN b (I.base.free b o e n hx))];exact I.base.free b o e n hx
 ·have q:=I.base.uD b xs e;rw[aC (An b _ q (fun _ _ z=>nomatch z))];exact q
 ·have q:=I.base.nZ b o x e;rw[aC (fun z=>by rw[z]at e;exact hn _ _ e)];exact q
 ·obtain⟨m,q⟩:=I.base.sD b ps e;exact⟨m,by rw[aC (An b _ q (fun _ _ z=>nomatch z))];exact q⟩
 ·rw[aC (neN _ I.free)];exact I.free
 ·rw[aC (neN c (I.hV x c e))];exact I.hV x c e
 ·obtain⟨e,n,r⟩:=I.pin p hp;exact⟨e,by rw[aC (neN _ n)];exact n,r⟩
 ·by_cases hb:b=d
  ·rw[hb,a8]at e;cases e;rw[hb];obtain⟨_,x⟩:=I.hok d _ h;exact x.n9 (fun c v _ q=>q) (fun c q=>by rw[aC (An c _ q (fun _ _ z=>nomatch z))];exact q) fun c xs q=>by rw[aC (An c _ q (fun _ _ z=>nomatch z))];exact q
  ·rw[aC hb]at e;exact(I.hok b o e).n9 (fun c v _ q=>q) (fun c q=>by rw[aC (An c _ q (fun _ _ z=>nomatch z))];exact q) fun c xs q=>by rw[aC (An c _ q (fun _ _ z=>nomatch z))];exact q
end
noncomputable def NU(t:TS):TS:=fun D σ H=>∃d u,H d=some u/\Mut (some u)/\∀od,t ⟨fun σ' H'=>H' d=some (.frz od u)/\D.nx σ' (upd H' d u),fun v H'=>H' d=some (.frz od u)/\D.rt v (upd H' d u),fun σ' H'=>H' d=some (.frz od u)/\D.bk σ' (upd H' d u),fun σ' H'=>H' d=some (.frz od u)/\D.ct σ' (upd H' d u)⟩ σ (upd H d (.frz od u))
noncomputable def LZ(t:TE):TE:=fun σ H Q=>∃d u,H d=some u/\Mut (some u)/\∀od,t σ (upd H d (.frz od u)) fun v H'=>H' d=some (.frz od u)/\Q v (upd H' d u)
section
variable {X:Cx}
theorem lG{st:Stmt}{t:TS}(h:PS X st t):PS X st (NU t):=by
 intro jr s σ H D I hw;obtain⟨d,u,hd,mu,hw⟩:=hw;obtain⟨od,I1⟩:=I.lock hd mu;refine thn (h jr s σ _ _ I1 (hw od)) fun f s1 q=>?_
 cases f with
 |next=>obtain⟨σ',H',I2,e,q⟩:=q;exact⟨σ',_,I2.unlock e (I.vL hd mu),q⟩
 |brk=>obtain⟨σ',H',I2,e,q⟩:=q;exact⟨σ',_,I2.unlock e (I.vL hd mu),q⟩
 |cont=>obtain⟨σ',H',I2,e,q⟩:=q;exact⟨σ',_,I2.unlock e (I.vL hd mu),q⟩
 |ret v=>obtain⟨x,σ',H',I2,r,e,q⟩:=q;exact⟨x,σ',_,I2.unlock e (I.vL hd mu),r,q⟩
theorem JX{e:Expr}{t:TE}(h:PE X e t):PE X e (LZ t):=by
 intro jr s σ H Q I hw;obtain⟨d,u,hd,mu,hw⟩:=hw;obtain⟨od,I1⟩:=I.lock hd mu;refine thn (h jr s σ _ _ I1 (hw od)) fun v s1 ⟨x,H1,I2,r,e2,q⟩=>?_
 exact⟨x,_,I2.unlock e2 (I.vL hd mu),r,q⟩
theorem B6{tg:Expr}{jr:List (Addr×Obj)}{σ:St}{H:Hp}{s:Shared}{R:It->Hp->Prop}{J:It}{tn:Nat->Heap->Prop}{tk:Nat}(I:Inv X jr σ H s)(o:Obj)
  (T:Turn X.prog X.w X.K tg J [s.heap.objs.size] s.heap.objs.size tn) (st:tn 0 (s.heap.push o)) (q:R J H):PIE X jr σ tg R (.ref s.heap.objs.size) {s with heap:=s.heap.push o,toks:=tk}:=by
 refine⟨s.heap.objs.size,[s.heap.objs.size],tn,J,H,rfl,I.kept fun b ob e=>aq _ e,T,st,fun b hb=>?_,q⟩;have e:b=s.heap.objs.size:=by simpa using hb
 subst e;exact I.C1 (ax _) (I.hok.fresh (ax _))
end
section
variable {prog:Program}{w:World}{A:Around}{E:Value->Shared->Prop}{s:Shared}
theorem pR{d:Addr}{o:Obj}{es:Array DictEntry}{ep:Nat}{Q:Value->Shared->Prop}(hd:(d==sysModules)=false)(ho:s.heap.get? d=some o)(hc:o.ExactDict)(lg:o.data=.dict es ep)
  (hQ:Q (.ref s.heap.objs.size) {s with heap:=s.heap.push {cls:=.type "dict_keyiterator",data:=.fields #[.ref d,.int 0 0,.int es.size 0,.int ep 0]}}):
  wpAny (model prog w) A (pyIter (.ref d)) Q E s:=by
 have hT:s.TypeIs (.ref d) "dict" :=⟨o,ho,hc.1⟩;refine wpAny_pyIter_slot hT F.slot_dict_iter (wpAny_call_entry F.slot_dict_iter hT F.entry_dict_iter ?_ (F.args_dict_iter_1 _));unfold Builtin.«dict.__iter__»;refine aa ?_;unfold Builtin.Dict.dictSlotNone;refine aa (wpAny_notOrdered_dict hT ?_);show wpAny _ _ (pure (Value.ref d)) _ _ s
 refine ah ?_;show wpAny _ _ (Builtin.Dict.showsAll d>>= _) _ _ s
 unfold Builtin.Dict.showsAll;rw[af (by rw[hd];exact bo)];refine aa (ah ?_);refine aa (wpAny_dictEntries ho lg ?_);refine aa (wpAny_dictEpoch ho lg ?_);refine aa (wpAny_newObj_type (ah ⟨_,rfl,"dict_keyiterator",_,⟨_,bb _ rfl,rfl⟩,F.slot_dict_keyiterator_next.lookup,?_⟩));simpa[rawInt]using hQ
theorem mB{it d:Addr}{i n ep:Nat}{od:Obj}{es:Array DictEntry}{en:DictEntry}{Q:Option Value->Shared->Prop}(km:s.heap.IsKeyIter it d i n ep)(qo:s.heap.get? d=some od)(ui:od.data=.dict es ep)
  (hsz:es.size=n) (hx:es[i]? =some en) (hQ:∀h',h'.IsKeyIter it d (i+1) n ep->Heap.SameBut it s.heap h'->Q (some en.key) {s with heap:=h'}):wpAny (model prog w) A (pyNext (.ref it)) Q E s:=by
 obtain⟨o,ho,hc,hd⟩:=id km;unfold pyNext;refine aa (wpAny_attempt (wpAny_callSpecial?_slot (name:=Str.ofString "__next__") km.typeIs F.slot_dict_keyiterator_next
  (wpAny_call_entry F.slot_dict_keyiterator_next km.typeIs F.entry_dict_keyiterator_next ?_ (F.args_dict_keyiterator_next_1 _))))
 refine aa (ah ?_);refine aa ?_;refine aa ?_;first|refine aa (wpAny_typeNameOfWhole_keyiter km.typeIs (ah ?_))|refine aa (wpAny_typeNameOf_keyiter km.typeIs (ah ?_))
 refine aa (wpAny_fieldsOf ho hd ?_);have zo:Builtin.Dict_items.ownsTuple "dict_keyiterator" =false:=by decide
 simp only[zo,iu,if_false];show wpAny _ _ (if(Value.ref d==Value.none)=true then _ else _) _ _ s
 rw[af (show¬((Value.ref d==Value.none)=true)from bo)];refine aa (ah ?_);refine aa (wpAny_dictEntries qo ui ?_);rw[af (by rw[hsz];simp)];refine aa (ah ?_);refine aa (wpAny_dictEpoch qo ui ?_);rw[af (by simp)];refine ah ?_;obtain⟨hlt',qh⟩:=gr.mp hx;simp only[show¬((i:Int)<0)from by omega,if_false,jq,gc hlt'];refine aa ?_;first|refine aa (wpAny_typeNameOfWhole_keyiter km.typeIs (ah ?_))|refine aa (wpAny_typeNameOf_keyiter km.typeIs (ah ?_))
 refine aa (wpAny_isOneOf_keyiter km.typeIs ?_);show wpAny _ _ (setField (.ref it) 1 (rawInt ((i:Int)+1))>>= _) _ _ s
 refine aa (wpAny_setField ho hd (by simp) ?_);have wj:(s.heap.update it (Obj.mapFields (·.setIfInBounds 1 (rawInt ((i:Int)+1))))).IsKeyIter it d (i+1) n ep:=
  ⟨_,Heap.get?_update_self _ ho (Obj.isFreed_of_fields (Obj.data_mapFields hd _)),(Obj.cls_mapFields ..).trans hc,by rw[Obj.data_mapFields hd];simp[rawInt]⟩
 refine aa (wpAny_holding ?_);refine aa (wpAny_isOneOf_keyiter (s:={s with heap:=s.heap.update it (Obj.mapFields (·.setIfInBounds 1 (rawInt ((i:Int)+1))))}) wj.typeIs ?_);show wpAny _ _ (pure es[i].key) _ _ _
 rw[qh];exact ah (ah ⟨_,rfl,ah (hQ _ wj (Heap.SameBut.update ..))⟩)
theorem j9{it d:Addr}{i n ep:Nat}{od:Obj}{es:Array DictEntry}{Q:Option Value->Shared->Prop}(hh:A.handled=none)(km:s.heap.IsKeyIter it d i n ep)(qo:s.heap.get? d=some od)(ui:od.data=.dict es ep)
  (hsz:es.size=n) (zw:n<=i) (hQ:∀h',Heap.ExtBut it s.heap h'->Q none {s with heap:=h'}):wpAny (model prog w) A (pyNext (.ref it)) Q E s:=by
 obtain⟨o,ho,hc,hd⟩:=id km;unfold pyNext;refine aa (wpAny_attempt (wpAny_callSpecial?_slot (name:=Str.ofString "__next__") km.typeIs F.slot_dict_keyiterator_next
  (wpAny_call_entry F.slot_dict_keyiterator_next km.typeIs F.entry_dict_keyiterator_next ?_ (F.args_dict_keyiterator_next_1 _))))
 refine aa (ah ?_);refine aa ?_;refine aa ?_;first|refine aa (wpAny_typeNameOfWhole_keyiter km.typeIs (ah ?_))|refine aa (wpAny_typeNameOf_keyiter km.typeIs (ah ?_))
 refine aa (wpAny_fieldsOf ho hd ?_);have zo:Builtin.Dict_items.ownsTuple "dict_keyiterator" =false:=by decide
 simp only[zo,iu,if_false];show wpAny _ _ (if(Value.ref d==Value.none)=true then _ else _) _ _ s
 rw[af (show¬((Value.ref d==Value.none)=true)from bo)];refine aa (ah ?_);refine aa (wpAny_dictEntries qo ui ?_);rw[af (by rw[hsz];simp)];refine aa (ah ?_);refine aa (wpAny_dictEpoch qo ui ?_);rw[af (by simp)];refine ah ?_;have hge':es.size<=i:=by rw[hsz];exact zw
 simp only[show¬((i:Int)<0)from by omega,if_false,jq,getElem?_eq_none hge'];refine aa ?_;first|refine aa (wpAny_typeNameOfWhole_keyiter km.typeIs (ah ?_))|refine aa (wpAny_typeNameOf_keyiter km.typeIs (ah ?_))
 show wpAny _ _ (setField (.ref it) 0 .none>>= _) _ _ s
 refine aa (wpAny_setField ho hd (by simp) ?_);show wpAny _ _ (newExc (.type "StopIteration") []>>= _) _ _ _
 refine aa ?_;simp only[newExc,newTuple];refine aa (wpAny_newObj_type ?_ (by size_fits));refine aa (m:=firstArgMember _ _) (wpAny_of_eq (a:=Value.none) (by first|rfl|(simp only[firstArgMember];rfl)) ?_);refine wpAny_newObj_type ?_ (by size_fits);simp only[raiseNew];refine aa (wpAny_handled ?_);rw[show A.in1.handled=none from hh];refine aa (ah (wpAny_throw ?_));refine aa (wpAny_isInstance (T:= "StopIteration") (b:=true) ⟨_,bb _ rfl,rfl⟩ isSubtype_stop ?_);exact ah (hQ _ (((Heap.SameBut.update ..).extBut.push _).push _))
end
theorem MK{κ:Type}{kvs:List (κ×V)}{vs:List (κ×Value)}(h:KV kvs vs):∀{i:Nat}{k:κ}{v:V},kvs[i]? =some (k,v)->∃u,vs[i]? =some (k,u)/\RelV v u:=by
 unfold KV at h;induction h with
 |nil=>intro i k v e;simp at e
 | @cons a b l₁ l₂ r t ih=>
  intro i k v e;cases i with
  |zero=>simp only[List.getElem?_cons_zero,Option.some.injEq]at e;subst e;refine⟨b.2,?_,r.2⟩;simp only[List.getElem?_cons_zero];exact congrArg some (Prod.ext r.1.symm rfl)
  |succ j=>simp only[gz]at e ⊢;exact ih e
theorem B9{α β:Type}{G:α->β->Prop}{l₁:List α}{l₂:List β}(h:Paired G l₁ l₂):∀{i:Nat}{a:α},l₁[i]? =some a->∃b,l₂[i]? =some b/\G a b:=by
 induction h with
 |nil=>intro i a e;simp at e
 | @cons a b l₁ l₂ r t ih=>
  intro i a' e;cases i with
  |zero=>simp only[List.getElem?_cons_zero,Option.some.injEq]at e;subst e;exact⟨b,rfl,r⟩
  |succ j=>simp only[gz]at e ⊢;exact ih e
theorem GU{k:Key}{u:Value}(h:qV k u=true):RelV (kV k) u:=by
 rcases cJ h with⟨i,t,rfl,rfl⟩|⟨x,t,rfl,rfl⟩
 ·exact⟨t,rfl⟩
 ·exact⟨t,rfl⟩
section
variable {X:Cx}{jr:List (Addr×Obj)}{σ:St}{H:Hp}{s:Shared}{d:Addr}{o:Obj}
theorem Inv.MV{kvs:List (Key×V)}(I:Inv X jr σ H s)(h:H d=some (.frz o (.dK kvs))):
  (d==sysModules)=false/\s.heap.get? d=some o/\o.ExactDict/\∃(es:Array DictEntry)(ep:Nat)(vs:List (Key×Value)),o.data=.dict es ep/\es.size=kvs.length/\KV kvs vs/\s.heap.DictAt (cD X.prog X.w) d vs ep:=by
 obtain⟨hd,z,hs,vs,kv,o',es,ep,ho,hx,oj,r⟩:=I.hok d _ h;rw[hd]at ho;cases ho;refine⟨hs,hd,hx,es,ep,vs,oj,?_,kv,o,es,hd,hx,oj,r⟩;have l1:=r.2.1.length;have l2:kvs.length=vs.length:=Paired.length kv;rw[dq]at l1;omega
theorem Inv.MU{kvs:List (List Key×V)}(I:Inv X jr σ H s)(h:H d=some (.frz o (.dT kvs))):
  (d==sysModules)=false/\s.heap.get? d=some o/\o.ExactDict/\∃(es:Array DictEntry)(ep:Nat),o.data=.dict es ep/\es.size=kvs.length/\
   ∀(i:Nat)(k:List Key)(v:V),kvs[i]? =some (k,v)->∃(en:DictEntry)(q:Addr),es[i]? =some en/\en.key=.ref q/\H q=some (.tup (k.map kV)):=by
 obtain⟨hd,z,hs,xs,pr,o',es,ep,ho,hx,oj,he,_⟩:=I.hok d _ h;rw[hd]at ho;cases ho;refine⟨hs,hd,hx,es,ep,oj,?_,fun i k v e=>?_⟩
 ·have l1:es.size=xs.length:=size_of_entries he;have l2:kvs.length=xs.length:=Paired.length pr;omega
 ·obtain⟨b,hb,e1,e2,_⟩:=B9 pr e;have q:=entry_at he i;rw[hb]at q;exact⟨_,b.2.1,q,rfl,e2⟩
end
noncomputable def Itk(d:Addr)(o:Obj)(kvs:List (Key×V)):It:=
 ⟨fun i H=>H d=some (.frz o (.dK kvs))/\i<kvs.length,fun i H x H'=>H'=H/\∃k v,kvs[i]? =some (k,v)/\x=kV k,fun i H=>H d=some (.frz o (.dK kvs))/\kvs.length<=i⟩
noncomputable def AD(d:Addr)(o:Obj)(kvs:List (List Key×V)):It:=
 ⟨fun i H=>H d=some (.frz o (.dT kvs))/\i<kvs.length,fun i H x H'=>H'=H/\∃(k:List Key)(v:V)(q:Addr),kvs[i]? =some (k,v)/\x=.ref q/\H q=some (.tup (k.map kV)),fun i H=>H d=some (.frz o (.dT kvs))/\kvs.length<=i⟩
theorem oO{o:Obj}{es uo:Array DictEntry}{ep ur:Nat}(h:o.data=.dict es ep)(h':o.data=.dict uo ur):uo=es/\ur=ep:=by rw[h]at h';cases h';exact⟨rfl,rfl⟩
section
variable {P:Program}{w:World}{K:W.Frag}{tg:Expr}{d:Addr}{o:Obj}{es:Array DictEntry}{ep:Nat}
theorem EB{kvs:List (Key×V)}(it:Addr)(qo:o.data=.dict es ep):Turn P w K tg (Itk d o kvs) [it] it (fun i h=>h.IsKeyIter it d i kvs.length ep) where
 mem:=by simp
 obj:=fun i h st b hb=>by
  have e:b=it:=by simpa using hb
  subst e;obtain⟨oi,e,c,dd⟩:=st;exact⟨oi,e,fun v z=>by rw[dd]at z;cases z⟩
 keep:=fun i h h' st k=>st.at fun oi e=>k it (by simp) oi e
 item:=by
  intro X hP hw hK hc i jr s σ H E I hf st hg;subst hP hw hK;obtain⟨hd,hi⟩:=hg;obtain⟨f0,f1,f2,f3,f4,f5⟩:=hf it (by simp);obtain⟨hs,vh,hx,uo,ur,vs,oj,hsz,kv,hm⟩:=I.MV hd;obtain⟨rfl,rfl⟩:=oO qo oj;obtain⟨⟨k,v⟩,zt⟩:∃p,kvs[i]? =some p:=⟨kvs[i],bj hi⟩
  obtain⟨u,hu,ru⟩:=MK kv zt;have hl:kvs.length=vs.length:=Paired.length kv;rw[hl]at st;refine wpAny_pyNext_dict_item st hm hu fun key h' oh ph sb=>?_
  have I1:Inv X jr σ H {s with heap:=h'}:=I.turned (t':=s.toks) (fun b ob hb e=>(sb.2 b hb).trans e) f0 f1 f3 f4 f5;obtain⟨oi,e,c,dd⟩:=id ph;refine⟨key,rfl,zM (s:={s with heap:=h'}) e c dd (by decide) ⟨kV k,H,I1,GU (show qV k key=true from oh),⟨rfl,k,v,zt,rfl⟩,?_,fun b hb=>(hf b hb).1⟩⟩;show h'.IsKeyIter it d (i+1) kvs.length _
  rw[hl];exact ph
 done:=by intro X hP hw hK hc i jr s σ H E I hf st hg;subst hP hw hK;obtain⟨hd,hi⟩:=hg;obtain⟨f0,f1,f2,f3,f4,f5⟩:=hf it (by simp);obtain⟨hs,vh,hx,uo,ur,vs,oj,hsz,kv,hm⟩:=I.MV hd;obtain⟨rfl,rfl⟩:=oO qo oj;exact j9 (I.ok.hd hc) st vh oj hsz hi fun h' eb=>⟨rfl,I.turned (t':=s.toks) (fun b ob hb e=>eb b ob hb e) f0 f1 f3 f4 f5⟩
 self:=fun A i s Q E st h=>wpAny_pyIter_keyiter st h
theorem AO{kvs:List (List Key×V)}(it:Addr)(qo:o.data=.dict es ep):Turn P w K tg (AD d o kvs) [it] it (fun i h=>h.IsKeyIter it d i kvs.length ep) where
 mem:=by simp
 obj:=fun i h st b hb=>by
  have e:b=it:=by simpa using hb
  subst e;obtain⟨oi,e,c,dd⟩:=st;exact⟨oi,e,fun v z=>by rw[dd]at z;cases z⟩
 keep:=fun i h h' st k=>st.at fun oi e=>k it (by simp) oi e
 item:=by
  intro X hP hw hK hc i jr s σ H E I hf st hg;subst hP hw hK;obtain⟨hd,hi⟩:=hg;obtain⟨f0,f1,f2,f3,f4,f5⟩:=hf it (by simp);obtain⟨hs,vh,hx,uo,ur,oj,hsz,Bb⟩:=I.MU hd;obtain⟨rfl,rfl⟩:=oO qo oj;obtain⟨⟨k,v⟩,zt⟩:∃p,kvs[i]? =some p:=⟨kvs[i],bj hi⟩
  obtain⟨en,q,qh,oh,hq⟩:=Bb i k v zt;refine mB st vh oj hsz qh fun h' ph sb=>?_
  have I1:Inv X jr σ H {s with heap:=h'}:=I.turned (t':=s.toks) (fun b ob hb e=>(sb.2 b hb).trans e) f0 f1 f3 f4 f5;obtain⟨oi,e,c,dd⟩:=id ph;exact⟨en.key,rfl,zM (s:={s with heap:=h'}) e c dd (by decide) ⟨.ref q,H,I1,oh,⟨rfl,k,v,q,zt,rfl,hq⟩,ph,fun b hb=>(hf b hb).1⟩⟩
 done:=by intro X hP hw hK hc i jr s σ H E I hf st hg;subst hP hw hK;obtain⟨hd,hi⟩:=hg;obtain⟨f0,f1,f2,f3,f4,f5⟩:=hf it (by simp);obtain⟨hs,vh,hx,uo,ur,oj,hsz,Bb⟩:=I.MU hd;obtain⟨rfl,rfl⟩:=oO qo oj;exact j9 (I.ok.hd hc) st vh oj hsz hi fun h' eb=>⟨rfl,I.turned (t':=s.toks) (fun b ob hb e=>eb b ob hb e) f0 f1 f3 f4 f5⟩
 self:=fun A i s Q E st h=>by
  refine wpAny_pyIter_slot st.typeIs F.slot_dict_keyiterator_iter (wpAny_call_entry F.slot_dict_keyiterator_iter st.typeIs F.entry_dict_keyiterator_iter ?_ (F.args_dict_keyiterator_iter_1 _));show wpAny _ _ (ret (.ref it)) _ _ s
  exact ah ⟨_,rfl,"dict_keyiterator",_,st.typeIs,F.slot_dict_keyiterator_next.lookup,h⟩
end
noncomputable def S7(td:TE):TI:=fun σ H R=>td σ H fun x H1=>∃d o,x=.ref d/\((∃kvs,H1 d=some (.frz o (.dK kvs))/\R (Itk d o kvs) H1)\/∃kvs,H1 d=some (.frz o (.dT kvs))/\R (AD d o kvs) H1)
section
variable {X:Cx}{tg e:Expr}{td:TE}{lh jy:Pos}
theorem nG(he:PE X e td):PI X tg e (S7 td):=by
 intro jr s σ H R I h;refine thn (he jr s σ H _ I h) fun u s1 ⟨x,H1,I1,rx,d,o,ex,q⟩=>?_
 subst ex;obtain rfl:u=Value.ref d:=rx;rcases q with⟨kvs,hd,q⟩|⟨kvs,hd,q⟩
 ·obtain⟨hs,vh,hx,es,ep,vs,oj,hsz,kv,hm⟩:=I1.MV hd;refine pR hs vh hx oj (B6 (tk:=s1.toks) I1 _ (EB _ oj) ⟨_,bb _ rfl,rfl,?_⟩ q);rw[hsz]<;>rfl
 ·obtain⟨hs,vh,hx,es,ep,oj,hsz,Bb⟩:=I1.MU hd;refine pR hs vh hx oj (B6 (tk:=s1.toks) I1 _ (AO _ oj) ⟨_,bb _ rfl,rfl,?_⟩ q);rw[hsz]<;>rfl
end
noncomputable def Ite(K:W.Frag)(a:Addr):It:=
 ⟨fun i H=>∃(xs:List V)(x:V),SqL K H a xs/\xs[i]? =some x,fun i H v H'=>∃T x,v=.ref T/\H T=none/\H'=upd H T (.tup [.int (i:Nat),x])/\∀xs,SqL K H a xs->xs[i]? =some x,fun i H=>∃xs:List V,SqL K H a xs/\xs.length<=i⟩
theorem ED{P:Program}{w:World}{K:W.Frag}{qk:List Expr}{kk:Nat}{oa:Pos}(a e it:Addr):
  Turn P w K (.Tuple qk kk oa) (Ite K a) [e,it] e (fun i h=>(∃old,IsEnum h e it ((i:Nat):Int) old)/\h.IsListIter it a i/\e≠it) where
 mem:=by simp
 obj:=fun i h st b hb=>by
  obtain⟨⟨old,he⟩,⟨o,ho,hc,hd⟩,_⟩:=st;have e':b=e\/b=it:=by simpa using hb
  rcases e' with z|z
  ·rw[z];exact⟨_,he,fun v q=>nomatch q⟩
  ·rw[z];exact⟨o,ho,fun v q=>by rw[hd]at q;cases q⟩
 keep:=fun i h h' st k=>let⟨⟨old,he⟩,hi,jv⟩:=st;⟨⟨old,k e (by simp) _ he⟩,hi.at fun o q=>k it (by simp) o q,jv⟩
 item:=by
  intro X hP hw hK hc i jr s σ H E I hf st hg;subst hP hw hK;obtain⟨⟨old,he⟩,km,jv⟩:=st;obtain⟨xs,x,hq,hx⟩:=hg;obtain⟨its,rv,p,hz⟩:=I.list hq;obtain⟨u,hu,ru⟩:=rv.get hx;have hel:e<s.heap.objs.size:=bq he;have rj:it<s.heap.objs.size:=by obtain⟨_,q,_⟩:=km;exact bq q
  refine wpAny_pyNext_enum_item he km p.isList (x:=u) (by simpa using hu) jv fun h' ho wj hT hsz hk=>?_
  refine⟨_,rfl,wpAny_letOwnedTupleGo_enum (s:={s with heap:=h',toks:=s.toks+1}) ho fun xc De sb=>?_⟩;have yc:xc.get? s.heap.objs.size=some {cls:=.type "tuple",data:=.seq #[.int i s.toks,u]}:=(sb.2 _ (jj hel)).trans hT;have new:d9 X.prog X.w (upd H s.heap.objs.size (.tup [.int (i:Nat),x])) xc s.heap.objs.size (.tup [.int (i:Nat),x]):=
   ⟨by show 2<=sizeLine;decide,[.int i s.toks,u],.cons ⟨_,rfl⟩ (.cons ru .nil),⟨_,yc,rfl,_,rfl⟩⟩
  have I1:Inv X jr σ (upd H s.heap.objs.size (.tup [.int (i:Nat),x])) {s with heap:=xc,toks:=s.toks+1}:=
   I.uV (ch:=[e,it]) (fun b ob hb q=>(sb.2 b (fun z=>hb (by simp[z]))).trans (hk b ob (fun z=>hb (by simp[z])) (fun z=>hb (by simp[z])) q)) hf (ax _) new
  refine⟨.ref s.heap.objs.size,_,I1,rfl,⟨_,x,rfl,I.hok.fresh (ax _),rfl,fun ys hy=>by rw[I.yY hy hq];exact hx⟩,⟨⟨u,?_⟩,wj.at fun o q=>(sb.2 it (Ne.symm jv)).trans q,jv⟩,fun b hb=>?_⟩
  ·have e1:((i+1:Nat):Int)=(i:Int)+1:=by omega
   rw[e1];exact De
  ·have uk:b<s.heap.objs.size:=by
    have e':b=e\/b=it:=by simpa using hb
    rcases e' with z|z
    ·rw[z];exact hel
    ·rw[z];exact rj
   rw[aC (da uk)];exact(hf b hb).1
 done:=by intro X hP hw hK hc i jr s σ H E I hf st hg;subst hP hw hK;obtain⟨⟨old,he⟩,km,jv⟩:=st;obtain⟨xs,hq,hx⟩:=hg;obtain⟨its,rv,p,hz⟩:=I.list hq;obtain⟨f0,f1,f2,f3,f4,f5⟩:=hf it (by simp);have hl:=rv.length;exact wpAny_pyNext_enum_end (I.ok.hd hc) he km p.isList (by simp;omega) fun h' eb=>⟨rfl,I.turned (t':=s.toks) (fun b o hb q=>eb b o hb q) f0 f1 f3 f4 f5⟩
 self:=fun A i s Q E st h=>let⟨⟨_,he⟩,_⟩:=st;wpAny_pyIter_enum he h
noncomputable def S8(K:W.Frag)(ta:TA):TI:=fun σ H R=>ta σ H fun vs H1=>∃a xs,vs=[.ref a]/\SqL K H1 a xs/\R (Ite K a) H1
theorem wV{X:Cx}{e:Expr}{ta:TA}{p pos oa:Pos}{qk:List Expr}{kk:Nat}(hg:Gl X "enumerate")(hm:X.mg "enumerate" =none)(ha:PA X [e] ta)(hs:starEach [e] X.env=[(false,eval e X.env)]:=by rfl):
  PI X (.Tuple qk kk oa) (.Call (.Name "enumerate" p) [e] [] pos) (S8 X.K ta):=by
 intro jr s σ H R I h;refine Call_ (pP I hg hm boot_enumerate (PyProof.Rows.callWith_type1 (thn (ha pos jr s σ H _ I h) fun us s1 ⟨vs,H1,I1,r1,q1⟩=>?_) hs rfl));obtain⟨a,xs,ex,hq,q⟩:=q1;subst ex;cases r1 with
 |cons r rr=>
  cases rr;cases r;obtain⟨its,rv,p',hz⟩:=I1.list hq;refine call_enumerate_list p'.isList fun h' he km hsz hk=>wpAny_pyIter_enum he ?_
  have I2:Inv X jr σ H1 {s1 with heap:=h'}:=I1.kept (t':=s1.toks) hk;refine⟨s1.heap.objs.size+1,[s1.heap.objs.size+1,s1.heap.objs.size],_,_,H1,rfl,I2,ED a (s1.heap.objs.size+1) s1.heap.objs.size,⟨⟨.none,he⟩,km,Nat.succ_ne_self _⟩,fun b hb=>?_,q⟩;have e':b=s1.heap.objs.size+1\/b=s1.heap.objs.size:=by simpa using hb
  have qf:s1.heap.objs.size<=b:=by
   rcases e' with z|z
   ·rw[z];exact Nat.le_add_right _ _
   ·rw[z];exact ax _
  exact I1.C1 qf (I1.hok.fresh qf)
theorem oY:∀{vs:List Value}{ns:List Int},IntsAre vs ns->Vals (ns.map V.int) vs
 |_,_,.nil=>.nil
 |_,_,.cons n t h=>.cons ⟨t,rfl⟩ (oY h)
abbrev KOf{K:W.Frag}{h:Heap}(_:K.In h):W.Frag:=K
noncomputable def inClass(s:Stmt)(j:Nat):Stmt:=match s with
 | .ClassDef _ _ _ body _ _ _ _ _ _ _=>body.getD j (.Pass ⟨0,0,0,0⟩)
 |_=>.Pass ⟨0,0,0,0⟩
noncomputable def hY(s:Stmt):Arguments:=match s with
 | .FunctionDef _ a _ _ _ _ _ _ _ _=>a
 |_=>{posonlyargs:=[],args:=[],vararg:=none,kwonlyargs:=[],kw_defaults:=[],kwarg:=none,defaults:=[]}
noncomputable def eZ(s:Stmt):List Stmt:=match s with
 | .FunctionDef _ _ b _ _ _ _ _ _ _=>b
 |_=>[]
noncomputable def aH(s:Stmt):Scope:=match s with
 | .FunctionDef _ _ _ _ _ _ sc _ _ _=>sc
 |_=>{kind:=.function,names:=[],isGenerator:=false,isCoroutine:=false}
abbrev CX0:CXT:=fun _ _ _ _ _ _=>False
abbrev E0:XK:=fun _ _ _=>False
theorem aX{X:Cx}:Passes CX0 X E0:=fun _ _ _ _ _ _ _ h=>h.elim
structure Fun(K:W.Frag)(x qual:Str)(st:Stmt)(f:Addr)(fd:FuncData):Prop where
 ex:∃(oc:Value)(od:Option Addr)(kV md pm:Value)(an:Option Addr)(jx ct:Value)(mw:Array (Option Value)),
  fd=W.fnOf x qual (hY st) (eZ st) (aH st) .none kV md pm an jx ct/\K.lookup f=some ⟨oc,od,.func fd,mw⟩/\W.codeIn K jx qual=true
 kp:W.keepIn K (.ref f)=true
section
variable {P:Program}{w:World}{K:W.Frag}{mg:Str->Option Value}{base:Heap}
theorem Fun.ok{x qual:Str}{st:Stmt}{f:Addr}{fd:FuncData}{N ps:List Str}{k:Nat}{sp:Sp}(F:Fun K x qual st f fd)(S:aM N ps (aH st))(len:∀vs H Q E,sp vs H Q E->vs.length=ps.length)
  (lz:∀(jx:Value)(A:Around)(outer:List Env)(s:Shared)(H:Hp)(vs:List V)(Q:VK)(E:XK),d4 k (A.deeper (envOfC qual (aH st) s.heap.objs.size f jx))->sp vs H Q E ->
   ∃t,PSs (uN CX0 P w K mg base N qual (aH st) f jx A outer s H E).nox (eZ st) t/\t {nx:=fun _ H'=>Q .non H',rt:=Q} (start N vs) H):bN P w K mg base CX0 (k+1) f fd ps sp:=by
 obtain⟨oc,od,kV,md,pm,an,jx,ct,mw,rfl,lk,om⟩:=F.ex;refine SA lk om S len fun A outer s H vs Q E hr uf=>?_
 obtain⟨t,h,q⟩:=lz jx A outer s H vs Q E hr uf;exact⟨t,h.nox,q⟩
theorem Fun.binds{x qual:Str}{st:Stmt}{f:Addr}{fd:FuncData}{ps:List Str}(F:Fun K x qual st f fd)
  (h:∀(kV md pm:Value)(an:Option Addr)(jx ct:Value)(us:List Value),us.length=ps.length->bindArgs (W.fnOf x qual (hY st) (eZ st) (aH st) .none kV md pm an jx ct) ⟨us,[]⟩=pure (ps.zip us)):Binds K fd ps []:=by
 obtain⟨oc,od,kV,md,pm,an,jx,ct,mw,rfl,lk,om⟩:=F.ex;exact .all (h kV md pm an jx ct)
theorem BZ{x qual:Str}{st:Stmt}{f:Addr}{oc:Value}{od an:Option Addr}{mw:Array (Option Value)}{kV md pm jx ct:Value}(l:K.lookup f=some ⟨oc,od,.func (W.fnOf x qual (hY st) (eZ st) (aH st) .none kV md pm an jx ct),mw⟩)
  (c:W.codeIn K jx qual=true) (k:W.keepIn K (.ref f)=true):Fun K x qual st f (W.fnOf x qual (hY st) (eZ st) (aH st) .none kV md pm an jx ct):=⟨⟨oc,od,kV,md,pm,an,jx,ct,mw,rfl,l,c⟩,k⟩
end
theorem bI{A:Around}{k:Nat}(hr:d4 k A):A.units+1<cLine:=gh (Nat.add_le_add_left (by decide:1<=64) _) hr.units
section
variable {X:Cx}
theorem pv(i:Nat){x:Str}{pos:Pos}(hN:X.N[i]? =some x:=by rfl)(hv:Vis X.env.scope x:=by first|exact Or.inl rfl|exact Or.inr (Or.inl rfl)|exact Or.inr (Or.inr rfl))(hd:(x==("__debug__" : Str))=false:=by decide)
  (om:(x==("__classdict__" : Str))=false:=by decide):PE X (.Name x pos) (wM i):=GZ hN hv hd om
end
theorem IK{A B:Prop}(h:B):if false=true then A else B:=by rw[af bo];exact h
theorem zA{A B:Prop}(h:A):if true=true then A else B:=by rw[ag rfl];exact h
theorem bZ{c A B:Prop}[Decidable c](h1:c->A)(h2:¬c->B):if c then A else B:=by
 by_cases h:c
 ·rw[ag h];exact h1 h
 ·rw[af h];exact h2 h
def a9(H H':Hp):Prop:=∀b o,H b=some o->H' b=some o
theorem a9.refl(H:Hp):a9 H H:=fun _ _ h=>h
theorem a9.trans{H H1 H2:Hp}(a:a9 H H1)(b:a9 H1 H2):a9 H H2:=fun c o h=>b c o (a c o h)
theorem a9.free{H H':Hp}(e:a9 H H'){l:Addr}(h:H' l=Option.none):H l=Option.none:=by
 cases q:H l with
 |none=>rfl
 |some o=>rw[e l o q]at h;cases h
theorem a9.seq{K:W.Frag}{H H':Hp}{a:Addr}{xs:List V}(e:a9 H H')(h:SqL K H a xs):SqL K H' a xs:=by
 rcases h with(h|⟨o,h⟩)|h
 ·exact .inl (.inl (e _ _ h))
 ·exact .inl (.inr ⟨o,e _ _ h⟩)
 ·exact .inr h
theorem at_of{xs:List V}{z:Int}{j:Nat}{v:V}(e:z=(j:Int))(h:xs[j]? =some v):atI xs z=some v:=by rw[e];exact L8 h
theorem a9.made{H H1:Hp}{x dx C:Addr}(nx:H x=Option.none)(nd:H dx=Option.none)(k:∀b o,(upd (upd H dx (.own x)) x (.ins C dx [])) b=some o->b≠x->H1 b=some o):a9 H H1:=fun b o e=>
 k b o (by rw[aC (aI e nx),aC (aI e nd)];exact e) (aI e nx)
end L2
namespace RM
open Roof
abbrev Pl:=Int×Int
noncomputable def parts(m:Int):List Int->List (List Int)
 |[]=>[[]]
 |v::r=>if v=m then[]::parts m r else
  match parts m r with
  |[]=>[[v]]
  |p::ps=>(v::p)::ps
def kQ(v:Int):Option Int:=if v<48\/57<v then none else some (v - 48)
def gZ(n v:Int):Option Int:=(kQ v).map fun d=>n*10+d
noncomputable def dH(row:List Int):Option Int:=
 if row.length=0\/2<row.length then none
 else if 1<row.length/\row.head?=some 48 then none
 else(row.foldlM gZ 0).bind fun n=>if 64<n then none else some n
noncomputable def dM(row:List Int):Option Pl:=((parts 44 row).mapM dH).bind fun ns=>match ns with
 |[a,b]=>some (a,b)
 |_=>none
noncomputable def iN(row:List Int):Option (List Pl):=((parts 32 row).mapM dM).bind fun cs=>if cs.length<4 then none else some cs
noncomputable def eQ(t:List Int):Option (List (List Pl)):=
 if(parts 10 t).getLast?≠some []\/(parts 10 t).dropLast=[]then none else(parts 10 t).dropLast.mapM iN
theorem yN(m:Int):∀t,parts m t≠[]
 |[]=>by simp[parts]
 |v::r=>by
  unfold parts;split
  ·simp
  ·split<;>simp
theorem parts_free{m:Int}:∀{a:List Int},m∉a->parts m a=[a]
 |[],_=>rfl
 |v::r,h=>by
  have h1:¬v=m:=fun e=>h (by simp[e])
  have h2:m∉r:=fun e=>h (by simp[e])
  unfold parts;rw[af h1,parts_free h2]
theorem vH{m:Int}:∀{a b:List Int},m∉a->parts m (a++m::b)=a::parts m b
 |[],b,_=>by
  show parts m (m::b)=_
  rw[parts,ag rfl]
 |v::r,b,h=>by
  have h1:¬v=m:=fun e=>h (by simp[e])
  have h2:m∉r:=fun e=>h (by simp[e])
  show parts m (v::(r++m::b))=_
  rw[parts,af h1,vH h2]
noncomputable def glue(m:Int):List (List Int)->List Int
 |[]=>[]
 |[p]=>p
 |p::q::ps=>p++m::glue m (q::ps)
theorem F9{m v:Int}{p:List Int}{ps:List (List Int)}:glue m ((v::p)::ps)=v::glue m (p::ps):=by cases ps<;>simp[glue]
theorem jH(m:Int):∀t,glue m (parts m t)=t
 |[]=>rfl
 |v::r=>by
  have ih:=jH m r;have hn:=yN m r;unfold parts;split
  ·rename_i e;cases q:parts m r with
   |nil=>exact absurd q hn
   |cons p ps=>
    rw[q]at ih;show glue m ([]::p::ps)=_
    simp only[glue,nil_append];rw[ih,e]
  ·cases q:parts m r with
   |nil=>exact absurd q hn
   |cons p ps=>
    rw[q]at ih;show glue m ((v::p)::ps)=_
    rw[F9,ih]
theorem fC{m:Int}:∀{ps:List (List Int)},ps≠[]->(∀p∈ps,m∉p)->parts m (glue m ps)=ps
 |[],h,_=>absurd rfl h
 |[p],_,h=>by
  show parts m p=[p]
  exact parts_free (h p (by simp))
 |p::q::ps,_,h=>by
  show parts m (p++m::glue m (q::ps))=_
  rw[vH (h p (by simp)),fC (by simp) fun x hx=>h x (by simp only[ak]at hx ⊢;exact .inr hx)]
noncomputable def pNum(n:Nat):List Int:=if n<10 then[48+(n:Int)]else[48+((n/10:Nat):Int),48+((n%10:Nat):Int)]
def cI(p:Point):List Int:=glue 44 [pNum p.1,pNum p.2]
def fX(w:Walk):List Int:=glue 32 (w.map cI)
def dD(ws:List Walk):List Int:=ws.flatMap fun w=>fX w++[10]
def iP(p:Point):Pl:=((p.1:Int),(p.2:Int))
def iW(w:Walk):List Pl:=w.map iP
def iWs(ws:List Walk):List (List Pl):=ws.map iW
def okP(p:Point):Prop:=p.1<=64/\p.2<=64
def okW(w:Walk):Prop:=4<=w.length/\∀p∈w,okP p
def BD(ws:List Walk):Prop:=ws≠[]/\∀w∈ws,okW w
theorem nJ{n:Nat}(h:n<=64){x:Int}(hx:x∈pNum n):48<=x/\x<=57:=by
 unfold pNum at hx;split at hx
 ·simp at hx;omega
 ·simp at hx;omega
theorem kD{p:Point}(h:okP p){x:Int}(hx:x∈cI p):(48<=x/\x<=57)\/x=44:=by
 unfold cI glue glue at hx;simp only[aw,ak]at hx;rcases hx with hx|rfl|hx
 ·exact .inl (nJ h.1 hx)
 ·exact .inr rfl
 ·exact .inl (nJ h.2 hx)
theorem zN{m:Int}:∀{ps:List (List Int)}{x:Int},x∈glue m ps->x=m\/∃p∈ps,x∈p
 |[],x,h=>by simp[glue]at h
 |[p],x,h=>.inr ⟨p,by simp,h⟩
 |p::q::ps,x,h=>by
  simp only[glue,aw,ak]at h;rcases h with h|rfl|h
  ·exact .inr ⟨p,by simp,h⟩
  ·exact .inl rfl
  ·rcases zN h with h|⟨y,hy,hx⟩
   ·exact .inl h
   ·exact .inr ⟨y,by simp only[ak]at hy ⊢;exact .inr hy,hx⟩
theorem nI{w:Walk}(h:∀p∈w,okP p){x:Int}(hx:x∈fX w):(48<=x/\x<=57)\/x=44\/x=32:=by
 rcases zN hx with h1|⟨q,hq,hx⟩
 ·exact .inr (.inr h1)
 ·obtain⟨p,hp,rfl⟩:=ar.mp hq;rcases kD (h p hp) hx with h1|h1
  ·exact .inl h1
  ·exact .inr (.inl h1)
theorem nN{n:Nat}(h:n<=64):dH (pNum n)=some (n:Int):=by
 have key:∀k:Fin 65,dH (pNum k.val)=some (k.val:Int):=by decide+kernel
 exact key ⟨n,by omega⟩
theorem nM{row:List Int}{z:Int}(h:dH row=some z):∃n:Nat,n<=64/\z=n/\row=pNum n:=by
 unfold dH at h;split at h
 ·cases h
 ·rename_i h1;split at h
  ·cases h
  ·rename_i h2;match row,h1,h2,h with
   |[],h1,_,_=>simp at h1
   |[a],h1,h2,h=>
    simp only[List.foldlM,gZ,kQ]at h;split at h
    ·simp at h
    ·rename_i ha;simp at h;obtain⟨h3,h4⟩:=h;refine⟨(a - 48).toNat,by omega,by omega,?_⟩;unfold pNum;rw[ag (by omega)];congr 1;omega
   |[a,b],h1,h2,h=>
    simp only[List.foldlM,gZ,kQ]at h;have h48:¬a=48:=by intro e;exact h2 ⟨by simp,by simp[e]⟩
    split at h
    ·simp at h
    ·rename_i ha;split at h
     ·simp at h
     ·rename_i hb;simp at h;obtain⟨h3,h4⟩:=h;refine⟨((a - 48)*10+(b - 48)).toNat,by omega,by omega,?_⟩;unfold pNum;rw[af (by omega)];congr 1
      ·omega
      ·congr 1;omega
   |_::_::_::_,h1,_,_=>simp at h1
inductive m6 {α β:Type} (R:α->β->Prop):List α->List β->Prop where
 |nil:m6 R [] []
 |cons {a:α}{b:β}{l:List α}{r:List β}:R a b->m6 R l r->m6 R (a::l) (b::r)
theorem m6.inv2{α β:Type}{R:α->β->Prop}{l:List α}{a b:β}(h:m6 R l [a,b]):∃x y,l=[x,y]/\R x a/\R y b:=by
 cases h with
 |cons h1 h=>
  cases h with
  |cons h2 h=>cases h;exact⟨_,_,rfl,h1,h2⟩
theorem mapM_some{α β:Type}{f:α->Option β}:∀{l:List α}{r:List β},l.mapM f=some r->m6 (fun a b=>f a=some b) l r
 |[],r,h=>by simp at h;subst h;exact .nil
 |a::l,r,h=>by
  rw[List.mapM_cons]at h;cases e1:f a with
  |none=>rw[e1]at h;simp at h
  |some b=>
   rw[e1]at h;cases e2:l.mapM f with
   |none=>rw[e2]at h;simp at h
   |some bs=>rw[e2]at h;simp at h;subst h;exact .cons e1 (mapM_some e2)
theorem lK{α β:Type}{f:α->Option β}:∀{l:List α}{r:List β},m6 (fun a b=>f a=some b) l r->l.mapM f=some r
 |_,_,.nil=>rfl
 |_,_,.cons h t=>by rw[List.mapM_cons,h,lK t];rfl
theorem xT{row:List Int}{z:Pl}(h:dM row=some z):∃p:Point,okP p/\z=iP p/\row=cI p:=by
 unfold dM at h;cases e:(parts 44 row).mapM dH with
 |none=>rw[e]at h;simp at h
 |some ns=>
  rw[e]at h;simp only[Option.bind_some]at h;have f:=mapM_some e;have g:=jH 44 row;match ns,f,h with
  |[],_,h=>simp at h
  |[_],_,h=>simp at h
  |_::_::_::_,_,h=>simp at h
  |[a,b],f,h=>simp at h;subst h;obtain⟨x,y,ex,f1,f2⟩:=f.inv2;obtain⟨n1,l1,r1,e1⟩:=nM f1;obtain⟨n2,l2,r2,e2⟩:=nM f2;refine⟨(n1,n2),⟨l1,l2⟩,by rw[r1,r2];rfl,?_⟩;rw[<- g,ex,e1,e2];rfl
theorem fZ{p:Point}(h:okP p):dM (cI p)=some (iP p):=by
 unfold dM cI;rw[fC (by simp) fun q hq=>?_]
 ·rw[lK (r:=[(p.1:Int),(p.2:Int)]) (.cons (nN h.1) (.cons (nN h.2) .nil))];rfl
 ·simp at hq;rcases hq with rfl|rfl
  ·intro e;have:=nJ h.1 e;omega
  ·intro e;have:=nJ h.2 e;omega
theorem AI{row:List Int}{z:List Pl}(h:iN row=some z):∃w:Walk,okW w/\z=iW w/\row=fX w:=by
 unfold iN at h;cases e:(parts 32 row).mapM dM with
 |none=>rw[e]at h;simp at h
 |some cs=>
  rw[e]at h;simp only[Option.bind_some]at h;split at h
  ·cases h
  ·rename_i hl;have h:cs=z:=by simpa using h
   subst h;have f:=mapM_some e;have g:=jH 32 row;have key:∀{l:List (List Int)}{r:List Pl},m6 (fun a b=>dM a=some b) l r->∃w:Walk,(∀p∈w,okP p)/\r=iW w/\l=w.map cI:=by
    intro l r f;induction f with
    |nil=>exact⟨[],by simp,rfl,rfl⟩
    |cons h1 _ ih=>
     obtain⟨w,a1,a2,a3⟩:=ih;obtain⟨p,b1,b2,b3⟩:=xT h1;refine⟨p::w,?_,?_,?_⟩
     ·intro q hq;rcases ak.mp hq with rfl|hq
      ·exact b1
      ·exact a1 q hq
     ·rw[a2,b2];rfl
     ·rw[a3,b3];rfl
   obtain⟨w,a1,a2,a3⟩:=key f;refine⟨w,⟨?_,a1⟩,a2,?_⟩
   ·rw[a2,iW,ai]at hl;omega
   ·rw[<- g,a3];rfl
theorem AJ{w:Walk}(h:okW w):iN (fX w)=some (iW w):=by
 unfold iN fX;have jv:w.map cI≠[]:=by intro e;have h1:=h.1;rw[List.map_eq_nil_iff.mp e]at h1;simp at h1
 rw[fC jv fun q hq=>?_]
 ·have f:m6 (fun a b=>dM a=some b) (w.map cI) (iW w):=by
   have h2:=h.2;clear h jv;induction w with
   |nil=>exact .nil
   |cons p w ih=>exact .cons (fZ (h2 p (by simp))) (ih fun q hq=>h2 q (by simp[hq]))
  rw[lK f];have:¬(iW w).length<4:=by have:=h.1;rw[iW,ai];omega
  simp[this]
 ·obtain⟨p,hp,rfl⟩:=ar.mp hq;intro e;rcases kD (h.2 p hp) e with h1|h1
  ·omega
  ·omega
theorem lT{m:Int}:∀{ps:List (List Int)},glue m (ps++[[]])=ps.flatMap fun p=>p++[m]
 |[]=>rfl
 |[p]=>by simp[glue]
 |p::q::ps=>by
  have ih:=lT (m:=m) (ps:=q::ps);show p++m::glue m (q::ps++[[]])=_
  rw[ih];simp
theorem qJ{t:List Int}{z:List (List Pl)}(h:eQ t=some z):∃ws:List Walk,BD ws/\z=iWs ws/\t=dD ws:=by
 unfold eQ at h;split at h
 ·cases h
 ·rename_i hc;have hc1:(parts 10 t).getLast?=some []:=by apply Classical.byContradiction;intro e;exact hc (.inl e)
  have xy:(parts 10 t).dropLast≠[]:=fun e=>hc (.inr e)
  have f:=mapM_some h;have key:∀{l:List (List Int)}{r:List (List Pl)},m6 (fun a b=>iN a=some b) l r->∃w:List Walk,(∀p∈w,okW p)/\r=iWs w/\l=w.map fX:=by
   intro l r f;induction f with
   |nil=>exact⟨[],by simp,rfl,rfl⟩
   |cons h1 _ ih=>
    obtain⟨w,a1,a2,a3⟩:=ih;obtain⟨p,b1,b2,b3⟩:=AI h1;refine⟨p::w,?_,?_,?_⟩
    ·intro q hq;rcases ak.mp hq with rfl|hq
     ·exact b1
     ·exact a1 q hq
    ·rw[a2,b2];rfl
    ·rw[a3,b3];rfl
  obtain⟨ws,a1,a2,a3⟩:=key f;refine⟨ws,⟨?_,a1⟩,a2,?_⟩
  ·intro e;rw[e]at a3;exact xy a3
  ·have e:parts 10 t=(parts 10 t).dropLast++[[]]:=by obtain⟨ys,hys⟩:=List.getLast?_eq_some_iff.mp hc1;rw[hys];simp
   rw[<- jH 10 t,e,a3,lT,dD,flatMap_map]
theorem uC{ws:List Walk}(h:BD ws):eQ (dD ws)=some (iWs ws):=by
 have e:parts 10 (dD ws)=ws.map fX++[[]]:=by
  have:dD ws=glue 10 (ws.map fX++[[]]):=by rw[lT,dD,flatMap_map]
  rw[this];refine fC (by simp) fun q hq=>?_
  rcases aw.mp hq with hq|hq
  ·obtain⟨w,hw,rfl⟩:=ar.mp hq;intro e;rcases nI (h.2 w hw).2 e with h1|h1|h1
   ·omega
   ·omega
   ·omega
  ·simp at hq;subst hq;simp
 unfold eQ;rw[e];have h1:¬((ws.map fX++[[]]).getLast?≠some []\/(ws.map fX++[[]]).dropLast=[]):=by simp;exact h.1
 rw[af h1];have e2:(ws.map fX++[[]]).dropLast=ws.map fX:=by simp
 rw[e2];refine lK ?_;have h2:=h.2;clear h e h1 e2;induction ws with
 |nil=>exact .nil
 |cons w ws ih=>exact .cons (AJ (h2 w (by simp))) (ih fun q hq=>h2 q (by simp[hq]))
noncomputable def G1(n:Nat):Bytes:=if n<10 then[UInt8.ofNat (48+n)]else[UInt8.ofNat (48+n/10),UInt8.ofNat (48+n%10)]
theorem iU{n:Nat}(h:n<=64):number n=G1 n:=by
 have key:∀k:Fin 65,number k.val=G1 k.val:=by decide+kernel
 exact key ⟨n,by omega⟩
theorem qS{v d:Nat}(h1:v≠0)(h2:10*v+d<=64)(h3:d<=9):number (10*v+d)=number v++[UInt8.ofNat (48+d)]:=by
 rw[iU h2,iU (by omega)];unfold G1;rw[af (by omega),ag (by omega)];have e1:(10*v+d)/10=v:=by omega
 have e2:(10*v+d)%10=d:=by omega
 rw[e1,e2];rfl
theorem tD{d:Nat}(h:d<=9):number d=[UInt8.ofNat (48+d)]:=by rw[iU (by omega),G1,ag (by omega)]
theorem C9{c:UInt8}{d:Nat}(h:digit c=some d):d<=9/\c=UInt8.ofNat (48+d):=by
 unfold digit at h;split at h
 ·rename_i hc;have h:c.toNat - 48=d:=by simpa using h
  refine⟨by omega,?_⟩;have e:48+d=c.toNat:=by omega
  rw[e];simp
 ·cases h
theorem kP{d:Nat}(h:d<=9):digit (UInt8.ofNat (48+d))=some d:=by
 have key:∀k:Fin 10,digit (UInt8.ofNat (48+k.val))=some k.val:=by decide+kernel
 exact key ⟨d,by omega⟩
def gC(w:Walk):Bytes:=w.flatMap fun p=>cornerText p++[32]
noncomputable def eE(r:Reading):Bytes:=if r.part=0 then[]else if r.part=1 then number r.val else if r.part=2 then number r.east++[44]else number r.east++(44::number r.val)
noncomputable def eO(r:Reading):Bytes:=walksText r.done.reverse++(gC r.now.reverse++eE r)
structure OkR(r:Reading):Prop where
 done:∀w∈r.done,okW w
 now:∀p∈r.now,okP p
 val:r.val<=64
 east:r.east<=64
 part:r.part<=3
theorem qK:∀{w:Walk}{p:Point},walkText (w++[p])=gC w++(cornerText p++[10])
 |[],p=>by simp[walkText,gC]
 |[q],p=>by simp[walkText,gC]
 |q::q2::w,p=>by
  have ih:=qK (w:=q2::w) (p:=p);show cornerText q++(32::walkText (q2::w++[p]))=_
  rw[ih];simp[gC]
theorem HX{r s:Reading}{c:UInt8}(h:r.more c=some s)(o:OkR r):OkR s/\eO s=eO r++[c]:=by
 obtain⟨o1,o2,o3,o4,o5⟩:=o;unfold Reading.more at h;cases e:digit c with
 |some d=>
  rw[e]at h;obtain⟨hd,hc⟩:=C9 e;dsimp only at h;by_cases hp:r.part=0\/r.part=2
  ·rw[ag hp]at h;have h:=Option.some.inj h;subst h;refine⟨⟨o1,o2,by dsimp only;omega,o4,by dsimp only;omega⟩,?_⟩;rcases hp with hp|hp
   ·simp[eO,eE,hp,tD hd,hc]
   ·simp[eO,eE,hp,tD hd,hc]
  ·rw[af hp]at h;by_cases hv:r.val=0\/SIDE<10*r.val+d
   ·rw[ag hv]at h;cases h
   ·rw[af hv]at h;have h:=Option.some.inj h;subst h;have hv1:r.val≠0:=fun q=>hv (.inl q)
    have hv2:10*r.val+d<=64:=by
     have:¬SIDE<10*r.val+d:=fun q=>hv (.inr q)
     unfold SIDE at this;omega
    refine⟨⟨o1,o2,by dsimp only;omega,o4,o5⟩,?_⟩;have hp2:r.part=1\/r.part=3:=by omega
    rcases hp2 with hp2|hp2
    ·simp[eO,eE,hp2,qS hv1 hv2 hd,hc]
    ·simp[eO,eE,hp2,qS hv1 hv2 hd,hc]
 |none=>
  rw[e]at h;dsimp only at h;by_cases h1:r.part=1/\c=44
  ·rw[ag h1]at h;have h:=Option.some.inj h;subst h;refine⟨⟨o1,o2,o3,o3,by dsimp only;omega⟩,?_⟩;simp[eO,eE,h1.1,h1.2]
  ·rw[af h1]at h;by_cases h2:r.part=3/\c=32
   ·rw[ag h2]at h;have h:=Option.some.inj h;subst h;refine⟨⟨o1,?_,o3,o4,by dsimp only;omega⟩,?_⟩
    ·intro p hp;rcases ak.mp hp with rfl|hp
     ·exact⟨o4,o3⟩
     ·exact o2 p hp
    ·simp[eO,eE,h2.1,h2.2,gC,cornerText]
   ·rw[af h2]at h;by_cases h3:r.part=3/\c=10/\3<=r.now.length
    ·rw[ag h3]at h;have h:=Option.some.inj h;subst h;refine⟨⟨?_,by simp,o3,o4,by dsimp only;omega⟩,?_⟩
     ·intro w hw;rcases ak.mp hw with rfl|hw
      ·refine⟨by simp;omega,?_⟩;intro p hp;rcases ak.mp (List.mem_reverse.mp hp)with rfl|hp
       ·exact⟨o4,o3⟩
       ·exact o2 p hp
      ·exact o1 w hw
     ·simp only[eO,eE,h3.1,h3.2.1,walksText,List.reverse_cons,gd,dt,List.flatMap_nil,df,qK];simp[gC,cornerText]
    ·rw[af h3]at h;cases h
theorem qO:∀{b:Bytes}{p:Nat}{r:Reading}{ws:List Walk},OkR r->readFrom p r b=.ok ws->BD ws/\eO r++b=walksText ws
 |[],p,r,ws,o,h=>by
  unfold readFrom at h;split at h
  ·rename_i hc;obtain⟨h1,h2,h3⟩:=hc;have h:r.done.reverse=ws:=by simpa using h
   subst h;refine⟨⟨by simpa using h3,fun w hw=>o.done w (by simpa using hw)⟩,?_⟩;simp[eO,eE,h1,h2,gC]
  ·cases h
 |c::t,p,r,ws,o,h=>by
  unfold readFrom at h;cases e:r.more c with
  |none=>rw[e]at h;cases h
  |some s=>rw[e]at h;obtain⟨os,es⟩:=HX e o;have h:readFrom (p+1) s t=.ok ws:=h;obtain⟨h1,h2⟩:=qO os h;refine⟨h1,?_⟩;rw[<- h2,es];simp
theorem nB{b:Bytes}{ws:List Walk}(h:readWalks b=.ok ws):BD ws/\b=walksText ws:=by have o:OkR ⟨[],[],0,0,0⟩:=⟨by simp,by simp,by simp,by simp,by simp⟩;obtain⟨h1,h2⟩:=qO o h;refine⟨h1,?_⟩;rw[<- h2];simp[eO,eE,gC,walksText]
theorem gH{r s:Reading}{c:UInt8}{t:Bytes}{p:Nat}(h:r.more c=some s):readFrom p r (c::t)=readFrom (p+1) s t:=by
 show(match r.more c with|some s=>readFrom (p+1) s t|none=>.error p)=_
 rw[h]
theorem qM{n:Nat}(hn:n<=64){r:Reading}(hp:r.part=0\/r.part=2)(p:Nat)(t:Bytes):∃p',readFrom p r (number n++t)=readFrom p' {r with part:=r.part+1,val:=n} t:=by
 rw[iU hn];unfold G1;by_cases h:n<10
 ·rw[ag h];refine⟨p+1,gH ?_⟩;unfold Reading.more;rw[kP (by omega)];dsimp only;rw[ag hp]
 ·rw[af h];refine⟨p+1+1,?_⟩;refine(gH (s:={r with part:=r.part+1,val:=n/10}) ?_).trans (gH ?_)
  ·unfold Reading.more;rw[kP (by omega)];dsimp only;rw[ag hp]
  ·unfold Reading.more;rw[kP (by omega)];dsimp only;rw[af (by omega),af]
   ·have:10*(n/10)+n%10=n:=by omega
    rw[this]
   ·unfold SIDE;omega
theorem qN{q:Point}(hq:okP q){r:Reading}(hp:r.part=0)(p:Nat)(t:Bytes):∃p',readFrom p r (cornerText q++t)=readFrom p' {r with part:=3,val:=q.2,east:=q.1} t:=by
 unfold cornerText;rw[dv];obtain⟨p1,e1⟩:=qM hq.1 (r:=r) (.inl hp) p (44::number q.2++t);rw[e1];have e2:readFrom p1 {r with part:=r.part+1,val:=q.1} (44::number q.2++t)=readFrom (p1+1) {r with part:=2,val:=q.1,east:=q.1} (number q.2++t):=by refine gH ?_;unfold Reading.more;rw[show digit 44=none from by decide];dsimp only;rw[hp];simp
 rw[e2];obtain⟨p3,e3⟩:=qM hq.2 (r:={r with part:=2,val:=q.1,east:=q.1}) (.inr rfl) (p1+1) t;exact⟨p3,e3⟩
theorem v8:∀{w:Walk}{r:Reading}(p:Nat)(t:Bytes),(∀q∈w,okP q)->w≠[]->r.part=0->4<=r.now.length+w.length ->
  ∃p' v e,readFrom p r (walkText w++t)=readFrom p' ⟨(r.now.reverse++w)::r.done,[],0,v,e⟩ t
 |[],r,p,t,_,h,_,_=>absurd rfl h
 |[q],r,p,t,hq,_,hp,hl=>by
  have e0:walkText [q]++t=cornerText q++(10::t):=by simp[walkText]
  rw[e0];obtain⟨p1,e1⟩:=qN (hq q (by simp)) hp p (10::t);rw[e1];refine⟨p1+1,q.2,q.1,?_⟩;rw[gH (s:=⟨(q::r.now).reverse::r.done,[],0,q.2,q.1⟩)]
  ·simp
  ·unfold Reading.more;rw[show digit 10=none from by decide];dsimp only;rw[af (by simp),af (by simp),ag ⟨rfl,rfl,by simp at hl;omega⟩]
 |q::q2::w,r,p,t,hq,_,hp,hl=>by
  have e0:walkText (q::q2::w)++t=cornerText q++(32::(walkText (q2::w)++t)):=by simp[walkText]
  rw[e0];obtain⟨p1,e1⟩:=qN (hq q (by simp)) hp p (32::(walkText (q2::w)++t));rw[e1];have e2:readFrom p1 {r with part:=3,val:=q.2,east:=q.1} (32::(walkText (q2::w)++t))=readFrom (p1+1) ⟨r.done,q::r.now,0,q.2,q.1⟩ (walkText (q2::w)++t):=by refine gH ?_;unfold Reading.more;rw[show digit 32=none from by decide];dsimp only;rw[af (by simp),ag ⟨rfl,rfl⟩]
  rw[e2];obtain⟨p3,v,e,e3⟩:=v8 (w:=q2::w) (r:=⟨r.done,q::r.now,0,q.2,q.1⟩) (p1+1) t (fun x hx=>hq x (au _ hx)) (by simp) rfl (by simp at hl ⊢;omega);refine⟨p3,v,e,?_⟩;rw[e3];simp
theorem sR:∀{ws:List Walk}{r:Reading}(p:Nat),(∀w∈ws,okW w)->r.part=0->r.now=[]->r.done.reverse++ws≠[]->readFrom p r (walksText ws)=.ok (r.done.reverse++ws)
 |[],r,p,_,hp,hn,jv=>by
  show readFrom p r []=_
  unfold readFrom;rw[ag ⟨hp,hn,by simpa using jv⟩];simp
 |w::ws,r,p,hw,hp,hn,_=>by
  have e0:walksText (w::ws)=walkText w++walksText ws:=by simp[walksText]
  rw[e0];have h1:=hw w (by simp);obtain⟨p1,v,e,e1⟩:=v8 (w:=w) (r:=r) p (walksText ws) h1.2 (by intro q;have:=h1.1;rw[q]at this;simp at this) hp (by have:=h1.1;omega);rw[e1,sR p1 (fun x hx=>hw x (au _ hx)) rfl rfl (by simp)];simp[hn]
theorem sS{ws:List Walk}(h:BD ws):readWalks (walksText ws)=.ok ws:=by unfold readWalks;rw[sR (r:=⟨[],[],0,0,0⟩) 0 h.2 rfl rfl (by simpa using h.1)];simp
def inB(t:List Int):Prop:=∀x∈t,0<=x/\x<=255
theorem fO(a b:List Int):RoofBNeutral.text (a++b)=RoofBNeutral.text a++RoofBNeutral.text b:=by simp[RoofBNeutral.text,RoofBNeutral.nats]
theorem dU(a:Int)(b:List Int):RoofBNeutral.text (a::b)=UInt8.ofNat a.toNat::RoofBNeutral.text b:=by simp[RoofBNeutral.text,RoofBNeutral.nats]
theorem sC:∀{a b:List Int},inB a->inB b->RoofBNeutral.text a=RoofBNeutral.text b->a=b
 |[],[],_,_,_=>rfl
 |[],y::b,_,_,h=>by rw[dU]at h;simp[RoofBNeutral.text,RoofBNeutral.nats]at h
 |x::a,[],_,_,h=>by rw[dU]at h;simp[RoofBNeutral.text,RoofBNeutral.nats]at h
 |x::a,y::b,ha,hb,h=>by
  rw[dU,dU]at h;injection h with h1 h2
  have hx:=ha x (by simp);have hy:=hb y (by simp);have e:x.toNat=y.toNat:=by have:=congrArg UInt8.toNat h1;rw[UInt8.toNat_ofNat_of_lt' (by show x.toNat<256;omega),UInt8.toNat_ofNat_of_lt' (by show y.toNat<256;omega)]at this;exact this
  have e2:x=y:=by omega
  rw[e2,sC (fun z hz=>ha z (by simp[hz])) (fun z hz=>hb z (by simp[hz])) h2]
theorem uW{n:Nat}(h:n<=64):RoofBNeutral.text (pNum n)=number n:=by
 rw[iU h];unfold pNum G1;split
 ·rw[dU];have:(48+(n:Int)).toNat=48+n:=by omega
  rw[this];rfl
 ·rw[dU,dU];have e1:(48+((n/10:Nat):Int)).toNat=48+n/10:=by omega
  have e2:(48+((n%10:Nat):Int)).toNat=48+n%10:=by omega
  rw[e1,e2];rfl
theorem n6{p:Point}(h:okP p):RoofBNeutral.text (cI p)=cornerText p:=by unfold cI glue glue cornerText;rw[fO,dU,uW h.1,uW h.2];rfl
theorem p8:∀{w:Walk},(∀p∈w,okP p)->RoofBNeutral.text (fX w++[10])=walkText w
 |[],_=>rfl
 |[p],h=>by
  show RoofBNeutral.text (cI p++[10])=_
  rw[fO,n6 (h p (by simp))];rfl
 |p::q::w,h=>by
  have ih:=p8 (w:=q::w) fun x hx=>h x (au _ hx)
  show RoofBNeutral.text ((cI p++32::fX (q::w))++[10])=cornerText p++(32::walkText (q::w))
  rw[dv,fO,n6 (h p (by simp)),jl,dU,ih];rfl
theorem k9:∀{ws:List Walk},(∀w∈ws,okW w)->RoofBNeutral.text (dD ws)=walksText ws
 |[],_=>rfl
 |w::ws,h=>by
  have e:dD (w::ws)=(fX w++[10])++dD ws:=by simp[dD]
  rw[e,fO,p8 (h w (by simp)).2,k9 fun x hx=>h x (au _ hx)];simp[walksText]
theorem BB{ws:List Walk}(h:∀w∈ws,okW w):inB (dD ws):=by
 intro x hx;obtain⟨w,hw,hx⟩:=bw.mp hx;rcases aw.mp hx with hx|hx
 ·rcases nI (h w hw).2 hx with h1|h1|h1<;>omega
 ·simp at hx;omega
theorem reads{t:List Int}(ht:inB t){ws:List Walk}(h:readWalks (RoofBNeutral.text t)=.ok ws):eQ t=some (iWs ws)/\BD ws:=by obtain⟨o,e⟩:=nB h;rw[<- k9 o.2]at e;have:=sC ht (BB o.2) e;rw[this];exact⟨uC o,o⟩
theorem EL{t:List Int}{p:Nat}(h:readWalks (RoofBNeutral.text t)=.error p):eQ t=none:=by
 cases e:eQ t with
 |none=>rfl
 |some z=>obtain⟨ws,o,_,e2⟩:=qJ e;rw[e2,k9 o.2,sS o]at h;cases h
noncomputable def inI(l:Cells)(x y:Int):Bool:=decide (0<=x)&& (decide (0<=y)&& l.contains (x.toNat,y.toNat))
theorem cE(l:Cells)(x y:Nat):inI l x y=l.contains (x,y):=by simp[inI]
theorem zG(l:Cells){x y:Int}(h:x<0):inI l x y=false:=by
 have:decide (0<=x)=false:=by simp;omega
 simp[inI,this]
theorem zF(l:Cells){x y:Int}(h:y<0):inI l x y=false:=by
 have:decide (0<=y)=false:=by simp;omega
 simp[inI,this]
theorem bS{l:Cells}{x y:Int}(h:inI l x y=true):0<=x/\0<=y/\(x.toNat,y.toNat)∈l:=by simp[inI]at h;exact h
def ne(l:Cells)(X Y:Int):Bool:=inI l X Y
def nw(l:Cells)(X Y:Int):Bool:=inI l (X - 1) Y
def sw(l:Cells)(X Y:Int):Bool:=inI l (X - 1) (Y - 1)
def se(l:Cells)(X Y:Int):Bool:=inI l X (Y - 1)
theorem IL{l:Cells}{a b:Nat}:isIn l (if 0<a then some (a - 1,b)else none)=inI l ((a:Int) - 1) b:=by
 by_cases h:0<a
 ·have e:(a:Int) - 1=((a - 1:Nat):Int):=by omega
  rw[ag h,e,cE];rfl
 ·rw[af h,zG l (by omega)];rfl
theorem IM{l:Cells}{a b:Nat}:isIn l (if 0<b then some (a,b - 1)else none)=inI l a ((b:Int) - 1):=by
 by_cases h:0<b
 ·have e:(b:Int) - 1=((b - 1:Nat):Int):=by omega
  rw[ag h,e,cE];rfl
 ·rw[af h,zF l (by omega)];rfl
theorem DE{l:Cells}{a b:Nat}:isIn l (if 0<a/\0<b then some (a - 1,b - 1)else none)=inI l ((a:Int) - 1) ((b:Int) - 1):=by
 by_cases h:0<a/\0<b
 ·have e1:(a:Int) - 1=((a - 1:Nat):Int):=by omega
  have e2:(b:Int) - 1=((b - 1:Nat):Int):=by omega
  rw[ag h,e1,e2,cE];rfl
 ·rw[af h];by_cases ha:0<a
  ·rw[zF l (by omega)];rfl
  ·rw[zG l (by omega)];rfl
noncomputable def aY(l:Cells)(X Y:Int)(d:Nat):Bool:=
 if d=0 then ne l X Y&& !se l X Y else if d=1 then nw l X Y&& !ne l X Y else if d=2 then sw l X Y&& !nw l X Y else se l X Y&& !sw l X Y
theorem cX(l:Cells)(p:Point)(d:Nat):wallFoot l p d=aY l p.1 p.2 d:=by
 unfold wallFoot leftOf rightOf aY;by_cases h0:d=0
 ·subst h0;simp only[ag];rw[IM];show(isIn l (some p)&& _)=_
  have:isIn l (some p)=ne l p.1 p.2:=by rw[ne,cE];rfl
  rw[this];rfl
 ·by_cases h1:d=1
  ·subst h1;simp only[ag,af h0];rw[IL];have:isIn l (some p)=ne l p.1 p.2:=by rw[ne,cE];rfl
   rw[this];rfl
  ·by_cases h2:d=2
   ·subst h2;simp only[ag,af h0,af h1];rw[IL,DE];rfl
   ·simp only[af h0,af h1,af h2];rw[IM,DE];rfl
theorem gG{l:Cells}(h:pinched l=false)(X Y:Int):¬(sw l X Y=true/\ne l X Y=true/\se l X Y=false/\nw l X Y=false)/\¬(nw l X Y=true/\se l X Y=true/\ne l X Y=false/\sw l X Y=false):=by
 have key:∀c∈l,¬((l.contains (c.1+1,c.2+1)&& !(l.contains (c.1+1,c.2)||l.contains (c.1,c.2+1)))||(decide (0<c.1)&& (l.contains (c.1 - 1,c.2+1)&& !(l.contains (c.1 - 1,c.2)||l.contains (c.1,c.2+1)))))=true:=by intro c hc q;have:pinched l=true:=fk.mpr ⟨c,hc,q⟩;rw[h]at this;cases this
 refine⟨fun⟨h1,h2,h3,h4⟩=>?_,fun⟨h1,h2,h3,h4⟩=>?_⟩
 ·obtain⟨x0,y0,m⟩:=bS h1;have e1:X=((X - 1).toNat+1:Nat):=by omega
  have e2:Y=((Y - 1).toNat+1:Nat):=by omega
  refine key _ m ?_;have a1:l.contains ((X - 1).toNat+1,(Y - 1).toNat+1)=true:=by rw[<- cE,<- e1,<- e2];exact h2
  have a2:l.contains ((X - 1).toNat+1,(Y - 1).toNat)=false:=by rw[<- cE,<- e1,show(((Y - 1).toNat:Nat):Int)=Y - 1 by omega];exact h3
  have a3:l.contains ((X - 1).toNat,(Y - 1).toNat+1)=false:=by rw[<- cE,<- e2,show(((X - 1).toNat:Nat):Int)=X - 1 by omega];exact h4
  simp only[a1,a2,a3];rfl
 ·obtain⟨x0,y0,m⟩:=bS h2;obtain⟨x1,y1,_⟩:=bS h1;have e1:X=(X.toNat:Int):=by omega
  have e2:Y=((Y - 1).toNat+1:Nat):=by omega
  refine key _ m ?_;have a1:l.contains (X.toNat - 1,(Y - 1).toNat+1)=true:=by rw[<- cE,<- e2,show((X.toNat - 1:Nat):Int)=X - 1 by omega];exact h1
  have a2:l.contains (X.toNat - 1,(Y - 1).toNat)=false:=by rw[<- cE,show((X.toNat - 1:Nat):Int)=X - 1 by omega,show(((Y - 1).toNat:Nat):Int)=Y - 1 by omega];exact h4
  have a3:l.contains (X.toNat,(Y - 1).toNat+1)=false:=by rw[<- cE,<- e2,<- e1];exact h3
  have a4:decide (0<X.toNat)=true:=by simp;omega
  simp only[a1,a2,a3,a4];simp
noncomputable def stI(X Y:Int)(d:Nat):Int×Int:=if d=0 then(X+1,Y)else if d=1 then(X,Y+1)else if d=2 then(X - 1,Y)else(X,Y - 1)
theorem E8{l:Cells}(h:pinched l=false){X Y:Int}{d e:Nat}(hd:d<4)(he:e<4)(h1:aY l X Y d=true)(h2:aY l X Y e=true):d=e:=by
 obtain⟨u1,u2⟩:=gG h X Y;have cd:d=0\/d=1\/d=2\/d=3:=by omega
 have ce:e=0\/e=1\/e=2\/e=3:=by omega
 generalize a1:ne l X Y=A at*;generalize a2:nw l X Y=B at*;generalize a3:sw l X Y=C at*;generalize a4:se l X Y=D at*;rcases cd with rfl|rfl|rfl|rfl<;>rcases ce with rfl|rfl|rfl|rfl<;>simp[aY,a1,a2,a3,a4]at h1 h2 u1 u2 ⊢ <;>simp_all
theorem G7{l:Cells}{X Y:Int}{d:Nat}(hd:d<4)(h1:aY l X Y d=true):∃e,e<4/\aY l (stI X Y d).1 (stI X Y d).2 e=true:=by
 have cd:d=0\/d=1\/d=2\/d=3:=by omega
 rcases cd with rfl|rfl|rfl|rfl
 ·simp[aY]at h1;have b1:nw l (X+1) Y=true:=by rw[nw,show X+1 - 1=X by omega];exact h1.1
  have b2:sw l (X+1) Y=false:=by rw[sw,show X+1 - 1=X by omega];exact h1.2
  show∃e,e<4/\aY l (X+1) Y e=true
  cases c1:se l (X+1) Y with
  |true=>exact⟨3,by omega,by simp[aY,c1,b2]⟩
  |false=>
   cases c2:ne l (X+1) Y with
   |true=>exact⟨0,by omega,by simp[aY,c1,c2]⟩
   |false=>exact⟨1,by omega,by simp[aY,c2,b1]⟩
 ·simp[aY]at h1;have b1:sw l X (Y+1)=true:=by rw[sw,show Y+1 - 1=Y by omega];exact h1.1
  have b2:se l X (Y+1)=false:=by rw[se,show Y+1 - 1=Y by omega];exact h1.2
  show∃e,e<4/\aY l X (Y+1) e=true
  cases c1:ne l X (Y+1)with
  |true=>exact⟨0,by omega,by simp[aY,c1,b2]⟩
  |false=>
   cases c2:nw l X (Y+1)with
   |true=>exact⟨1,by omega,by simp[aY,c1,c2]⟩
   |false=>exact⟨2,by omega,by simp[aY,c2,b1]⟩
 ·simp[aY]at h1;have b1:se l (X - 1) Y=true:=h1.1;have b2:ne l (X - 1) Y=false:=h1.2;show∃e,e<4/\aY l (X - 1) Y e=true
  cases c1:nw l (X - 1) Y with
  |true=>exact⟨1,by omega,by simp[aY,c1,b2]⟩
  |false=>
   cases c2:sw l (X - 1) Y with
   |true=>exact⟨2,by omega,by simp[aY,c1,c2]⟩
   |false=>exact⟨3,by omega,by simp[aY,c2,b1]⟩
 ·simp[aY]at h1;have b1:ne l X (Y - 1)=true:=h1.1;have b2:nw l X (Y - 1)=false:=h1.2;show∃e,e<4/\aY l X (Y - 1) e=true
  cases c1:sw l X (Y - 1)with
  |true=>exact⟨2,by omega,by simp[aY,c1,b2]⟩
  |false=>
   cases c2:se l X (Y - 1)with
   |true=>exact⟨3,by omega,by simp[aY,c1,c2]⟩
   |false=>exact⟨0,by omega,by simp[aY,c2,b1]⟩
noncomputable def rX(l:Cells)(X Y:Int)(d:Nat):Bool:=
 if d=0 then nw l X Y&& !sw l X Y else if d=1 then sw l X Y&& !se l X Y else if d=2 then se l X Y&& !ne l X Y else ne l X Y&& !nw l X Y
theorem rW{l:Cells}{X Y:Int}{d:Nat}(hd:d<4):rX l (stI X Y d).1 (stI X Y d).2 d=aY l X Y d:=by
 have cd:d=0\/d=1\/d=2\/d=3:=by omega
 rcases cd with rfl|rfl|rfl|rfl
 ·simp only[rX,aY,stI,ag,nw,sw,ne,se,show X+1 - 1=X by omega]
 ·simp[rX,aY,stI,nw,sw,ne,se,show Y+1 - 1=Y by omega]
 ·simp[rX,aY,stI,nw,sw,ne,se]
 ·simp[rX,aY,stI,nw,sw,ne,se]
theorem G9{l:Cells}(h:pinched l=false){X Y X' Y':Int}{d e:Nat}(hd:d<4)(he:e<4)(h1:aY l X Y d=true)(h2:aY l X' Y' e=true)(hq:stI X Y d=stI X' Y' e):d=e/\X=X'/\Y=Y':=by
 rw[<- rW hd]at h1;rw[<- rW he,<- hq]at h2;have hde:d=e:=by
  generalize (stI X Y d).1=U at*;generalize (stI X Y d).2=V at*;obtain⟨u1,u2⟩:=gG h U V;have cd:d=0\/d=1\/d=2\/d=3:=by omega
  have ce:e=0\/e=1\/e=2\/e=3:=by omega
  generalize a1:ne l U V=A at*;generalize a2:nw l U V=B at*;generalize a3:sw l U V=C at*;generalize a4:se l U V=D at*;rcases cd with rfl|rfl|rfl|rfl<;>rcases ce with rfl|rfl|rfl|rfl<;>simp[rX,a1,a2,a3,a4]at h1 h2 u1 u2 ⊢ <;>simp_all
 subst hde;refine⟨rfl,?_⟩;have cd:d=0\/d=1\/d=2\/d=3:=by omega
 rcases cd with rfl|rfl|rfl|rfl<;>simp[stI]at hq<;>omega
theorem mW{l:Cells}{X Y:Int}{d:Nat}(hd:d<4)(h:aY l X Y d=true):(d=2->1<=X)/\(d=3->1<=Y):=by
 refine⟨fun e=>?_,fun e=>?_⟩
 ·subst e;simp[aY,sw]at h;have:=bS h.1;omega
 ·subst e;simp[aY,se]at h;have:=bS h.1;omega
theorem lE{l:Cells}{p:Point}{d:Nat}(hd:d<4)(h:wallFoot l p d=true):(((stepped p d).1:Int),((stepped p d).2:Int))=stI p.1 p.2 d:=by
 rw[cX]at h;obtain⟨g1,g2⟩:=mW hd h;have cd:d=0\/d=1\/d=2\/d=3:=by omega
 rcases cd with rfl|rfl|rfl|rfl
 ·simp[stepped,stI]
 ·simp[stepped,stI]
 ·have:=g1 rfl;simp[stepped,stI];omega
 ·have:=g2 rfl;simp[stepped,stI];omega
theorem b8{l:Cells}{p:Point}{d:Nat}(h:outOf l p=some d):d<4/\wallFoot l p d=true:=by unfold outOf at h;have h1:=List.find?_some h;have h2:=List.mem_of_find?_eq_some h;simp at h2;exact⟨by omega,h1⟩
theorem gO{l:Cells}(hp:pinched l=false){p:Point}{d:Nat}(hd:d<4)(h:wallFoot l p d=true):outOf l p=some d:=by
 cases e:outOf l p with
 |none=>unfold outOf at e;rw[List.find?_eq_none]at e;exact absurd h (e d (by simp;omega))
 |some x=>obtain⟨hx,h2⟩:=b8 e;rw[cX]at h h2;rw[E8 hp hd hx h h2]
theorem HL{l:Cells}(hp:pinched l=false){p:Point}{d:Nat}(h:outOf l p=some d):∃e,outOf l (stepped p d)=some e:=by obtain⟨hd,h1⟩:=b8 h;have e1:=lE hd h1;rw[cX]at h1;obtain⟨e,he,h2⟩:=G7 hd h1;rw[<- e1]at h2;exact⟨e,gO hp he (by rw[cX];exact h2)⟩
theorem yR{l:Cells}(hp:pinched l=false){p q:Point}{d e:Nat}(h1:outOf l p=some d)(h2:outOf l q=some e)(hq:stepped p d=stepped q e):p=q:=by obtain⟨hd,w1⟩:=b8 h1;obtain⟨he,w2⟩:=b8 h2;have e1:=lE hd w1;have e2:=lE he w2;rw[cX]at w1 w2;obtain⟨_,a,b⟩:=G9 hp hd he w1 w2 (by rw[<- e1,<- e2,hq]);exact Prod.ext (by omega) (by omega)
theorem cO{α:Type}[DecidableEq α]:∀{a b:List α},a.Nodup->(∀x∈a,x∈b)->a.length<=b.length
 |[],_,_,_=>by simp
 |x::a,b,h,hs=>by
  have hx:x∈b:=hs x (by simp);obtain⟨h1,h2⟩:=dc.mp h;have:=cO (a:=a) (b:=b.erase x) h2 fun y hy=>by
   have:y≠x:=fun e=>h1 (e▸hy)
   exact(List.mem_erase_of_ne this).mpr (hs y (by simp[hy]))
  rw[List.length_erase_of_mem hx]at this;have:0<b.length:=List.length_pos_of_mem hx;simp;omega
theorem dY{α β:Type}{f:α->β}:∀{l:List α},l.Nodup->(∀x∈l,∀y∈l,f x=f y->x=y)->(l.map f).Nodup
 |[],_,_=>by simp
 |x::l,h,hf=>by obtain⟨h1,h2⟩:=dc.mp h;rw[bp];refine dc.mpr ⟨fun hm=>?_,dY h2 fun a ha b hb=>hf a (by simp[ha]) b (by simp[hb])⟩;obtain⟨y,hy,e⟩:=ar.mp hm;exact h1 (hf y (by simp[hy]) x (by simp) e▸hy)
inductive Way (l:Cells):Point->List Foot->Point->Prop where
 |nil (p:Point):Way l p [] p
 |cons {p q:Point}{d:Nat}{r:List Foot}:outOf l p=some d->Way l (stepped p d) r q->Way l p ((p,d)::r) q
theorem Way.append{l:Cells}{p q:Point}{a:List Foot}(h:Way l p a q):∀{b:List Foot}{r:Point},Way l q b r->Way l p (a++b) r:=by
 induction h with
 |nil p=>exact fun h=>h
 |cons h1 _ ih=>exact fun h=>.cons h1 (ih h)
theorem Way.out{l:Cells}{p q:Point}{a:List Foot}(h:Way l p a q):∀x∈a,outOf l x.1=some x.2:=by
 induction h with
 |nil p=>simp
 |cons h1 _ ih=>
  intro x hx;rcases ak.mp hx with rfl|hx
  ·exact h1
  ·exact ih x hx
theorem Way.prev{l:Cells}{p q:Point}{a:List Foot}(h:Way l p a q):∀y,(y∈a.map (·.1)\/y=q)->y=p\/∃x∈a,stepped x.1 x.2=y:=by
 induction h with
 |nil p=>intro y hy;simp at hy;exact .inl hy
 | @cons p q d r h1 hw ih=>
  intro y hy;by_cases hp:y=p
  ·exact .inl hp
  ·have Bx:y∈r.map (·.1)\/y=q:=by
    rcases hy with hy|hy
    ·rw[bp]at hy;rcases ak.mp hy with e|hy
     ·exact absurd e hp
     ·exact .inl hy
    ·exact .inr hy
   rcases ih y Bx with e|⟨x,hx,e⟩
   ·exact .inr ⟨(p,d),by simp,e.symm⟩
   ·exact .inr ⟨x,by simp[hx],e⟩
def kM(x:Foot):Cell×Nat:=((leftOf x.1 x.2).getD (0,0),x.2)
theorem xJ{l:Cells}{x:Foot}(h:outOf l x.1=some x.2):kM x∈l.flatMap fun c=>[(c,0),(c,1),(c,2),(c,3)]:=by
 obtain⟨hd,w⟩:=b8 h;unfold wallFoot at w;simp at w;have w:=w.1;cases e:leftOf x.1 x.2 with
 |none=>rw[e]at w;simp[isIn]at w
 |some c=>rw[e]at w;simp[isIn]at w;refine bw.mpr ⟨c,w,?_⟩;unfold kM;rw[e];simp;omega
theorem xK{l:Cells}{x y:Foot}(h1:outOf l x.1=some x.2)(h2:outOf l y.1=some y.2)(e:kM x=kM y):x=y:=by
 obtain⟨hd1,w1⟩:=b8 h1;obtain⟨wx,w2⟩:=b8 h2;obtain⟨⟨a,b⟩,d⟩:=x;obtain⟨⟨a',b'⟩,d'⟩:=y;have ed:d=d':=congrArg (fun z=>z.2) e;subst ed;rw[cX]at w1 w2;obtain⟨g1,g2⟩:=mW hd1 w1;obtain⟨g3,g4⟩:=mW wx w2;have ec:(leftOf (a,b) d).getD (0,0)=(leftOf (a',b') d).getD (0,0):=congrArg (fun z=>z.1) e;have cd:d=0\/d=1\/d=2\/d=3:=by have:d<4:=hd1;omega
 rcases cd with rfl|rfl|rfl|rfl
 ·simp[leftOf]at ec;simp[ec]
 ·simp[aY,nw]at w1 w2;have i1:=bS w1.1;have i2:=bS w2.1;have p1:0<a:=by omega
  have p2:0<a':=by omega
  simp[leftOf,p1,p2]at ec;simp;omega
 ·simp[aY,sw]at w1 w2;have i1:=bS w1.1;have i2:=bS w2.1;have p1:0<a:=by omega
  have p2:0<a':=by omega
  have p3:0<b:=by omega
  have p4:0<b':=by omega
  simp[leftOf,p1,p2,p3,p4]at ec;simp;omega
 ·simp[aY,se]at w1 w2;have i1:=bS w1.1;have i2:=bS w2.1;have p3:0<b:=by omega
  have p4:0<b':=by omega
  simp[leftOf,p3,p4]at ec;simp;omega
theorem nO{f:List Foot}(h:(f.map (·.1)).Nodup):f.Nodup:=by
 induction f with
 |nil=>simp
 |cons x f ih=>rw[bp]at h;obtain⟨h1,h2⟩:=dc.mp h;exact dc.mpr ⟨fun hm=>h1 (ar.mpr ⟨x,hm,rfl⟩),ih h2⟩
theorem KP{l:Cells}{f:List Foot}(h:(f.map (·.1)).Nodup)(ho:∀x∈f,outOf l x.1=some x.2):f.length<=4*l.length:=by
 have h1:(f.map kM).Nodup:=dY (nO h) fun x hx y hy e=>xK (ho x hx) (ho y hy) e
 have h2:=cO h1 (b:=l.flatMap fun c=>[(c,0),(c,1),(c,2),(c,3)]) fun z hz=>by obtain⟨x,hx,rfl⟩:=ar.mp hz;exact xJ (ho x hx)
 have h3:∀l:Cells,(l.flatMap fun c=>[(c,0),(c,1),(c,2),(c,3)]).length=4*l.length:=by
  intro l;induction l with
  |nil=>rfl
  |cons c l ih=>simp at ih ⊢;omega
 rw[h3]at h2;simpa using h2
structure Round(l:Cells)(p:Point)(f:List Foot):Prop where
 way:Way l p f p
 ne:f≠[]
 nd:(f.map (·.1)).Nodup
theorem oE{l:Cells}(hp:pinched l=false){p:Point}:∀(n:Nat)(done:List Foot)(q:Point)(d:Nat),outOf l q=some d->Way l p done q->((done++[(q,d)]).map (·.1)).Nodup->4*l.length<done.length+n+1 ->
  (done=[]->q=p)->Round l p (done++follow l p n q d)
 |0,done,q,d,hq,hw,hn,hl,h0=>by
  exfalso;have:=KP (l:=l) hn fun x hx=>by
   rcases aw.mp hx with hx|hx
   ·exact hw.out x hx
   ·simp at hx;subst hx;exact hq
  simp at this;omega
 |n+1,done,q,d,hq,hw,hn,hl,h0=>by
  have uw:Way l p (done++[(q,d)]) (stepped q d):=hw.append (.cons hq (.nil _));have eF:follow l p (n+1) q d=(q,d)::(if stepped q d=p then[]else match outOf l (stepped q d)with|some e=>follow l p n (stepped q d) e|none=>[]):=rfl;rw[eF];by_cases hs:stepped q d=p
  ·rw[ag hs];rw[hs]at uw;exact⟨uw,by simp,hn⟩
  ·rw[af hs];obtain⟨e,he⟩:=HL hp hq;rw[he];have uh:stepped q d∉ (done++[(q,d)]).map (·.1):=by
    intro hm;rcases uw.prev _ (.inl hm)with e1|⟨x,hx,e1⟩
    ·exact hs e1
    ·
     obtain⟨i,hi,ei⟩:=List.getElem_of_mem hm;have key:∀{a:List Foot}{u v:Point},Way l u a v->∀y∈a.map (·.1),y≠u->∃x∈a.dropLast,stepped x.1 x.2=y:=by
      intro a u v hw;induction hw with
      |nil u=>intro y hy;simp at hy
      | @cons u v d' r h1 hw ih=>
       intro y hy jv;rw[bp]at hy;rcases ak.mp hy with e|hy
       ·exact absurd e jv
       ·cases r with
        |nil=>simp at hy
        |cons z r=>
         by_cases hz:y=stepped u d'
         ·exact⟨(u,d'),by simp,hz.symm⟩
         ·obtain⟨x,hx,e⟩:=ih y hy hz;exact⟨x,by simp[hx],e⟩
     obtain⟨x,hx,e1⟩:=key uw _ hm hs;have hxd:x∈done:=by simpa using hx
     have hxo:=hw.out x hxd;have:=yR hp hxo hq e1;rw[cj,de]at hn;exact hn.2.2 x.1 (ar.mpr ⟨x,hxd,rfl⟩) q (by simp) this
   have:=oE hp n (done++[(q,d)]) (stepped q d) e he uw (by
    rw[cj,de];refine⟨hn,by simp,?_⟩;intro a ha b hb;simp at hb;subst hb;intro e2;exact uh (e2▸ha)) (by simp;omega) (by simp)
   simpa using this
theorem FG{l:Cells}(hp:pinched l=false){p:Point}{d:Nat}(h:outOf l p=some d):Round l p (follow l p (4*l.length+4) p d):=by have:=oE hp (4*l.length+4) [] p d h (.nil p) (by simp) (by simp;omega) (by simp);simpa using this
noncomputable def AB(l:Cells)(seen:List Point):Prop:=∀y∈seen,∃x∈seen,∃d,outOf l x=some d/\stepped x d=y
theorem AB.nil(l:Cells):AB l []:=fun _ h=>by simp at h
theorem Round.prev{l:Cells}{p:Point}{f:List Foot}(h:Round l p f):∀y∈f.map (·.1),∃x∈f,stepped x.1 x.2=y:=by
 intro y hy;rcases h.way.prev y (.inl hy)with e|e
 ·subst e;have key:∀{a:List Foot}{u v:Point},Way l u a v->a≠[]->∃x∈a,stepped x.1 x.2=v:=by
   intro a u v hw;induction hw with
   |nil u=>intro h;exact absurd rfl h
   | @cons u v d' r h1 hw ih=>
    intro _;cases r with
    |nil=>cases hw;exact⟨(u,d'),by simp,rfl⟩
    |cons z r=>obtain⟨x,hx,e⟩:=ih (by simp);exact⟨x,by simp only[ak]at hx ⊢;exact .inr hx,e⟩
  exact key h.way h.ne
 ·exact e
theorem AB.add{l:Cells}{seen:List Point}{p:Point}{f:List Foot}(hs:AB l seen)(h:Round l p f):AB l (seen++f.map (·.1)):=by
 intro y hy;rcases aw.mp hy with hy|hy
 ·obtain⟨x,hx,e⟩:=hs y hy;exact⟨x,cf _ hx,e⟩
 ·obtain⟨x,hx,e⟩:=h.prev y hy;exact⟨x.1,bf _ (ar.mpr ⟨x,hx,rfl⟩),x.2,h.way.out x hx,e⟩
theorem Way.fresh{l:Cells}(hp:pinched l=false){seen:List Point}(hs:AB l seen){p q:Point}{f:List Foot}(h:Way l p f q):p∉seen->∀y∈f.map (·.1),y∉seen:=by
 induction h with
 |nil p=>intro _ y hy;simp at hy
 | @cons p q d r h1 hw ih=>
  intro hn y hy;rw[bp]at hy;rcases ak.mp hy with e|hy
  ·rw[e];exact hn
  ·refine ih (fun hm=>?_) y hy;obtain⟨x,hx,e,he,es⟩:=hs _ hm;have:=yR hp he h1 es;exact hn (this▸hx)
theorem d3{a b:Point}:before a b=true↔a.2<b.2\/(a.2=b.2/\a.1<b.1):=by simp[before]
theorem uQ{a:Point}(h:before a a=true):False:=by rw[d3]at h;omega
theorem jO{a b c:Point}(h1:before a b=true)(h2:before b c=true):before a c=true:=by rw[d3]at*;omega
theorem CI(a b:Point):a=b\/before a b=true\/before b a=true:=by
 by_cases h:a=b
 ·exact .inl h
 ·right;rw[d3,d3];have:¬(a.1=b.1/\a.2=b.2):=fun⟨x,y⟩=>h (Prod.ext x y)
  omega
def leR(a b:Cell):Bool:=a==b||before a b
theorem x9{a b:Cell}:leR a b=true↔a=b\/before a b=true:=by simp[leR]
theorem EZ(a b c:Cell)(h1:leR a b=true)(h2:leR b c=true):leR a c=true:=by
 rw[x9]at*;rcases h1 with rfl|h1
 ·exact h2
 ·rcases h2 with rfl|h2
  ·exact .inr h1
  ·exact .inr (jO h1 h2)
theorem F0(a b:Cell):(leR a b||leR b a)=true:=by
 rcases CI a b with rfl|h|h
 ·simp[leR]
 ·simp[leR,h]
 ·simp[leR,h]
theorem j8:∀{l:Cells}{x:Cell},x∈onceEach l↔x∈l
 |[],x=>by simp[onceEach]
 |[a],x=>by simp[onceEach]
 |a::b::r,x=>by
  have ih:=j8 (l:=b::r) (x:=x);unfold onceEach;split
  ·rename_i e;rw[ih,e];simp
  ·rw[ak,ih,ak (a:=x) (b:=a)]
theorem jQ:∀{l:Cells},l.Pairwise (fun a b=>leR a b=true)->(onceEach l).Pairwise (fun a b=>before a b=true)
 |[],_=>by simp[onceEach]
 |[a],_=>by simp[onceEach]
 |a::b::r,h=>by
  obtain⟨h1,h2⟩:=gf.mp h;have ih:=jQ h2;unfold onceEach;split
  ·exact ih
  ·rename_i e;refine gf.mpr ⟨fun x hx=>?_,ih⟩;have hx:=j8.mp hx;have Ab:before a b=true:=by
    rcases x9.mp (h1 b (by simp))with q|q
    ·exact absurd q e
    ·exact q
   rcases ak.mp hx with rfl|hx
   ·exact Ab
   ·obtain⟨h3,_⟩:=gf.mp h2;rcases x9.mp (h3 x hx)with rfl|q
    ·exact Ab
    ·exact jO Ab q
theorem tN{l:Cells}{x:Cell}:x∈inRows l↔x∈l:=by unfold inRows;rw[j8,List.mem_mergeSort]
theorem uI(l:Cells):(inRows l).Pairwise (fun a b=>before a b=true):=jQ (List.pairwise_mergeSort EZ F0 l)
theorem wO{l:List Point}(h:l.Pairwise (fun a b=>before a b=true)):l.Nodup:=by refine List.Pairwise.imp (fun{a b} q=>?_) h;intro e;subst e;exact uQ q
noncomputable def bG(p:Point)(d k:Nat):Point:=if d=0 then(p.1+k,p.2)else if d=1 then(p.1,p.2+k)else if d=2 then(p.1 - k,p.2)else(p.1,p.2 - k)
def bO(p:Point)(d k:Nat):List Foot:=(List.range k).map fun i=>(bG p d i,d)
theorem fM{p:Point}{d k:Nat}(hd:d<4)(h2:d=2->k<=p.1)(h3:d=3->k<=p.2):feet p (bG p d k)=bO p d k:=by
 have cd:d=0\/d=1\/d=2\/d=3:=by omega
 rcases cd with rfl|rfl|rfl|rfl
 ·simp only[feet,bG,bO,ag];by_cases hk:k=0
  ·subst hk;simp
  ·rw[ag (by omega)];rw[show p.1+k - p.1=k by omega]
 ·simp only[feet,bG,bO];by_cases hk:k=0
  ·subst hk;simp
  ·simp only[af (show¬(1:Nat)=0 by omega),ag];rw[af (by omega),ag (by omega),show p.2+k - p.2=k by omega]
 ·have:=h2 rfl;simp only[feet,bG,bO];simp only[af (show¬(2:Nat)=0 by omega),af (show¬(2:Nat)=1 by omega),ag];rw[af (by omega),show p.1 - (p.1 - k)=k by omega]
 ·have:=h3 rfl;simp only[feet,bG,bO];simp only[af (show¬(3:Nat)=0 by omega),af (show¬(3:Nat)=1 by omega),af (show¬(3:Nat)=2 by omega),ag];by_cases hk:k=0
  ·subst hk;simp
  ·rw[af (by omega),af (by omega),show p.2 - (p.2 - k)=k by omega]
theorem m9{p:Point}{d k:Nat}:bO p d (k+1)=bO p d k++[(bG p d k,d)]:=by simp[bO,jf]
theorem dF{p:Point}{d k:Nat}(hd:d<4):stepped (bG p d k) d=bG p d (k+1):=by
 have cd:d=0\/d=1\/d=2\/d=3:=by omega
 rcases cd with rfl|rfl|rfl|rfl<;>simp[stepped,bG]<;>omega
noncomputable def AH(cs:Walk)(q:Point):List Foot:=(cs.zip (cs.drop 1++[q])).flatMap fun x=>feet x.1 x.2
theorem E6{p a:Point}{cs:Walk}{q:Point}:AH (p::a::cs) q=feet p a++AH (a::cs) q:=by simp[AH]
theorem fD{l:Cells}{p:Point}{d:Nat}(h:outOf l p=some d):(d=2->1<=p.1)/\(d=3->1<=p.2):=by obtain⟨hd,w⟩:=b8 h;rw[cX]at w;obtain⟨g1,g2⟩:=mW hd w;exact⟨fun e=>by have:=g1 e;omega,fun e=>by have:=g2 e;omega⟩
theorem expand{l:Cells}:∀{r:List Foot}{p p' q:Point}{d k:Nat},Way l p' r q->d<4->(d=2->k<=p.1)->(d=3->k<=p.2)->p'=bG p d k->AH (p::turns d r) q=bO p d k++r
 |[],p,p',q,d,k,hw,hd,h2,h3,e=>by
  cases hw;show AH [p] p'=_
  rw[e];simp[AH,fM hd h2 h3]
 |(x,d2)::r,p,PP,q,d,k,hw,hd,h2,h3,e=>by
  cases hw with
  |cons h1 hw=>
   obtain⟨b2,b3⟩:=fD h1;obtain⟨wx,_⟩:=b8 h1;by_cases ui:d2=d
   ·subst ui;have et:turns d2 ((x,d2)::r)=turns d2 r:=by
     show(if d2=d2 then _ else _)=_
     rw[ag rfl]
    rw[et,expand (r:=r) (p:=p) (p':=stepped x d2) (k:=k+1) hw hd ?_ ?_ (by rw[e,dF hd]),m9,<- e]
    ·simp
    ·intro e2;have:=b2 e2;rw[e]at this;subst e2;simp[bG]at this;omega
    ·intro e3;have:=b3 e3;rw[e]at this;subst e3;simp[bG]at this;omega
   ·have et:turns d ((x,d2)::r)=x::turns d2 r:=by
     show(if d2=d then _ else _)=_
     rw[af ui]
    rw[et,E6,e,fM hd h2 h3,<- e];have:=expand (r:=r) (p:=x) (p':=stepped x d2) (q:=q) (d:=d2) (k:=1) hw wx (fun z=>b2 z) (fun z=>b3 z) (by
     have:=dF (p:=x) (d:=d2) (k:=0) wx;have e0:bG x d2 0=x:=by unfold bG;split<;>(try split)<;>(try split)<;>simp
     rw[e0]at this;exact this)
    rw[this];have es:bO x d2 1=[(x,d2)]:=by
     have e0:bG x d2 0=x:=by unfold bG;split<;>(try split)<;>(try split)<;>simp
     simp[bO,e0]
    rw[es];simp
theorem uO{l:Cells}{p:Point}{d:Nat}{r:List Foot}{x:Foot}(h:Round l p ((p,d)::r))(hx:((p,d)::r).getLast?=some x)(jv:d≠x.2):
  cornersOf ((p,d)::r)=p::turns d r/\walkFeet (cornersOf ((p,d)::r))=(p,d)::r:=by
 have e1:cornersOf ((p,d)::r)=p::turns d r:=by
  unfold cornersOf;rw[hx];show(if d=x.2 then _ else _)=_
  rw[af jv]
 refine⟨e1,?_⟩;rw[e1];have hw:=h.way;cases hw with
 |cons h1 hw=>
  obtain⟨b2,b3⟩:=fD h1;obtain⟨hd,_⟩:=b8 h1;have e0:bG p d 0=p:=by unfold bG;split<;>(try split)<;>(try split)<;>simp
  have:=expand (r:=r) (p:=p) (p':=stepped p d) (q:=p) (d:=d) (k:=1) hw hd b2 b3 (by
   have:=dF (p:=p) (d:=d) (k:=0) hd;rw[e0]at this;exact this)
  have es:bO p d 1=[(p,d)]:=by simp[bO,e0]
  rw[es]at this;simp only[List.singleton_append]at this;rw[<- this];show((p::turns d r).zip ((p::turns d r).drop 1++(p::turns d r).take 1)).flatMap _=_
  simp[AH]
theorem Way.nil_inv{l:Cells}{a b:Point}(h:Way l a [] b):a=b:=by cases h;rfl
structure d7(l:Cells)(seen rm:List Point):Prop where
 pC:AB l seen
 all:∀q d,outOf l q=some d->q∈seen\/q∈rm
 row:rm.Pairwise fun a b=>before a b=true
theorem gL{l:Cells}{q:Point}{d:Nat}(h:outOf l q=some d):q∈pointsOf l:=by
 obtain⟨hd,w⟩:=b8 h;unfold pointsOf;rw[tN];rw[cX]at w;obtain⟨a,b⟩:=q;have cd:d=0\/d=1\/d=2\/d=3:=by omega
 rcases cd with rfl|rfl|rfl|rfl
 ·simp[aY,ne,cE]at w;exact bw.mpr ⟨(a,b),w.1,by simp⟩
 ·simp[aY,nw]at w;obtain⟨x0,y0,m⟩:=bS w.1;refine bw.mpr ⟨_,m,?_⟩;simp;omega
 ·simp[aY,sw]at w;obtain⟨x0,y0,m⟩:=bS w.1;refine bw.mpr ⟨_,m,?_⟩;simp;omega
 ·simp[aY,se]at w;obtain⟨x0,y0,m⟩:=bS w.1;refine bw.mpr ⟨_,m,?_⟩;simp;omega
theorem d7.start(l:Cells):d7 l [] (pointsOf l):=⟨AB.nil l,fun q d h=>.inr (gL h),uI _⟩
theorem d7.skip{l:Cells}{seen r:List Point}{p:Point}(g:d7 l seen (p::r))(h:p∈seen\/outOf l p=none):d7 l seen r:=by
 refine⟨g.pC,fun q d hq=>?_,(gf.mp g.row).2⟩;rcases g.all q d hq with h1|h1
 ·exact .inl h1
 ·rcases ak.mp h1 with rfl|h1
  ·rcases h with h|h
   ·exact .inl h
   ·rw[h]at hq;cases hq
  ·exact .inr h1
theorem d7.step{l:Cells}(hp:pinched l=false){seen r:List Point}{p:Point}{d:Nat}(g:d7 l seen (p::r))(hs:p∉seen)(ho:outOf l p=some d){f:List Foot}(hf:f=follow l p (4*l.length+4) p d):
  Round l p f/\(∀y∈f.map (·.1),y∉seen)/\(∃r',f=(p,d)::r'/\cornersOf f=p::turns d r')/\walkFeet (cornersOf f)=f/\d7 l (seen++f.map (·.1)) r:=by
 have R:=FG hp ho;rw[<- hf]at R;have fr:=R.way.fresh hp g.pC hs;have ua:∀y∈f.map (·.1),y=p\/before p y=true:=by
  intro y hy;obtain⟨x,hx,rfl⟩:=ar.mp hy;rcases g.all x.1 x.2 (R.way.out x hx)with h1|h1
  ·exact absurd h1 (fr _ hy)
  ·rcases ak.mp h1 with h1|h1
   ·exact .inl h1
   ·exact .inr ((gf.mp g.row).1 _ h1)
 obtain⟨r',er⟩:∃r',f=(p,d)::r':=by rw[hf];exact⟨_,rfl⟩
 refine⟨R,fr,?_⟩;rw[er]at R ua fr ⊢;obtain⟨x,hx⟩:∃x,((p,d)::r').getLast?=some x:=by
  cases e:((p,d)::r').getLast? with
  |none=>simp at e
  |some x=>exact⟨x,rfl⟩
 have lr:stepped x.1 x.2=p:=by
  have key:∀{a:List Foot}{u v:Point}{x:Foot},Way l u a v->a.getLast?=some x->stepped x.1 x.2=v:=by
   intro a u v x hw;induction hw with
   |nil u=>intro h;simp at h
   | @cons u v d' r h1 hw ih=>
    intro h;cases r with
    |nil=>cases hw;simp at h;rw[<- h]
    |cons z r=>exact ih (by simpa using h)
  exact key R.way hx
 have xm:x∈(p,d)::r':=List.mem_of_getLast? hx;have xo:=R.way.out x xm;obtain⟨hxd,_⟩:=b8 xo;obtain⟨hd,_⟩:=b8 ho;have hx23:x.2=2\/x.2=3:=by
  have cx:x.2=0\/x.2=1\/x.2=2\/x.2=3:=by omega
  have hl:=ua x.1 (ar.mpr ⟨x,xm,rfl⟩);rw[d3]at hl;rcases cx with c|c|c|c
  ·exfalso;rw[c]at lr;simp[stepped]at lr;have a1:=congrArg Prod.fst lr;have a2:=congrArg Prod.snd lr;simp at a1 a2;rcases hl with h|h|h
   ·rw[h]at a1;omega
   ·omega
   ·omega
  ·exfalso;rw[c]at lr;simp[stepped]at lr;have a1:=congrArg Prod.fst lr;have a2:=congrArg Prod.snd lr;simp at a1 a2;rcases hl with h|h|h
   ·rw[h]at a2;omega
   ·omega
   ·omega
  ·exact .inl c
  ·exact .inr c
 have hd01:d=0\/d=1:=by
  have hw:=R.way;cases hw with
  |cons h1 hw=>
   have Bm:stepped p d=p\/stepped p d∈((p,d)::r').map (·.1):=by
    cases r' with
    |nil=>exact .inl hw.nil_inv
    |cons z r2=>cases hw;right;simp
   have hl:stepped p d=p\/before p (stepped p d)=true:=by
    rcases Bm with h|h
    ·exact .inl h
    ·exact ua _ h
   rw[d3]at hl;obtain⟨b2,b3⟩:=fD ho;have cx:d=0\/d=1\/d=2\/d=3:=by omega
   rcases cx with c|c|c|c
   ·exact .inl c
   ·exact .inr c
   ·exfalso;have:=b2 c;subst c;simp[stepped]at hl;rcases hl with h|h
    ·have a1:=congrArg Prod.fst h;simp at a1;omega
    ·omega
   ·exfalso;have:=b3 c;subst c;simp[stepped]at hl;rcases hl with h|h
    ·have a1:=congrArg Prod.snd h;simp at a1;omega
    ·omega
 have jv:d≠x.2:=by omega
 obtain⟨c1,c2⟩:=uO R hx jv;refine⟨⟨r',rfl,c1⟩,c2,g.pC.add R,fun q e hq=>?_,(gf.mp g.row).2⟩;rcases g.all q e hq with h1|h1
 ·exact .inl (cf _ h1)
 ·rcases ak.mp h1 with rfl|h1
  ·exact .inl (bf _ (by simp))
  ·exact .inr h1
theorem cM{l:Cells}(hp:pinched l=false):∀{rm seen:List Point},d7 l seen rm ->
  ∃F:List Foot,(walksFrom l seen rm).flatMap walkFeet=F/\(∀x∈F,outOf l x.1=some x.2)/\(F.map (·.1)).Nodup/\(∀x∈F,x.1∉seen)/\∀w∈walksFrom l seen rm,∀q∈w,∃d,outOf l q=some d
 |[],seen,g=>⟨[],by simp[walksFrom],by simp,by simp,by simp,by simp[walksFrom]⟩
 |p::r,seen,g=>by
  by_cases hs:seen.contains p=true
  ·have e:walksFrom l seen (p::r)=walksFrom l seen r:=by
    show(if seen.contains p=true then _ else _)=_
    rw[ag hs]
   rw[e];exact cM hp (g.skip (.inl (by simpa using hs)))
  ·cases ho:outOf l p with
   |none=>
    have e:walksFrom l seen (p::r)=walksFrom l seen r:=by
     show(if seen.contains p=true then _ else match outOf l p with|none=>_|some d=>_)=_
     rw[af hs,ho]
    rw[e];exact cM hp (g.skip (.inr ho))
   |some d=>
    have e:walksFrom l seen (p::r)=cornersOf (follow l p (4*l.length+4) p d)::walksFrom l (seen++(follow l p (4*l.length+4) p d).map fun(x:Foot)=>x.1) r:=by
     show(if seen.contains p=true then _ else match outOf l p with|none=>_|some d=>_)=_
     rw[af hs,ho]
    obtain⟨R,fr,⟨r',er,ec⟩,ew,g2⟩:=g.step hp (by simpa using hs) ho rfl;obtain⟨F,h1,h2,h3,h4,h5⟩:=cM hp g2;refine⟨follow l p (4*l.length+4) p d++F,?_,?_,?_,?_,?_⟩
    ·rw[e,dt,ew,h1]
    ·intro x hx;rcases aw.mp hx with hx|hx
     ·exact R.way.out x hx
     ·exact h2 x hx
    ·rw[cj,de];refine⟨R.nd,h3,?_⟩;intro a ha b hb e2;obtain⟨x,hx,rfl⟩:=ar.mp hb;exact h4 x hx (bf _ (e2▸ha))
    ·intro x hx;rcases aw.mp hx with hx|hx
     ·exact fr _ (ar.mpr ⟨x,hx,rfl⟩)
     ·exact fun hm=>h4 x hx (cf _ hm)
    ·intro w hw;rw[e]at hw;rcases ak.mp hw with rfl|hw
     ·intro q hq;have key:∀{a:List Foot}{d:Nat}{q:Point},q∈turns d a->∃x∈a,x.1=q:=by
       intro a;induction a with
       |nil=>intro d q h;simp[turns]at h
       |cons x a ih=>
        intro d q h;unfold turns at h;split at h
        ·obtain⟨y,hy,e⟩:=ih h;exact⟨y,by simp[hy],e⟩
        ·rcases ak.mp h with e|h
         ·exact⟨x,by simp,e.symm⟩
         ·obtain⟨y,hy,e⟩:=ih h;exact⟨y,by simp[hy],e⟩
      have:q∈turns ((follow l p (4*l.length+4) p d).getLast?.elim 0 (·.2)) (follow l p (4*l.length+4) p d):=by
       unfold cornersOf at hq;cases e3:(follow l p (4*l.length+4) p d).getLast? with
       |none=>rw[e3]at hq;simp at hq
       |some z=>rw[e3]at hq;exact hq
      obtain⟨x,hx,e4⟩:=key this;exact⟨x.2,e4▸R.way.out x hx⟩
     ·exact h5 w hw
def t7(ws:List Walk):Prop:=∀w∈ws,∀p∈w,okP p
theorem j3:∀{ws:List Walk},t7 ws->RoofBNeutral.text (dD ws)=walksText ws
 |[],_=>rfl
 |w::ws,h=>by
  have e:dD (w::ws)=(fX w++[10])++dD ws:=by simp[dD]
  rw[e,fO,p8 (h w (by simp)),j3 fun x hx=>h x (au _ hx)];simp[walksText]
theorem qR{ws:List Walk}(h:t7 ws):inB (dD ws):=by
 intro x hx;obtain⟨w,hw,hx⟩:=bw.mp hx;rcases aw.mp hx with hx|hx
 ·rcases nI (h w hw) hx with h1|h1|h1<;>omega
 ·simp at hx;omega
theorem nH{ws:List Walk}(h:t7 ws):parts 10 (dD ws)=ws.map fX++[[]]:=by
 have:dD ws=glue 10 (ws.map fX++[[]]):=by rw[lT,dD,flatMap_map]
 rw[this];refine fC (by simp) fun q hq=>?_
 rcases aw.mp hq with hq|hq
 ·obtain⟨w,hw,rfl⟩:=ar.mp hq;intro e;rcases nI (h w hw) e with h1|h1|h1<;>omega
 ·simp at hq;subst hq;simp
theorem BC{p:Point}:cI p≠[]:=by unfold cI glue glue pNum;split<;>simp
theorem yQ{p q:Point}(hp:okP p)(hq:okP q)(e:cI p=cI q):p=q:=by have h1:=fZ hp;rw[e,fZ hq]at h1;have h2:=Option.some.inj h1;have a:=congrArg Prod.fst h2;have b:=congrArg Prod.snd h2;simp[iP]at a b;exact Prod.ext (by omega) (by omega)
theorem map_inj{α β:Type}{f:α->β}:∀{a b:List α},(∀x∈a,∀y∈b,f x=f y->x=y)->a.map f=b.map f->a=b
 |[],[],_,_=>rfl
 |[],_::_,_,h=>by simp at h
 |_::_,[],_,h=>by simp at h
 |x::a,y::b,hf,h=>by simp at h;rw[hf x (by simp) y (by simp) h.1,map_inj (fun u hu v hv=>hf u (by simp[hu]) v (by simp[hv])) h.2]
theorem HK{w v:Walk}(hw:∀p∈w,okP p)(hv:∀p∈v,okP p)(e:fX w=fX v):w=v:=by
 have key:∀{w:Walk},(∀p∈w,okP p)->w≠[]->parts 32 (fX w)=w.map cI:=by
  intro w hw jv;unfold fX;refine fC (by simpa using jv) fun q hq=>?_
  obtain⟨p,hp,rfl⟩:=ar.mp hq;intro e;rcases kD (hw p hp) e with h1|h1<;>omega
 have Co:∀{w:Walk},(∀p∈w,okP p)->fX w=[]->w=[]:=by
  intro w hw e;by_cases h:w=[]
  ·exact h
  ·exfalso;have k:=key hw h;rw[e]at k;have:[([]:List Int)]=w.map cI:=k;cases w with
   |nil=>exact h rfl
   |cons p w=>simp at this;exact BC this.1
 by_cases h1:w=[]
 ·subst h1;exact(Co hv e.symm).symm
 ·by_cases h2:v=[]
  ·subst h2;exact absurd (Co hw e) h1
  ·have k1:=key hw h1;rw[e,key hv h2]at k1;exact map_inj (fun x hx y hy=>yQ (hw x hx) (hv y hy)) k1.symm
theorem uB{a b:List Walk}(ha:t7 a)(hb:t7 b)(h:walksText a=walksText b):a=b:=by
 rw[<- j3 ha,<- j3 hb]at h;have h:=sC (qR ha) (qR hb) h;have k:=nH ha;rw[h,nH hb]at k;have k:a.map fX=b.map fX:=by simpa using k.symm
 exact map_inj (fun x hx y hy=>HK (ha x hx) (hb y hy)) k
noncomputable def bL(x y:Nat)(f:Foot):Bool:=(f.2==1&& f.1==(x,y))||(f.2==3&& f.1==(x,y+1))
noncomputable def c9(F:Nat->Nat->Bool)(y:Nat):Nat->Bool
 |0=>F 0 y
 |x+1=>xor (c9 F y x) (F (x+1) y)
noncomputable def aQ(F:Nat->Nat->Bool):Cells:=(List.range SIDE).flatMap fun y=>((List.range SIDE).map fun x=>((x,y):Cell)).filter fun c=>c9 F c.2 c.1
theorem rS(F:List Foot)(y:Nat):wallsWest F (0,y)=F.countP (bL 0 y):=by
 unfold wallsWest;refine List.countP_congr fun f _=>?_
 obtain⟨⟨a,b⟩,k⟩:=f;show(decide (a<=0)&& ((k==1&& b==y)||(k==3&& b==y+1)))=true↔((k==1&& (a==0&& b==y))||(k==3&& (a==0&& b==y+1)))=true
 rw[show(a==0)=decide (a<=0)from di.mpr (by rw[beq_iff_eq,decide_eq_true_iff];exact Nat.le_zero.symm)];cases decide (a<=0)
 ·simp only[Bool.false_and,Bool.and_false,Bool.or_false]
 ·simp only[Bool.true_and]
theorem w6{α:Type}{p q r:α->Bool}:∀{l:List α},(∀x∈l,r x=(p x||q x))->(∀x∈l,¬(p x=true/\q x=true))->l.countP r=l.countP p+l.countP q
 |[],_,_=>by simp
 |x::l,h1,h2=>by have ih:=w6 (l:=l) (fun y hy=>h1 y (by simp[hy])) (fun y hy=>h2 y (by simp[hy]));have a:=h1 x (by simp);have b:=h2 x (by simp);rw[countP_cons,countP_cons,countP_cons,ih,a];cases hp:p x<;>cases hq:q x<;>simp_all<;>omega
theorem rT(F:List Foot)(x y:Nat):wallsWest F (x+1,y)=wallsWest F (x,y)+F.countP (bL (x+1) y):=by
 unfold wallsWest;refine w6 (fun f _=>?_) fun f _ h=>?_
 ·obtain⟨⟨a,b⟩,k⟩:=f;show(decide (a<=x+1)&& ((k==1&& b==y)||(k==3&& b==y+1)))=((decide (a<=x)&& ((k==1&& b==y)||(k==3&& b==y+1)))||((k==1&& (a==x+1&& b==y))||(k==3&& (a==x+1&& b==y+1))))
  by_cases c:a=x+1
  ·rw[decide_eq_true (ib c),decide_eq_false (by omega),show(a==x+1)=true from beq_iff_eq.mpr c];rfl
  ·rw[show decide (a<=x+1)=decide (a<=x)from decide_eq_decide.mpr (by omega),show(a==x+1)=false from beq_eq_false_iff_ne.mpr c];simp only[Bool.false_and,Bool.and_false,Bool.or_false]
 ·obtain⟨⟨a,b⟩,k⟩:=f;have h1:(decide (a<=x)&& ((k==1&& b==y)||(k==3&& b==y+1)))=true:=h.1;have h2:((k==1&& (a==x+1&& b==y))||(k==3&& (a==x+1&& b==y+1)))=true:=h.2;have e:a<=x:=ay (Bool.and_eq_true_iff.mp h1).1;rw[show(a==x+1)=false from beq_eq_false_iff_ne.mpr (by omega)]at h2;simp only[Bool.false_and,Bool.and_false,Bool.or_false]at h2;cases h2
theorem zD{F:List Foot}(h:∀x y,F.countP (bL x y)<=1)(y:Nat):∀x,c9 (fun x y=>F.any (bL x y)) y x=(wallsWest F (x,y)%2==1):=by
 have one:∀x,F.any (bL x y)=(F.countP (bL x y)==1):=by
  intro x;have:=h x y;cases e:F.any (bL x y)with
  |true=>
   have:0<F.countP (bL x y):=by rw[List.countP_pos_iff];exact fk.mp e
   have:F.countP (bL x y)=1:=by omega
   simp[this]
  |false=>
   have:F.countP (bL x y)=0:=by rw[List.countP_eq_zero];intro a ha q;have:F.any (bL x y)=true:=fk.mpr ⟨a,ha,q⟩;rw[e]at this;cases this
   simp[this]
 intro x;induction x with
 |zero=>
  show F.any (bL 0 y)=_
  rw[rS,one];have:=h 0 y;rw[di];simp;omega
 |succ x ih=>
  show xor (c9 _ y x) (F.any (bL (x+1) y))=_
  rw[rT,ih,one];have:=h (x+1) y;rw[di];have hx:∀a b:Nat,b<=1->(((a%2==1)^^ (b==1))=true↔((a+b)%2==1)=true):=by
   intro a b hb;have:b=0\/b=1:=by omega
   rcases this with rfl|rfl
   ·simp
   ·have:a%2=0\/a%2=1:=by omega
    rcases this with q|q
    ·simp[q];omega
    ·simp[q];omega
  exact hx _ _ this
theorem CF(ws:List Walk):cellsIn ws=(List.range SIDE).flatMap fun y=>((List.range SIDE).map fun x=>((x,y):Cell)).filter fun c=>wallsWest (ws.flatMap walkFeet) c%2==1:=by
 unfold cellsIn;dsimp only;congr 1;funext y;have Be:∀x,wallsWest (((ws.flatMap walkFeet).filter fun(x:Foot)=>x.2==1||x.2==3).filter fun(x:Foot)=>x.1.2==y||x.1.2==y+1) (x,y)=wallsWest (ws.flatMap walkFeet) (x,y):=by
  intro x;unfold wallsWest;rw[List.countP_filter,List.countP_filter];refine List.countP_congr fun f _=>?_
  simp;omega
 split
 ·rename_i e;symm;rw[List.filter_eq_nil_iff];intro c hc;obtain⟨x,_,rfl⟩:=ar.mp hc;have w:=Be x;rw[List.isEmpty_iff.mp e]at w;rw[<- w];simp[wallsWest]
 ·refine filter_congr fun c hc=>?_
  obtain⟨x,_,rfl⟩:=ar.mp hc;rw[Be x]
theorem w8{ws:List Walk}(h:∀x y,(ws.flatMap walkFeet).countP (bL x y)<=1):cellsIn ws=aQ fun x y=>(ws.flatMap walkFeet).any (bL x y):=by
 rw[CF,aQ];congr 1;funext y;refine filter_congr fun c hc=>?_
 obtain⟨x,_,rfl⟩:=ar.mp hc;rw[zD h]
noncomputable def r6(a b:Point)(x y:Nat):Bool:=a.1==b.1&& (a.1==x&& (decide (min a.2 b.2<=y)&& decide (y<max a.2 b.2)))
theorem IZ(a b:Point)(x y:Nat):(feet a b).any (bL x y)=r6 a b x y:=by
 rw[di,fk];unfold feet;constructor
 ·rintro⟨f,hf,hv⟩;by_cases h1:a.2=b.2
  ·rw[ag h1]at hf;split at hf
   ·obtain⟨i,_,rfl⟩:=ar.mp hf;simp[bL]at hv
   ·obtain⟨i,_,rfl⟩:=ar.mp hf;simp[bL]at hv
  ·rw[af h1]at hf;by_cases h2:a.1=b.1
   ·rw[ag h2]at hf;split at hf
    ·obtain⟨i,hi,rfl⟩:=ar.mp hf;simp[bL,Prod.ext_iff]at hv hi;simp[r6];omega
    ·obtain⟨i,hi,rfl⟩:=ar.mp hf;simp[bL,Prod.ext_iff]at hv hi;simp[r6];omega
   ·rw[af h2]at hf;simp at hf
 ·intro h;simp[r6]at h;obtain⟨h1,h2,h3,h4⟩:=h;have jv:a.2≠b.2:=by omega
  rw[af jv,ag h1];by_cases jz:a.2<b.2
  ·rw[ag jz];refine⟨((a.1,y),1),ar.mpr ⟨y - a.2,by simp;omega,?_⟩,by simp[bL,Prod.ext_iff];omega⟩;simp[Prod.ext_iff];omega
  ·rw[af jz];refine⟨((a.1,y+1),3),ar.mpr ⟨a.2 - (y+1),by simp;omega,?_⟩,by simp[bL,Prod.ext_iff];omega⟩;simp[Prod.ext_iff];omega
noncomputable def dQ(ws:List Walk)(x y:Nat):Bool:=ws.any fun w=>(sides w).any fun s=>r6 s.1 s.2 x y
theorem FE(ws:List Walk)(x y:Nat):(ws.flatMap walkFeet).any (bL x y)=dQ ws x y:=by unfold dQ walkFeet;rw[List.any_flatMap];congr 1;funext w;rw[List.any_flatMap];congr 1;funext s;exact IZ s.1 s.2 x y
theorem kK{l:Cells}(h:isHouse l=true):l≠[]/\l.length<=256/\(∀c∈l,c.1<64/\c.2<64)/\rising l=true/\pinched l=false:=by
 unfold isHouse at h;cases l with
 |nil=>simp at h
 |cons c r=>
  simp[Roof.within,SIDE,CELLS]at h;obtain⟨h1,h2,h3,h4,h5⟩:=h;refine⟨by simp,by simpa using h1,?_,h3,h5⟩;intro x hx;rcases ak.mp hx with rfl|hx
  ·exact⟨ay h2.1.1,ay h2.1.2⟩
  ·exact⟨ay (h2.2 x.1 x.2 hx).1,ay (h2.2 x.1 x.2 hx).2⟩
theorem JJ{l:Cells}(h:∀c∈l,c.1<64/\c.2<64){q:Point}{d:Nat}(ho:outOf l q=some d):okP q:=by have:=gL ho;unfold pointsOf at this;rw[tN]at this;obtain⟨c,hc,hq⟩:=bw.mp this;have:=h c hc;simp at hq;rcases hq with rfl|rfl|rfl|rfl<;>(constructor<;>(try simp only)<;>omega)
theorem qW{l:Cells}(h:isHouse l=true):t7 (walksOf l)/\∀x y,((walksOf l).flatMap walkFeet).countP (bL x y)<=1:=by
 obtain⟨_,_,hb,_,hp⟩:=kK h;obtain⟨F,h1,h2,h3,_,h5⟩:=cM hp (d7.start l);refine⟨fun w hw p hpw=>?_,fun x y=>?_⟩
 ·obtain⟨d,hd⟩:=h5 w hw p hpw;exact JJ hb hd
 ·show((walksFrom l [] (pointsOf l)).flatMap walkFeet).countP _<=1
  rw[h1];have nd:=nO h3;have uniq:∀f∈F,∀g∈F,bL x y f=true->bL x y g=true->f=g:=by
   intro f hf g hg vf vg;have of:=h2 f hf;have og:=h2 g hg;obtain⟨⟨a,b⟩,d⟩:=f;obtain⟨⟨a',b'⟩,d'⟩:=g;simp[bL,Prod.ext_iff]at vf vg;obtain⟨_,w1⟩:=b8 of;obtain⟨_,w2⟩:=b8 og;rw[cX]at w1 w2;rcases vf with⟨e1,e2,e3⟩|⟨e1,e2,e3⟩<;>rcases vg with⟨g1,g2,g3⟩|⟨g1,g2,g3⟩
   ·subst e1 e2 e3 g1 g2 g3;rfl
   ·exfalso;subst e1 e2 e3 g1 g2 g3;simp[aY,ne,se]at w1 w2;rw[w1.2]at w2;simp at w2
   ·exfalso;subst e1 e2 e3 g1 g2 g3;simp[aY,ne,se]at w1 w2;rw[w2.2]at w1;simp at w1
   ·subst e1 e2 e3 g1 g2 g3;rfl
  have key:∀{F:List Foot},F.Nodup->(∀f∈F,∀g∈F,bL x y f=true->bL x y g=true->f=g)->F.countP (bL x y)<=1:=by
   intro F;induction F with
   |nil=>intro _ _;simp
   |cons f F ih=>
    intro nd u;obtain⟨n1,n2⟩:=dc.mp nd;rw[countP_cons];by_cases hv:bL x y f=true
    ·have:F.countP (bL x y)=0:=by rw[List.countP_eq_zero];intro g hg vg;have:=u f (by simp) g (by simp[hg]) hv vg;exact n1 (this▸hg)
     simp[this,hv]
    ·have:=ih n2 fun a ha b hb=>u a (by simp[ha]) b (by simp[hb])
     simp[hv];omega
  exact key nd uniq
noncomputable def IS(ws:List Walk):Option Cells:=if isHouse (aQ (dQ ws))=true/\walksOf (aQ (dQ ws))=ws then some (aQ (dQ ws))else none
theorem tT(ws:List Walk):(fun x y=>(ws.flatMap walkFeet).any (bL x y))=dQ ws:=by funext x y;exact FE ws x y
theorem BU{t:List Int}(ht:inB t){ws:List Walk}(o:BD ws)(e:eQ t=some (iWs ws)):houseOf (RoofBNeutral.text t)=IS ws:=by
 have inj:∀{a b:List Walk},iWs a=iWs b->a=b:=by intro a b h;refine map_inj (fun x _ y _ q=>map_inj (fun p _ p' _ r=>?_) q) h;have a1:=congrArg Prod.fst r;have a2:=congrArg Prod.snd r;simp[iP]at a1 a2;exact Prod.ext (by omega) (by omega)
 have hr:readWalks (RoofBNeutral.text t)=.ok ws:=by
  cases q:readWalks (RoofBNeutral.text t)with
  |error p=>rw[EL q]at e;cases e
  |ok v=>have:=(reads ht q).1;rw[e]at this;rw[inj (Option.some.inj this)]
 have hx:=(nB hr).2;have okp:t7 ws:=fun w hw=>(o.2 w hw).2
 unfold houseOf;rw[hr];dsimp only;unfold IS;by_cases h1:isHouse (cellsIn ws)=true/\textOf (cellsIn ws)=RoofBNeutral.text t
 ·rw[ag h1];obtain⟨k1,k2⟩:=qW h1.1;have hw:walksOf (cellsIn ws)=ws:=uB k1 okp (by rw[<- hx];exact h1.2);rw[hw]at k2;have e2:=w8 k2;rw[tT]at e2;rw[<- e2,ag ⟨h1.1,hw⟩]
 ·rw[af h1];by_cases h2:isHouse (aQ (dQ ws))=true/\walksOf (aQ (dQ ws))=ws
  ·exfalso;obtain⟨k1,k2⟩:=qW h2.1;rw[h2.2]at k2;have e2:=w8 k2;rw[tT]at e2;refine h1 ⟨by rw[e2];exact h2.1,?_⟩;rw[e2,textOf,h2.2,hx]
  ·rw[af h2]
theorem BV{t:List Int}(ht:inB t)(e:eQ t=none):houseOf (RoofBNeutral.text t)=none:=by
 unfold houseOf;cases q:readWalks (RoofBNeutral.text t)with
 |error p=>rfl
 |ok v=>have:=(reads ht q).1;rw[e]at this;cases this
noncomputable def aK(p:Pl)(s:Nat):Pl:=if s=0 then(p.1,p.2 - 1)else if s=1 then(p.1+1,p.2)else if s=2 then(p.1,p.2+1)else(p.1 - 1,p.2)
theorem fF{a b:Point}(h:iP a=iP b):a=b:=by have a1:=congrArg Prod.fst h;have a2:=congrArg Prod.snd h;simp[iP]at a1 a2;exact Prod.ext (by omega) (by omega)
theorem gP{l:Cells}{x:Cell}:iP x∈iW l↔x∈l:=by
 constructor
 ·intro h;obtain⟨y,hy,e⟩:=ar.mp h;exact fF e▸hy
 ·exact fun h=>ar.mpr ⟨x,h,rfl⟩
theorem rC{x y:Cell}:y∈beside x↔∃s,s<4/\iP y=aK (iP x) s:=by
 obtain⟨a,b⟩:=x;obtain⟨u,v⟩:=y;constructor
 ·intro h;unfold beside at h;rw[aw,aw]at h;rcases h with h|h|h
  ·simp at h;rcases h with⟨rfl,rfl⟩|⟨rfl,rfl⟩
   ·exact⟨1,by omega,by simp[iP,aK]⟩
   ·exact⟨2,by omega,by simp[iP,aK]⟩
  ·split at h
   ·simp at h;obtain⟨rfl,rfl⟩:=h;rename_i q;exact⟨3,by omega,by simp[iP,aK];simp at q;omega⟩
   ·simp at h
  ·split at h
   ·simp at h;obtain⟨rfl,rfl⟩:=h;rename_i q;exact⟨0,by omega,by simp[iP,aK];simp at q;omega⟩
   ·simp at h
 ·rintro⟨s,hs,e⟩;have cs:s=0\/s=1\/s=2\/s=3:=by omega
  unfold beside;rw[aw,aw];rcases cs with rfl|rfl|rfl|rfl
  ·simp[iP,aK]at e;right;right;rw[ag (show 0<b by omega)];simp;omega
  ·simp[iP,aK]at e;left;simp;omega
  ·simp[iP,aK]at e;left;simp;omega
  ·simp[iP,aK]at e;right;left;rw[ag (show 0<a by omega)];simp;omega
inductive uA (l:Cells) (c:Cell):Cell->Prop where
 |refl:uA l c c
 |step {x y:Cell}:uA l c x->y∈beside x->y∈l->uA l c y
theorem A7{l:Cells}{c:Cell}{R:List Cell}(h0:c∈R)(hc:∀x∈R,∀y∈beside x,y∈l->y∈R):∀x,uA l c x->x∈R:=by
 intro x h;induction h with
 |refl=>exact h0
 |step _ h1 h2 ih=>exact hc _ ih _ h1 h2
theorem yF{α:Type}[DecidableEq α]{R l:List α}(hR:R.Nodup)(hl:l.Nodup)(hs:∀x∈R,x∈l):R.length=l.length↔∀x∈l,x∈R:=by
 constructor
 ·intro e x hx;apply Classical.byContradiction;intro hn;have:=cO (a:=R) (b:=l.erase x) hR fun y hy=>(List.mem_erase_of_ne (fun(q:y=x)=>hn (q▸hy))).mpr (hs y hy)
  rw[List.length_erase_of_mem hx]at this;have:0<l.length:=List.length_pos_of_mem hx;omega
 ·intro h;exact Nat.le_antisymm (cO hR hs) (cO hl h)
theorem jS{α:Type}[BEq α][LawfulBEq α]:∀(n:Nat)(l:List α),l.length<=n->l.eraseDups.Nodup
 |0,l,h=>by have:l=[]:=List.length_eq_zero_iff.mp (by omega);subst this;simp
 |n+1,[],h=>by simp
 |n+1,a::l,h=>by
  rw[List.eraseDups_cons];refine dc.mpr ⟨fun hm=>?_,jS n _ ?_⟩
  ·rw[List.mem_eraseDups]at hm;simp at hm
  ·have:=gw (fun b=>!b==a) l;simp at h;omega
structure DY(l:Cells)(c:Cell)(R:List Cell):Prop where
 nd:R.Nodup
 sub:∀x∈R,x∈l
 conn:∀x∈R,uA l c x
 start:c∈R
theorem v9{l:Cells}{c:Cell}:∀(f:Nat)(seen new:List Cell),DY l c seen->(∀x∈new,x∈seen)->(∀x∈seen,x∉new->∀y∈beside x,y∈l->y∈seen)->l.length<seen.length+f ->
  DY l c (reach l f seen new)/\∀x∈reach l f seen new,∀y∈beside x,y∈l->y∈reach l f seen new
 |0,seen,new,h,_,_,hl=>by have:=cO h.nd h.sub;omega
 |f+1,seen,new,h,hn,hc,hl=>by
  have eR:reach l (f+1) seen new=(if((new.flatMap beside).filter fun(c:Cell)=>l.contains c&& !seen.contains c).eraseDups=[]then seen else
   reach l f (seen++((new.flatMap beside).filter fun(c:Cell)=>l.contains c&& !seen.contains c).eraseDups) ((new.flatMap beside).filter fun(c:Cell)=>l.contains c&& !seen.contains c).eraseDups):=rfl
  rw[eR];generalize hN:((new.flatMap beside).filter fun(c:Cell)=>l.contains c&& !seen.contains c).eraseDups=N;have hm:∀y,y∈N↔(∃x∈new,y∈beside x)/\y∈l/\y∉seen:=by intro y;rw[<- hN,List.mem_eraseDups,cg,bw];simp
  have qy:N.Nodup:=hN▸jS _ _ (ax _);have Dr:∀x∈seen,∀y∈beside x,y∈l->y∈seen\/y∈N:=by
   intro x hx y hy uc;by_cases hxn:x∈new
   ·by_cases hys:y∈seen
    ·exact .inl hys
    ·exact .inr ((hm y).mpr ⟨⟨x,hxn,hy⟩,uc,hys⟩)
   ·exact .inl (hc x hx hxn y hy uc)
  by_cases he:N=[]
  ·rw[ag he];refine⟨h,fun x hx y hy uc=>?_⟩;rcases Dr x hx y hy uc with q|q
   ·exact q
   ·rw[he]at q;simp at q
  ·rw[af he];refine v9 f (seen++N) N ⟨?_,?_,?_,cf _ h.start⟩ (fun x hx=>bf _ hx) ?_ ?_
   ·rw[de];refine⟨h.nd,qy,fun a ha b hb e=>?_⟩;exact((hm b).mp hb).2.2 (e▸ha)
   ·intro x hx;rcases aw.mp hx with hx|hx
    ·exact h.sub x hx
    ·exact((hm x).mp hx).2.1
   ·intro x hx;rcases aw.mp hx with hx|hx
    ·exact h.conn x hx
    ·obtain⟨⟨z,hz,q⟩,hl,_⟩:=(hm x).mp hx;exact .step (h.conn z (hn z hz)) q hl
   ·intro x hx hxn y hy uc;rcases aw.mp hx with hx|hx
    ·rcases Dr x hx y hy uc with q|q
     ·exact cf _ q
     ·exact bf _ q
    ·exact absurd hx hxn
   ·have:0<N.length:=gm.mpr he;rw[aj];omega
theorem EM{l:Cells}(hl:l.Nodup){c:Cell}(hc:c∈l):(reach l l.length [c] [c]).length=l.length↔∀x∈l,uA l c x:=by
 obtain⟨h,nz⟩:=v9 l.length [c] [c] (l:=l) (c:=c) ⟨by simp,by simpa using hc,by intro x hx;simp at hx;subst hx;exact .refl,by simp⟩ (by simp) (by intro x hx hn;exact absurd hx hn) (by simp);rw[yF h.nd hl h.sub];constructor
 ·exact fun q x hx=>h.conn x (q x hx)
 ·exact fun q x hx=>A7 h.start nz x (q x hx)
structure Dfs(l:Cells)(c:Cell)(reached ot:List Pl):Prop where
 nd:reached.Nodup
 sub:∀p∈reached,∃x∈l,p=iP x/\uA l c x
 wait:∀p∈ot,∀x∈l,p=iP x->uA l c x
 start:iP c∈reached\/iP c∈ot
 pC:∀p∈reached,∀s,s<4->aK p s∈iW l->aK p s∈reached\/aK p s∈ot
theorem Dfs.first{l:Cells}{c:Cell}:Dfs l c [] [iP c]:=
 ⟨by simp,by simp,by intro p hp x hx e;simp at hp;subst hp;rw[fF e];exact .refl,.inr (by simp),by simp⟩
theorem Dfs.skip{l:Cells}{c:Cell}{reached w:List Pl}{p:Pl}(h:Dfs l c reached (w++[p]))(hc:c∈l)(hp:p∉iW l\/p∈reached):Dfs l c reached w:=by
 refine⟨h.nd,h.sub,fun q hq=>h.wait q (by simp[hq]),?_,fun q hq s hs hm=>?_⟩
 ·rcases h.start with e|e
  ·exact .inl e
  ·rcases aw.mp e with e|e
   ·exact .inr e
   ·simp at e;rcases hp with hp|hp
    ·rw[<- e]at hp;exact absurd (gP.mpr hc) hp
    ·rw[e];exact .inl hp
 ·rcases h.pC q hq s hs hm with e|e
  ·exact .inl e
  ·rcases aw.mp e with e|e
   ·exact .inr e
   ·simp at e;rcases hp with hp|hp
    ·rw[e]at hm;exact absurd hm hp
    ·rw[e];exact .inl hp
theorem Dfs.take{l:Cells}{c:Cell}{reached w:List Pl}{p:Pl}(h:Dfs l c reached (w++[p]))(hp:p∈iW l)(hn:p∉reached):
  Dfs l c (reached++[p]) (w++[aK p 0,aK p 1,aK p 2,aK p 3]):=by
 obtain⟨x,hx,e⟩:=ar.mp hp;have hcx:uA l c x:=h.wait p (by simp) x hx e.symm;refine⟨?_,?_,?_,?_,?_⟩
 ·rw[de];refine⟨h.nd,by simp,fun a ha b hb=>?_⟩;simp at hb;subst hb;intro q;exact hn (q▸ha)
 ·intro q hq;rcases aw.mp hq with hq|hq
  ·exact h.sub q hq
  ·simp at hq;exact⟨x,hx,by rw[hq,e],hcx⟩
 ·intro q hq y hy ey;rcases aw.mp hq with hq|hq
  ·exact h.wait q (by simp[hq]) y hy ey
  ·have:y∈beside x:=by
    rw[rC];simp at hq;rcases hq with q0|q0|q0|q0
    ·exact⟨0,by omega,by rw[e,<- ey,q0]⟩
    ·exact⟨1,by omega,by rw[e,<- ey,q0]⟩
    ·exact⟨2,by omega,by rw[e,<- ey,q0]⟩
    ·exact⟨3,by omega,by rw[e,<- ey,q0]⟩
   exact .step hcx this hy
 ·rcases h.start with q|q
  ·exact .inl (by simp[q])
  ·rcases aw.mp q with q|q
   ·exact .inr (by simp[q])
   ·simp at q;exact .inl (by simp[q])
 ·intro q hq s hs hm;rcases aw.mp hq with hq|hq
  ·rcases h.pC q hq s hs hm with r|r
   ·exact .inl (by simp[r])
   ·rcases aw.mp r with r|r
    ·exact .inr (by simp[r])
    ·simp at r;exact .inl (by simp[r])
  ·simp at hq;subst hq;have cs:s=0\/s=1\/s=2\/s=3:=by omega
   right;rcases cs with rfl|rfl|rfl|rfl<;>simp
theorem Dfs.len{l:Cells}{c:Cell}{reached w:List Pl}(h:Dfs l c reached w):reached.length<=l.length:=by
 have:=cO (b:=iW l) h.nd fun p hp=>by obtain⟨x,hx,e,_⟩:=h.sub p hp;rw[e];exact gP.mpr hx
 simpa[iW]using this
theorem Dfs.done{l:Cells}(hl:l.Nodup){c:Cell}(hc:c∈l){reached:List Pl}(h:Dfs l c reached []):decide (reached.length=l.length)=((reach l l.length [c] [c]).length==l.length):=by
 have e1:(iW l).length=l.length:=by simp[iW]
 have nd:(iW l).Nodup:=dY hl fun x _ y _ e=>fF e
 have k1:=yF (R:=reached) (l:=iW l) h.nd nd fun p hp=>by obtain⟨x,hx,e,_⟩:=h.sub p hp;rw[e];exact gP.mpr hx
 rw[e1]at k1;have k2:=EM hl hc;have k3:(∀x∈iW l,x∈reached)↔∀x∈l,uA l c x:=by
  constructor
  ·intro q x hx;obtain⟨y,hy,e,hcy⟩:=h.sub _ (q (iP x) (gP.mpr hx));rw[fF e];exact hcy
  ·intro q p hp;obtain⟨x,hx,rfl⟩:=ar.mp hp;have key:∀x,uA l c x->iP x∈reached:=by
    intro x hcx;induction hcx with
    |refl=>
     rcases h.start with r|r
     ·exact r
     ·simp at r
    |step _ h1 h2 ih=>
     obtain⟨s,hs,e⟩:=rC.mp h1;rcases h.pC _ ih s hs (by rw[<- e];exact gP.mpr h2)with r|r
     ·rw[e];exact r
     ·simp at r
   exact key x (q x hx)
 rw[di];simp only[decide_eq_true_eq,beq_iff_eq];rw[k1,k3,k2]
noncomputable def bC(l:Cells)(p:Pl)(s:Nat):Bool:=!decide (aK p s∈iW l)&& (!decide (aK p ((s+1)%4)∈iW l)&& decide (aK (aK p s) ((s+1)%4)∈iW l))
theorem mL{l:Cells}{x y:Int}:(x,y)∈iW l↔inI l x y=true:=by
 constructor
 ·intro h;obtain⟨c,hc,e⟩:=ar.mp h;have a1:=congrArg Prod.fst e;have a2:=congrArg Prod.snd e;simp[iP]at a1 a2;rw[<- a1,<- a2,cE];simpa using hc
 ·intro h;obtain⟨h1,h2,h3⟩:=bS h;refine ar.mpr ⟨_,h3,?_⟩;simp[iP];omega
theorem jN{l:Cells}{x y:Int}:decide ((x,y)∈iW l)=inI l x y:=by rw[di,decide_eq_true_eq];exact mL
theorem B5{l:Cells}:pinched l=(iW l).any fun p=>bC l p 0||(bC l p 1||(bC l p 2||bC l p 3)):=by
 have m0:∀x y:Int,bC l (x,y) 0=(!inI l x (y - 1)&& (!inI l (x+1) y&& inI l (x+1) (y - 1))):=by intro x y;simp only[bC,aK];simp only[jN,ag,af (show¬((0+1)%4=0) by decide),ag (show(0+1)%4=1 by decide)]
 have m1:∀x y:Int,bC l (x,y) 1=(!inI l (x+1) y&& (!inI l x (y+1)&& inI l (x+1) (y+1))):=by intro x y;simp[bC,aK,jN]
 have m2:∀x y:Int,bC l (x,y) 2=(!inI l x (y+1)&& (!inI l (x - 1) y&& inI l (x - 1) (y+1))):=by intro x y;simp[bC,aK,jN]
 have m3:∀x y:Int,bC l (x,y) 3=(!inI l (x - 1) y&& (!inI l x (y - 1)&& inI l (x - 1) (y - 1))):=by intro x y;simp[bC,aK,jN]
 rw[di];constructor
 ·intro h;obtain⟨⟨a,b⟩,hc,q⟩:=fk.mp h;refine fk.mpr ⟨iP (a,b),gP.mpr hc,?_⟩;show(bC l ((a:Int),(b:Int)) 0||(bC l ((a:Int),(b:Int)) 1||(bC l ((a:Int),(b:Int)) 2||bC l ((a:Int),(b:Int)) 3)))=true
  rw[m1,m2];rw[or_eq_true]at q;rcases q with q|q
  ·simp only[dk,ie,Bool.or_eq_false_iff]at q;have b1:inI l ((a:Int)+1) ((b:Int)+1)=true:=by have:=cE l (a+1) (b+1);rw[q.1]at this;simpa using this
   have b2:inI l ((a:Int)+1) b=false:=by have:=cE l (a+1) b;rw[q.2.1]at this;simpa using this
   have b3:inI l (a:Int) ((b:Int)+1)=false:=by have:=cE l a (b+1);rw[q.2.2]at this;simpa using this
   simp[b1,b2,b3]
  ·simp only[dk,ie,Bool.or_eq_false_iff,decide_eq_true_eq]at q;obtain⟨q0,q1,q2,q3⟩:=q;have e:((a - 1:Nat):Int)=(a:Int) - 1:=by have:0<a:=q0;omega
   have b1:inI l ((a:Int) - 1) ((b:Int)+1)=true:=by have:=cE l (a - 1) (b+1);rw[q1,e]at this;simpa using this
   have b2:inI l ((a:Int) - 1) b=false:=by have:=cE l (a - 1) b;rw[q2,e]at this;simpa using this
   have b3:inI l (a:Int) ((b:Int)+1)=false:=by have:=cE l a (b+1);rw[q3]at this;simpa using this
   simp[b1,b2,b3]
 ·intro h;obtain⟨p,hp,q⟩:=fk.mp h;cases hb:pinched l with
  |true=>rfl
  |false=>
   exfalso;obtain⟨x,y⟩:=p;have hp:=mL.mp hp;rw[m0,m1,m2,m3]at q;simp only[or_eq_true,dk,ie]at q;rcases q with⟨q1,q2,q3⟩|⟨q1,q2,q3⟩|⟨q1,q2,q3⟩|⟨q1,q2,q3⟩
   ·
    refine(gG hb (x+1) y).2 ⟨?_,?_,?_,?_⟩
    ·rw[nw,show x+1 - 1=x by omega];exact hp
    ·exact q3
    ·exact q2
    ·rw[sw,show x+1 - 1=x by omega];exact q1
   ·refine(gG hb (x+1) (y+1)).1 ⟨?_,?_,?_,?_⟩
    ·rw[sw,show x+1 - 1=x by omega,show y+1 - 1=y by omega];exact hp
    ·exact q3
    ·rw[se,show y+1 - 1=y by omega];exact q1
    ·rw[nw,show x+1 - 1=x by omega];exact q2
   ·refine(gG hb x (y+1)).2 ⟨?_,?_,?_,?_⟩
    ·exact q3
    ·rw[se,show y+1 - 1=y by omega];exact hp
    ·exact q1
    ·rw[sw,show y+1 - 1=y by omega];exact q2
   ·refine(gG hb x y).1 ⟨?_,?_,?_,?_⟩
    ·exact q3
    ·exact hp
    ·exact q2
    ·exact q1
theorem sO:∀{l:Cells},rising l=true↔l.Pairwise fun a b=>before a b=true
 |[]=>by simp[rising]
 |[a]=>by simp[rising]
 |a::b::r=>by
  have ih:=sO (l:=b::r);unfold rising;rw[dk,ih,gf (l:=b::r)];constructor
  ·rintro⟨h1,h2⟩;refine⟨fun x hx=>?_,h2⟩;rcases ak.mp hx with rfl|hx
   ·exact h1
   ·exact jO h1 ((gf.mp h2).1 x hx)
  ·rintro⟨h1,h2⟩;exact⟨h1 b (by simp),h2⟩
theorem gS{F:Nat->Nat->Bool}{c:Cell}:c∈aQ F↔c.1<64/\c.2<64/\c9 F c.2 c.1=true:=by
 unfold aQ SIDE;simp only[bw,cg,ar,iz];constructor
 ·rintro⟨y,hy,⟨x,hx,rfl⟩,h⟩;exact⟨hx,hy,h⟩
 ·rintro⟨h1,h2,h3⟩;exact⟨c.2,h2,⟨c.1,h1,rfl⟩,h3⟩
theorem mG(F:Nat->Nat->Bool):(aQ F).Pairwise fun a b=>before a b=true:=by
 unfold aQ;rw[List.pairwise_flatMap];refine⟨fun y _=>?_,?_⟩
 ·refine List.Pairwise.filter _ ?_;rw[jg];refine List.Pairwise.imp (fun{a b} h=>?_) List.pairwise_lt_range;rw[d3];exact .inr ⟨rfl,h⟩
 ·refine List.Pairwise.imp (fun{a b} h=>?_) List.pairwise_lt_range;intro x hx y hy;simp only[cg,ar]at hx hy;obtain⟨⟨i,_,rfl⟩,_⟩:=hx;obtain⟨⟨j,_,rfl⟩,_⟩:=hy;rw[d3];exact .inl h
theorem tL{F:Nat->Nat->Bool}{c:Cell}{r:Cells}(e:aQ F=c::r):
  isHouse (aQ F)=(decide ((aQ F).length<=256)&& (!pinched (aQ F)&& ((reach (aQ F) (aQ F).length [c] [c]).length==(aQ F).length))):=by
 have h1:(aQ F).all Roof.within=true:=ij.mpr fun x hx=>by have:=gS.mp hx;simp[Roof.within,SIDE];exact⟨decide_eq_true this.1,decide_eq_true this.2.1⟩
 have h2:=sO.mpr (mG F);rw[e]at h1 h2 ⊢;show(decide ((c::r).length<=CELLS)&& ((c::r).all Roof.within&& (rising (c::r)&& ((reach (c::r) (c::r).length [c] [c]).length==(c::r).length&& !pinched (c::r)))))=_
 rw[h1,h2,Bool.true_and,Bool.true_and,Bool.and_comm (!pinched (c::r))];rfl
theorem zB:isHouse []=false:=rfl
def hP(r:Nat):Pl:=((iOf r:Int),(jOf r:Int))
def okR(r:Nat):Prop:=∃i j,i<128/\j<128/\r=raw i j
theorem xE{i j:Nat}(hi:i<128):iOf (raw i j)=i:=by unfold iOf raw W;omega
theorem xC{i j:Nat}(hi:i<128):jOf (raw i j)=j:=by unfold jOf raw W;omega
theorem cY{i j:Nat}(hi:i<128):hP (raw i j)=((i:Int),(j:Int)):=by unfold hP;rw[xE hi,xC hi]
theorem pW{r q:Nat}(hr:okR r)(hq:okR q)(e:hP r=hP q):r=q:=by
 obtain⟨i,j,hi,hj,rfl⟩:=hr;obtain⟨i',j',qp,vd,rfl⟩:=hq;rw[cY hi,cY qp]at e;have a:=congrArg Prod.fst e;have b:=congrArg Prod.snd e;simp at a b;have a:i=i':=by omega
 have b:j=j':=by omega
 rw[a,b]
theorem HQ{r:Nat}(h:okR r):r<W*W:=by obtain⟨i,j,hi,hj,rfl⟩:=h;unfold raw W;omega
theorem K1{L:List Nat}(hL:∀q∈L,okR q){r q:Nat}(hr:okR r){dx dy:Int}(h1:-1<=dx/\dx<=1)(h2:-1<=dy/\dy<=1)(hq:(q:Int)=r+130*dy+dx):
  q∈L↔((hP r).1+dx,(hP r).2+dy)∈L.map hP:=by
 obtain⟨i,j,hi,hj,rfl⟩:=hr;rw[cY hi];constructor
 ·intro h;refine ar.mpr ⟨q,h,?_⟩;obtain⟨i',j',qp,vd,e⟩:=hL q h;rw[e,cY qp];unfold raw W at e hq;apply Prod.ext
  ·simp;omega
  ·simp;omega
 ·intro h;obtain⟨z,hz,e⟩:=ar.mp h;obtain⟨i',j',qp,vd,ez⟩:=hL z hz;rw[ez,cY qp]at e;have a:=congrArg Prod.fst e;have b:=congrArg Prod.snd e;simp at a b;have:z=q:=by rw[ez];unfold raw W at hq ⊢;omega
  rw[<- this];exact hz
noncomputable def bA(h:List Nat):Nat->List Nat
 |0=>h
 |k+1=>(bA h k).filter fun r=>(about r).all fun q=>(bA h k).contains q
noncomputable def cP(p:Pl):List Pl:=[(p.1+-1,p.2+-1),(p.1+0,p.2+-1),(p.1+1,p.2+-1),(p.1+-1,p.2+0),(p.1+1,p.2+0),(p.1+-1,p.2+1),(p.1+0,p.2+1),(p.1+1,p.2+1)]
noncomputable def aP(hs:List Pl):Nat->List Pl
 |0=>hs
 |k+1=>(aP hs k).filter fun p=>(cP p).all fun q=>(aP hs k).contains q
theorem kI(h:List Nat):∀k,∀r∈bA h k,r∈h
 |0,r,hr=>hr
 |k+1,r,hr=>kI h k r (cg.mp hr).1
theorem jC{h:List Nat}(hh:∀r∈h,okR r)(k:Nat):∀r∈bA h k,okR r:=fun r hr=>hh r (kI h k r hr)
theorem G3{L:List Nat}(hL:∀q∈L,okR q){r:Nat}(hr:okR r):((about r).all fun q=>L.contains q)=(cP (hP r)).all fun q=>(L.map hP).contains q:=by
 obtain⟨i,j,hi,hj,e⟩:=id hr;have key:∀{q:Nat}{dx dy:Int},(-1<=dx/\dx<=1)->(-1<=dy/\dy<=1)->((q:Int)=r+130*dy+dx)->L.contains q=(L.map hP).contains ((hP r).1+dx,(hP r).2+dy):=by intro q dx dy h1 h2 hq;rw[di];simp only[ja];exact K1 hL hr h1 h2 hq
 have rf:131<=r:=by rw[e];unfold raw W;omega
 simp only[about,cP,List.all_cons,List.all_nil];rw[key (dx:=-1) (dy:=-1) (by omega) (by omega) (by unfold W;omega),key (dx:=0) (dy:=-1) (by omega) (by omega) (by unfold W;omega),key (dx:=1) (dy:=-1) (by omega) (by omega) (by unfold W;omega),
  key (dx:=-1) (dy:=0) (by omega) (by omega) (by omega),key (dx:=1) (dy:=0) (by omega) (by omega) (by omega),
  key (dx:=-1) (dy:=1) (by omega) (by omega) (by unfold W;omega),key (dx:=0) (dy:=1) (by omega) (by omega) (by unfold W;omega),key (dx:=1) (dy:=1) (by omega) (by omega) (by unfold W;omega)]
theorem dE{h:List Nat}(hh:∀r∈h,okR r):∀k,aP (h.map hP) k=(bA h k).map hP
 |0=>rfl
 |k+1=>by
  have ih:=dE hh k;show(aP (h.map hP) k).filter _=((bA h k).filter _).map hP
  rw[ih,List.filter_map];have e:=filter_congr (l:=bA h k) (p:=(fun p=>(cP p).all fun q=>((bA h k).map hP).contains q)∘hP) (q:=fun r=>(about r).all fun q=>(bA h k).contains q) fun r hr=>(G3 (jC hh k) (jC hh k r hr)).symm
  rw[e]
theorem mM{h:List Nat}(hh:∀r∈h,okR r):∀k,∀p∈aP (h.map hP) k,(k:Int)<=p.1/\p.1+k<=127
 |0,p,hp=>by obtain⟨r,hr,rfl⟩:=ar.mp hp;obtain⟨i,j,hi,hj,rfl⟩:=hh r hr;rw[cY hi];simp;omega
 |k+1,p,hp=>by obtain⟨h1,h2⟩:=cg.mp hp;simp only[ij,ja]at h2;have a:=mM hh k _ (h2 (p.1+-1,p.2+0) (by simp[cP]));have b:=mM hh k _ (h2 (p.1+1,p.2+0) (by simp[cP]));simp at a b;simp;omega
theorem eS{h:List Nat}(hh:∀r∈h,okR r){k:Nat}(hk:64<=k):bA h k=[]:=by
 have:=mM hh k;rw[dE hh]at this;cases e:bA h k with
 |nil=>rfl
 |cons r t=>rw[e]at this;have:=this (hP r) (by simp);omega
theorem qU{h:List Nat}{k:Nat}(e:bA h k=[]):∀m,k<=m->bA h m=[]
 |0,hm=>by
  have:k=0:=by omega
  rw[<- this];exact e
 |m+1,hm=>by
  by_cases hk:k=m+1
  ·rw[<- hk];exact e
  ·show(bA h m).filter _=[]
   rw[qU e m (by omega)];rfl
noncomputable def gv(h:List Nat):Nat->Nat->Nat
 |0,_=>0
 |k+1,r=>if r∈bA h k then k+1 else gv h k r
theorem LM(h:List Nat):∀k r,gv h k r<=k
 |0,r=>ax _
 |k+1,r=>by
  unfold gv;split
  ·exact ax _
  ·exact Nat.le_succ_of_le (LM h k r)
theorem MS{h:List Nat}{k r:Nat}:k+1<=gv h (k+1) r↔r∈bA h k:=by
 show k+1<=(if r∈bA h k then k+1 else gv h k r)↔ _
 split
 ·rename_i q;simp[q]
 ·rename_i q;have:=LM h k r;simp[q];omega
theorem nX{h:List Nat}{k:Nat}(e:bA h k=[])(r:Nat):∀m,k<=m->gv h m r=gv h k r
 |0,hm=>by
  have:k=0:=by omega
  rw[this]
 |m+1,hm=>by
  by_cases hk:k=m+1
  ·rw[hk]
  ·show(if r∈bA h m then m+1 else gv h m r)=_
   rw[qU e m (by omega),af (by simp)];exact nX e r m (by omega)
theorem sV(k:Nat):∀(l:List Nat)(g:Grid),(put g k l).size=g.size
 |[],g=>rfl
 |r::l,g=>by
  show(put (g.setIfInBounds r k) k l).size=_
  rw[sV k l];simp
theorem wU(k:Nat):∀(l:List Nat)(g:Grid)(r:Nat),(∀x∈l,x<g.size)->(put g k l).val r=if r∈l then k else g.val r
 |[],g,r,_=>by simp[put]
 |x::l,g,r,h=>by
  show(put (g.setIfInBounds x k) k l).val r=_
  rw[wU k l _ r fun y hy=>by simpa using h y (by simp[hy])];have hx:=h x (by simp);by_cases h1:r∈l
  ·simp[h1]
  ·rw[af h1];by_cases h2:r=x
   ·subst h2;simp only[ak,true_or,if_true];simp[Grid.val,dh,hx]
   ·have h3:¬r∈x::l:=by simp[h1,h2]
    rw[af h3];unfold Grid.val;simp only[dh,ji];rw[af (fun e=>h2 e.symm)]
theorem yD{h:List Nat}(hh:∀r∈h,okR r):∀(f k:Nat)(g:Grid),g.size=W*W->(∀r,g.val r=gv h (k+1) r)->64<=f+k->∀r,(sink f (k+1) (bA h k) g).val r=gv h (f+k+1) r
 |0,k,g,hs,hg,hk,r=>by
  show g.val r=_
  rw[hg];simp
 |f+1,k,g,hs,hg,hk,r=>by
  have en:((bA h k).filter fun(r:Nat)=>(about r).all fun(q:Nat)=>decide (k+1<=g.val q))=bA h (k+1):=by
   show _=(bA h k).filter _
   refine filter_congr fun r hr=>?_
   congr 1;funext q;rw[di,decide_eq_true_eq,ja,hg];exact MS
  show(if((bA h k).filter fun(r:Nat)=>(about r).all fun(q:Nat)=>decide (k+1<=g.val q)).isEmpty=true then g else sink f (k+1+1) ((bA h k).filter fun(r:Nat)=>(about r).all fun(q:Nat)=>decide (k+1<=g.val q)) (put g (k+1+1) ((bA h k).filter fun(r:Nat)=>(about r).all fun(q:Nat)=>decide (k+1<=g.val q)))).val r=_
  rw[en];by_cases he:(bA h (k+1)).isEmpty=true
  ·rw[ag he,hg];exact(nX (List.isEmpty_iff.mp he) r _ (by omega)).symm
  ·rw[af he];have lt:∀x∈bA h (k+1),x<g.size:=fun x hx=>by rw[hs];exact HQ (jC hh _ x hx)
   rw[yD hh f (k+1) _ (by rw[sV,hs]) (fun x=>?_) (by omega) r]
   ·congr 1;omega
   ·rw[wU _ _ _ _ lt,hg];rfl
theorem zL{h:List Nat}(hh:∀r∈h,okR r){n:Nat}(hn:bA h n=[])(r:Nat):(gridOf h).val r=gv h n r:=by
 unfold gridOf HALVES;have e:(put (Array.replicate (W*W) 0) 1 h).size=W*W:=by rw[sV];simp
 have lt:∀x∈h,x<(Array.replicate (W*W) (0:Nat)).size:=fun x hx=>by have:=HQ (hh x hx);simpa using this
 have z:∀r,Grid.val (Array.replicate (W*W) 0) r=0:=by intro r;unfold Grid.val;rw[dh,Array.getElem?_replicate];split<;>rfl
 have:=yD hh 128 0 (put (Array.replicate (W*W) 0) 1 h) e (fun r=>by rw[wU _ _ _ _ lt,z];rfl) (by omega) r;show(sink 128 (0+1) (bA h 0) _).val r=_
 rw[this];have Bc:=eS hh (ax 64);rw[nX Bc r _ (by omega)];by_cases hc:n<=64
 ·exact nX hn r 64 hc
 ·exact(nX Bc r n (by omega)).symm
noncomputable def gD(hs:List Pl):Nat->Pl->Int
 |0,_=>-1
 |k+1,p=>if p∈aP hs k then k else gD hs k p
theorem DP{h:List Nat}(hh:∀r∈h,okR r){r:Nat}(hr:okR r):∀k,gD (h.map hP) k (hP r)=(gv h k r:Int) - 1
 |0=>rfl
 |k+1=>by
  have ih:=DP hh hr k;have e:hP r∈aP (h.map hP) k↔r∈bA h k:=by
   rw[dE hh];constructor
   ·intro q;obtain⟨z,hz,e⟩:=ar.mp q;rw[<- pW (jC hh k z hz) hr e];exact hz
   ·exact fun q=>ar.mpr ⟨r,q,rfl⟩
  show(if hP r∈aP (h.map hP) k then(k:Int)else gD (h.map hP) k (hP r))=((if r∈bA h k then k+1 else gv h k r:Nat):Int) - 1
  by_cases q:r∈bA h k
  ·rw[ag (e.mpr q),ag q];omega
  ·rw[af (fun z=>q (e.mp z)),af q,ih]
theorem vX{h:List Nat}(hh:∀r∈h,okR r){n:Nat}(hn:aP (h.map hP) n=[]){r:Nat}(hr:okR r):gD (h.map hP) n (hP r)=((gridOf h).val r:Int) - 1:=by rw[dE hh,List.map_eq_nil_iff]at hn;rw[DP hh hr,zL hh hn]
theorem lS{h:List Nat}(hh:∀r∈h,okR r){r:Nat}:0<(gridOf h).val r↔r∈h:=by
 have Bc:=eS hh (ax 64);rw[zL hh Bc];have key:∀k,0<gv h (k+1) r↔r∈h:=by
  intro k;induction k with
  |zero=>
   show 0<(if r∈h then 0+1 else 0)↔ _
   split<;>simp_all
  |succ k ih=>
   show 0<(if r∈bA h (k+1)then k+1+1 else gv h (k+1) r)↔ _
   split
   ·rename_i q;simp[kI h _ r q]
   ·exact ih
 exact key 63
theorem IW{h:List Nat}(hh:∀r∈h,okR r){r:Nat}(hr:r∉h):(gridOf h).val r=0:=by
 have:¬0<(gridOf h).val r:=fun q=>hr ((lS hh).mp q)
 omega
noncomputable def qP(l:Cells):List Nat:=l.flatMap fun(c:Cell)=>[raw (2*c.1) (2*c.2),raw (2*c.1+1) (2*c.2),raw (2*c.1) (2*c.2+1),raw (2*c.1+1) (2*c.2+1)]
theorem mP{l:Cells}{r:Nat}:r∈halvesOf l↔r∈qP l:=by unfold halvesOf;rw[List.mem_mergeSort];rfl
theorem aO{l:Cells}(hb:∀c∈l,c.1<64/\c.2<64):∀r∈halvesOf l,okR r:=by
 intro r hr;rw[mP]at hr;obtain⟨c,hc,h⟩:=bw.mp hr;have b:=hb c hc;simp at h;rcases h with rfl|rfl|rfl|rfl
 ·exact⟨_,_,by omega,by omega,rfl⟩
 ·exact⟨_,_,by omega,by omega,rfl⟩
 ·exact⟨_,_,by omega,by omega,rfl⟩
 ·exact⟨_,_,by omega,by omega,rfl⟩
theorem yI{l:Cells}(hl:l.Nodup)(hb:∀c∈l,c.1<64/\c.2<64):(qP l).Nodup:=by
 induction l with
 |nil=>simp[qP]
 |cons c l ih=>
  obtain⟨n1,n2⟩:=dc.mp hl;have e:qP (c::l)=[raw (2*c.1) (2*c.2),raw (2*c.1+1) (2*c.2),raw (2*c.1) (2*c.2+1),raw (2*c.1+1) (2*c.2+1)]++qP l:=rfl;rw[e,de];have b:=hb c (by simp);refine⟨?_,ih n2 fun x hx=>hb x (by simp[hx]),?_⟩
  ·simp[raw,W];omega
  ·intro a ha z hz e2;obtain⟨c',vm,h⟩:=bw.mp hz;have b':=hb c' (by simp[vm]);have:c=c':=by
    subst e2;simp[raw,W]at h ha;apply Prod.ext
    ·omega
    ·omega
   exact n1 (this▸vm)
theorem iE{l:Cells}(hl:l.Nodup)(hb:∀c∈l,c.1<64/\c.2<64):(halvesOf l).Pairwise (· < ·):=by
 have h1:(halvesOf l).Pairwise fun a b=>decide (a<=b)=true:=List.pairwise_mergeSort (le:=fun(a b:Nat)=>decide (a<=b)) (by intro a b c h1 h2;simp at*;omega) (by intro a b;simp;omega) _
 have h2:(halvesOf l).Nodup:=(List.mergeSort_perm _ _).nodup_iff.mpr (yI hl hb);have h3:(halvesOf l).Pairwise fun a b=>decide (a<=b)=true/\a≠b:=List.pairwise_and_iff.mpr ⟨h1,h2⟩
 exact h3.imp fun{a b} ⟨q1,q2⟩=>by simp at q1;omega
def CV(a b:Pl):Prop:=a.2<b.2\/(a.2=b.2/\a.1<b.1)
def g8(a b:Pl):Prop:=a.2<b.2\/(a.2=b.2/\a.1<=b.1)
theorem sL{a b:Pl}(h1:g8 a b)(h2:g8 b a):a=b:=by unfold g8 at*;exact Prod.ext (by omega) (by omega)
theorem zK{l:Cells}(hl:l.Nodup)(hb:∀c∈l,c.1<64/\c.2<64):((halvesOf l).map hP).Pairwise g8:=by
 rw[jg];refine(iE hl hb).imp_of_mem fun{a b} ha uk h=>?_
 obtain⟨i,j,hi,hj,rfl⟩:=aO hb a ha;obtain⟨i',j',qp,vd,rfl⟩:=aO hb b uk;rw[cY hi,cY qp];unfold g8;unfold raw W at h;simp;omega
noncomputable def eV(cs:List Pl):List Pl:=cs.flatMap fun c=>[(2*c.1+0,2*c.2+0),(2*c.1+1,2*c.2+0),(2*c.1+0,2*c.2+1),(2*c.1+1,2*c.2+1)]
theorem vA{l:Cells}(hb:∀c∈l,c.1<64/\c.2<64):eV (iW l)=(qP l).map hP:=by
 induction l with
 |nil=>rfl
 |cons c l ih=>have b:=hb c (by simp);have e:qP (c::l)=[raw (2*c.1) (2*c.2),raw (2*c.1+1) (2*c.2),raw (2*c.1) (2*c.2+1),raw (2*c.1+1) (2*c.2+1)]++qP l:=rfl;have e2:eV (iW (c::l))=[(2*(c.1:Int)+0,2*(c.2:Int)+0),(2*(c.1:Int)+1,2*(c.2:Int)+0),(2*(c.1:Int)+0,2*(c.2:Int)+1),(2*(c.1:Int)+1,2*(c.2:Int)+1)]++eV (iW l):=rfl;rw[e,e2,ih fun x hx=>hb x (by simp[hx]),cj];congr 1;simp only[bp,jd];rw[cY (by omega),cY (by omega),cY (by omega),cY (by omega)];simp
theorem uK{l:Cells}(hl:l.Nodup)(hb:∀c∈l,c.1<64/\c.2<64){ys:List Pl}(hp:ys.Perm (eV (iW l)))(hs:ys.Pairwise g8):ys=(halvesOf l).map hP:=by refine List.Perm.eq_of_pairwise (le:=g8) (fun a b _ _=>sL) hs (zK hl hb) (hp.trans ?_);rw[vA hb];exact(List.mergeSort_perm _ _).symm.map hP
def aR(h:List Nat)(p:Pl):Int:=if p∈h.map hP then gD (h.map hP) 64 p else -1
theorem IU{h:List Nat}(hh:∀r∈h,okR r){X Y:Nat}(hX:X<=129):(((X:Int) - 1,(Y:Int) - 1)∈h.map hP)↔W*Y+X∈h:=by
 constructor
 ·intro q;obtain⟨r,hr,e⟩:=ar.mp q;obtain⟨i,j,hi,hj,rfl⟩:=hh r hr;rw[cY hi]at e;have a:=congrArg Prod.fst e;have b:=congrArg Prod.snd e;simp at a b;have:W*Y+X=raw i j:=by unfold raw W;omega
  rw[this];exact hr
 ·intro q;refine ar.mpr ⟨_,q,?_⟩;obtain⟨i,j,hi,hj,e⟩:=hh _ q;rw[e,cY hi];unfold raw W at e;apply Prod.ext
  ·simp;omega
  ·simp;omega
theorem oP{h:List Nat}(hh:∀r∈h,okR r){X Y:Nat}(hX:X<=129):aR h ((X:Int) - 1,(Y:Int) - 1)=((gridOf h).val (W*Y+X):Int) - 1:=by
 unfold aR;by_cases q:((X:Int) - 1,(Y:Int) - 1)∈h.map hP
 ·rw[ag q];have m:=(IU hh hX).mp q;have o:=hh _ m;have e:hP (W*Y+X)=((X:Int) - 1,(Y:Int) - 1):=by
   obtain⟨i,j,hi,hj,e⟩:=o;rw[e,cY hi];unfold raw W at e;apply Prod.ext
   ·simp;omega
   ·simp;omega
  rw[<- e];exact vX hh (by rw[dE hh,eS hh (ax 64)];rfl) o
 ·rw[af q,IW hh fun m=>q ((IU hh hX).mpr m)];rfl
theorem vZ{h:List Nat}(hh:∀r∈h,okR r){r:Nat}(hr:r∈h):aR h (hP r)=((gridOf h).val r:Int) - 1:=by unfold aR;rw[ag (ar.mpr ⟨r,hr,rfl⟩)];exact vX hh (by rw[dE hh,eS hh (ax 64)];rfl) (hh r hr)
noncomputable def cS(h:List Nat)(p:Pl):List Int:=[aR h (p.1+-1,p.2+-1)+1,aR h (p.1+0,p.2+-1)+1,aR h (p.1+-1,p.2+0)+1,aR h (p.1+0,p.2+0)+1]
theorem CJ{h:List Nat}(hh:∀r∈h,okR r){X Y:Nat}(hX:X<=128):cS h ((X:Int),(Y:Int))=
  [((gridOf h).val (W*Y+X):Int),((gridOf h).val (W*Y+X+1):Int),((gridOf h).val (W*(Y+1)+X):Int),((gridOf h).val (W*(Y+1)+X+1):Int)]:=by
 have a:=oP hh (X:=X) (Y:=Y) (by omega);have b:=oP hh (X:=X+1) (Y:=Y) (by omega);have c:=oP hh (X:=X) (Y:=Y+1) (by omega);have d:=oP hh (X:=X+1) (Y:=Y+1) (by omega);have e1:(((X+1:Nat):Int) - 1)=(X:Int)+0:=by omega
 have e2:(((Y+1:Nat):Int) - 1)=(Y:Int)+0:=by omega
 rw[e1]at b d;rw[e2]at c d;have s1:(X:Int)+-1=(X:Int) - 1:=rfl;have s2:(Y:Int)+-1=(Y:Int) - 1:=rfl;unfold cS;simp only[s1,s2];rw[a,b,c,d];simp[Nat.add_assoc]
theorem BH{a b c d:Nat}{m:Int}(hm:m∈[(a:Int),(b:Int),(c:Int),(d:Int)])(qf:∀x∈[(a:Int),(b:Int),(c:Int),(d:Int)],m<=x):m=((min (min a b) (min c d):Nat):Int):=by have h1:=qf a (by simp);have h2:=qf b (by simp);have h3:=qf c (by simp);have h4:=qf d (by simp);simp at hm;omega
theorem F7{h:List Nat}(hh:∀r∈h,okR r){X Y:Nat}(hX:X<=128){m:Int}(hm:m∈cS h ((X:Int),(Y:Int)))(qf:∀x∈cS h ((X:Int),(Y:Int)),m<=x):m=(heightAt (gridOf h) X Y:Int):=by rw[CJ hh hX]at hm qf;exact BH hm qf
abbrev T3:=Int×Int×Int
def tP(t:Nat):T3:=((iOf (t/4):Int),(jOf (t/4):Int),((t%4:Nat):Int))
theorem cN{h:List Nat}{t:Nat}:t∈trianglesOf h↔t/4∈h:=by
 unfold trianglesOf;rw[bw];constructor
 ·rintro⟨r,hr,q⟩;simp at q;have:t/4=r:=by omega
  rw[this];exact hr
 ·intro q;refine⟨_,q,?_⟩;simp;omega
theorem LY{h:List Nat}(hh:∀r∈h,okR r){t u:Nat}(ht:t∈trianglesOf h)(hu:u∈trianglesOf h)(e:tP t=tP u):t=u:=by have a1:=congrArg (fun z=>z.1) e;have a2:=congrArg (fun z=>z.2.1) e;have a3:=congrArg (fun z=>z.2.2) e;simp[tP]at a1 a2 a3;have:t/4=u/4:=pW (hh _ (cN.mp ht)) (hh _ (cN.mp hu)) (by unfold hP;rw[show iOf (t/4)=iOf (u/4) by omega,show jOf (t/4)=jOf (u/4) by omega]);omega
noncomputable def aB(p:Pl)(c:Nat):Pl:=if c%4=0 then(p.1+0,p.2+0)else if c%4=1 then(p.1+1,p.2+0)else if c%4=2 then(p.1+1,p.2+1)else(p.1+0,p.2+1)
theorem fH(r c:Nat):aB (hP r) c=iP (cornerOf r c):=by
 unfold aB cornerOf hP iP;dsimp only;by_cases h0:c%4=0
 ·simp[h0]
 ·by_cases h1:c%4=1
  ·simp[h0,h1]
  ·by_cases h2:c%4=2
   ·simp[h0,h1,h2]
   ·simp[h0,h1,h2]
theorem FV{r c:Nat}(hr:okR r):(cornerOf r c).1<=128/\(cornerOf r c).2<=128:=by
 obtain⟨i,j,hi,hj,rfl⟩:=hr;unfold cornerOf;rw[xE hi,xC hi];dsimp only;split
 ·simp;omega
 ·split
  ·simp;omega
  ·split
   ·simp;omega
   ·simp;omega
noncomputable def zW(s:Nat)(u v k:Int):Int:=if u=k/\v=k then s else if v=k then((s:Int)+1)%4 else if u=k then((s:Int)+3)%4 else((s:Int)+2)%4
theorem KY{g:Grid}{t:Nat}(hv:0<g.val (t/4)):zW (t%4) (heightOf g (t/4) (t%4):Int) (heightOf g (t/4) (t%4+1):Int) ((g.val (t/4):Int) - 1)=(facingOf g t:Int):=by
 unfold zW facingOf;dsimp only;generalize heightOf g (t/4) (t%4)=u;generalize heightOf g (t/4) (t%4+1)=v;generalize hk:g.val (t/4)=k at*;have ek:(k:Int) - 1=((k - 1:Nat):Int):=by omega
 rw[ek];generalize k - 1=m;have c1:((u:Int)=(m:Int))↔u=m:=by omega
 have c2:((v:Int)=(m:Int))↔v=m:=by omega
 simp only[c1,c2];by_cases h1:u=m<;>by_cases h2:v=m<;>simp[h1,h2]<;>omega
theorem FK(g:Grid)(t:Nat):facingOf g t<4:=by
 unfold facingOf;dsimp only;split
 ·omega
 ·split
  ·omega
  ·split<;>omega
theorem vU{f:Nat->Nat}:∀(l:List Nat)(a:Array Nat),(l.foldl (fun(a:Array Nat)(t:Nat)=>a.setIfInBounds t (f t)) a).size=a.size
 |[],a=>rfl
 |t::l,a=>by rw[List.foldl_cons,vU l];simp
theorem tU{f:Nat->Nat}:∀(l:List Nat)(a:Array Nat)(t d:Nat),(∀x∈l,x<a.size)->(l.foldl (fun(a:Array Nat)(t:Nat)=>a.setIfInBounds t (f t)) a).getD t d=if t∈l then f t else a.getD t d
 |[],a,t,d,_=>by simp
 |x::l,a,t,d,h=>by
  rw[List.foldl_cons,tU l _ t d fun y hy=>by simpa using h y (by simp[hy])];have hx:=h x (by simp);by_cases h1:t∈l
  ·simp[h1]
  ·rw[af h1];by_cases h2:t=x
   ·subst h2;simp[dh,hx]
   ·have h3:¬t∈x::l:=by simp[h1,h2]
    rw[af h3];simp only[dh,ji];rw[af (fun e=>h2 e.symm)]
theorem AU{h:List Nat}(hh:∀r∈h,okR r){t:Nat}(ht:t∈trianglesOf h):t<4*W*W:=by obtain⟨i,j,hi,hj,e⟩:=hh _ (cN.mp ht);unfold raw W at e;unfold W;omega
noncomputable def oI(h:List Nat):Array Nat:=(trianglesOf h).foldl (fun(a:Array Nat)(t:Nat)=>a.setIfInBounds t (facingOf (gridOf h) t)) (Array.replicate (4*W*W) 4)
noncomputable def z7(h:List Nat):Array Nat:=(trianglesOf h).foldl (fun(a:Array Nat)(t:Nat)=>a.setIfInBounds t NONE) (Array.replicate (4*W*W) 0)
theorem vW{h:List Nat}(hh:∀r∈h,okR r)(t:Nat):(oI h).getD t 4=if t∈trianglesOf h then facingOf (gridOf h) t else 4:=by
 unfold oI;rw[tU _ _ _ _ fun x hx=>by simpa using AU hh hx];have:(Array.replicate (4*W*W) 4).getD t 4=4:=by rw[dh,Array.getElem?_replicate];split<;>rfl
 rw[this]
theorem z6{h:List Nat}(hh:∀r∈h,okR r)(t:Nat):(z7 h).getD t 0=if t∈trianglesOf h then NONE else 0:=by
 unfold z7;rw[tU (f:=fun _=>NONE) _ _ _ _ fun x hx=>by simpa using AU hh hx];have:(Array.replicate (4*W*W) 0).getD t 0=0:=by rw[dh,Array.getElem?_replicate];split<;>rfl
 rw[this]
theorem F3(h:List Nat):(z7 h).size=4*W*W:=by unfold z7;rw[vU (f:=fun _=>NONE)];simp
section
variable {α:Type}
inductive Rch (ok:α->Prop) (nb:α->List α) (U:α->Prop) (t0:α):α->Prop where
 |refl:Rch ok nb U t0 t0
 |step {x u:α}:Rch ok nb U t0 x->u∈nb x->ok u->¬U u->Rch ok nb U t0 u
structure gF(ok:α->Prop)(nb:α->List α)(U:α->Prop)(t0:α)(N W:List α):Prop where
 new:∀x∈N,Rch ok nb U t0 x
 wait:∀x∈W,ok x->¬U x->Rch ok nb U t0 x
 start:t0∈N\/t0∈W
 pC:∀x∈N,∀u∈nb x,ok u->¬U u->u∈N\/u∈W
variable {ok:α->Prop}{nb:α->List α}{U:α->Prop}{t0:α}
theorem gF.first:gF ok nb U t0 [] [t0]:=⟨by simp,by intro x hx _ _;simp at hx;subst hx;exact .refl,.inr (by simp),by simp⟩
theorem gF.skip{N W W':List α}{x:α}(h:gF ok nb U t0 N W)(o0:ok t0)(u0:¬U t0)(h1:∀y∈W',y∈W)(h2:∀y∈W,y∈W'\/y=x)(hx:¬ok x\/U x\/x∈N):gF ok nb U t0 N W':=by
 have drop:∀y,ok y->¬U y->(y∈N\/y∈W)->y∈N\/y∈W':=by
  intro y oy uy hy;rcases hy with hy|hy
  ·exact .inl hy
  ·rcases h2 y hy with hy|rfl
   ·exact .inr hy
   ·rcases hx with hx|hx|hx
    ·exact absurd oy hx
    ·exact absurd hx uy
    ·exact .inl hx
 exact⟨h.new,fun y hy=>h.wait y (h1 y hy),drop t0 o0 u0 h.start,fun y hy u hu ou uu=>drop u ou uu (h.pC y hy u hu ou uu)⟩
theorem gF.take{N W W':List α}{x:α}(h:gF ok nb U t0 N W)(hx:x∈W)(ox:ok x)(ux:¬U x)(h1:∀y∈W',y∈W\/y∈nb x)(h2:∀y∈W,y∈W'\/y=x)(h3:∀u∈nb x,ok u->¬U u->u∈W'):gF ok nb U t0 (x::N) W':=by
 have rx:=h.wait x hx ox ux;have Bs:∀y,(y∈N\/y∈W)->y∈x::N\/y∈W':=by
  intro y hy;rcases hy with hy|hy
  ·exact .inl (by simp[hy])
  ·rcases h2 y hy with hy|rfl
   ·exact .inr hy
   ·exact .inl (by simp)
 refine⟨?_,?_,Bs t0 h.start,?_⟩
 ·intro y hy;rcases ak.mp hy with rfl|hy
  ·exact rx
  ·exact h.new y hy
 ·intro y hy oy uy;rcases h1 y hy with q|q
  ·exact h.wait y q oy uy
  ·exact .step rx q oy uy
 ·intro y hy u hu ou uu;rcases ak.mp hy with rfl|hy
  ·exact .inr (h3 u hu ou uu)
  ·exact Bs u (h.pC y hy u hu ou uu)
theorem gF.done{N:List α}(h:gF ok nb U t0 N [])(x:α):x∈N↔Rch ok nb U t0 x:=by
 constructor
 ·exact h.new x
 ·intro r;induction r with
  |refl=>
       rcases h.start with q|q
       ·exact q
       ·simp at q
  |step _ hu ou uu ih=>
              rcases h.pC _ ih _ hu ou uu with q|q
              ·exact q
              ·simp at q
theorem Rch.ok'{x:α}(h:Rch ok nb U t0 x)(o0:ok t0)(u0:¬U t0):ok x/\¬U x:=by
 cases h with
 |refl=>exact⟨o0,u0⟩
 |step _ _ ou uu=>exact⟨ou,uu⟩
end
def okN(fac:Array Nat)(t0:Nat)(u:Nat):Prop:=fac.getD u 4=fac.getD t0 4
def isU(ka:Array Nat)(u:Nat):Prop:=ka.getD u 0≠NONE
theorem kO{fac labU:Array Nat}{n t0:Nat}{ts:List Nat}(hn:n≠NONE)(zd:∀u,¬isU labU u->u∈ts)(hsz:∀u∈ts,u<labU.size)(o0:¬isU labU t0):
  ∀(f:Nat)(stack N:List Nat)(ka:Array Nat),ka.size=labU.size->(∀t,ka.getD t 0=if t∈N then n else labU.getD t 0)->gF (okN fac t0) besideOf (isU labU) t0 N stack->N.Nodup->(∀x∈N,x∈ts/\¬isU labU x)->(∀x∈stack,okN fac t0 x) ->
   stack.length+3*(ts.length - N.length)<=f->∃N':List Nat,(∀t,(fill fac n f stack ka).getD t 0=if t∈N' then n else labU.getD t 0)/\(fill fac n f stack ka).size=labU.size/\∀x,x∈N'↔Rch (okN fac t0) besideOf (isU labU) t0 x
 |0,stack,N,ka,hs,hl,S,nd,hN,ho,hf=>by have:stack=[]:=List.length_eq_zero_iff.mp (by omega);subst this;exact⟨N,hl,hs,S.done⟩
 |f+1,[],N,ka,hs,hl,S,nd,hN,ho,hf=>⟨N,hl,hs,S.done⟩
 |f+1,t::r,N,ka,hs,hl,S,nd,hN,ho,hf=>by
  have eF:fill fac n (f+1) (t::r) ka=if ka.getD t 0≠NONE then fill fac n f r ka else fill fac n f (((besideOf t).filter fun(u:Nat)=>fac.getD u 4==fac.getD t 4)++r) (ka.setIfInBounds t n):=rfl
  rw[eF];by_cases hc:ka.getD t 0≠NONE
  ·rw[ag hc];refine kO hn zd hsz o0 f r N ka hs hl (S.skip (x:=t) rfl o0 (fun y hy=>by simp[hy]) (fun y hy=>by simp at hy;exact hy.symm) ?_) nd hN (fun x hx=>ho x (by simp[hx])) (by simp at hf;omega);rw[hl t]at hc;by_cases hm:t∈N
   ·exact .inr (.inr hm)
   ·rw[af hm]at hc;exact .inr (.inl hc)
  ·rw[af hc];have hc:ka.getD t 0=NONE:=Classical.byContradiction hc;have htN:t∉N:=by intro q;rw[hl t,ag q]at hc;exact hn hc
   have hU:¬isU labU t:=by rw[hl t,af htN]at hc;exact fun q=>q hc
   have zc:t∈ts:=zd t hU;have jz:t<ka.size:=by rw[hs];exact hsz t zc
   have Al:=ho t (by simp);have nd':(t::N).Nodup:=dc.mpr ⟨htN,nd⟩;have Dj:∀x∈t::N,x∈ts/\¬isU labU x:=by
    intro x hx;rcases ak.mp hx with rfl|hx
    ·exact⟨zc,hU⟩
    ·exact hN x hx
   have len:=cO nd' fun x hx=>(Dj x hx).1
   refine kO hn zd hsz o0 f _ (t::N) (ka.setIfInBounds t n) (by simpa using hs) (fun u=>?_) (S.take (x:=t) (by simp) Al hU ?_ ?_ ?_) nd' Dj ?_ ?_
   ·by_cases hu:u=t
    ·subst hu;simp[dh,jz]
    ·have e:(ka.setIfInBounds t n).getD u 0=ka.getD u 0:=by simp only[dh,ji];rw[af (fun e=>hu e.symm)]
     rw[e,hl u];simp[hu]
   ·intro y hy;rcases aw.mp hy with hy|hy
    ·exact .inr (cg.mp hy).1
    ·exact .inl (by simp[hy])
   ·intro y hy;simp at hy;rcases hy with rfl|hy
    ·exact .inr rfl
    ·exact .inl (by simp[hy])
   ·intro u hu ou uu;refine cf _ (cg.mpr ⟨hu,?_⟩);have:fac.getD u 4=fac.getD t 4:=by have h1:fac.getD u 4=fac.getD t0 4:=ou;have h2:fac.getD t 4=fac.getD t0 4:=Al;rw[h1,h2]
    simp[this]
   ·intro x hx;rcases aw.mp hx with hx|hx
    ·have q:=(cg.mp hx).2;have q:fac.getD x 4=fac.getD t 4:=by simpa using q
     have h2:fac.getD t 4=fac.getD t0 4:=Al;show fac.getD x 4=_
     rw[q,h2]
    ·exact ho x (by simp[hx])
   ·have:((besideOf t).filter fun(u:Nat)=>fac.getD u 4==fac.getD t 4).length<=3:=by refine dj (gw _ _) ?_;simp[besideOf]
    simp only[aj,br]at hf len ⊢;omega
theorem FH{fac labU:Array Nat}{n t0:Nat}{ts:List Nat}(hn:n≠NONE)(zd:∀u,¬isU labU u->u∈ts)(hsz:∀u∈ts,u<labU.size)(o0:¬isU labU t0):
  ∃N':List Nat,(∀t,(fill fac n (4*ts.length+4) [t0] labU).getD t 0=if t∈N' then n else labU.getD t 0)/\(fill fac n (4*ts.length+4) [t0] labU).size=labU.size/\∀x,x∈N'↔Rch (okN fac t0) besideOf (isU labU) t0 x:=
 kO hn zd hsz o0 _ [t0] [] labU rfl (fun t=>by simp) gF.first (by simp) (by simp) (by intro x hx;simp at hx;subst hx;rfl) (by simp;omega)
noncomputable def nbP(p:T3):List T3:=[(p.1,p.2.1,(p.2.2+1)%4),(p.1,p.2.1,(p.2.2+3)%4),((aK (p.1,p.2.1) p.2.2.toNat).1,(aK (p.1,p.2.1) p.2.2.toNat).2,(p.2.2+2)%4)]
theorem oS{h:List Nat}(hh:∀r∈h,okR r){r q s:Nat}(hr:okR r)(hq:okR q)(hs:s<4):hP q=aK (hP r) s↔q=beyond r s:=by
 obtain⟨i,j,hi,hj,rfl⟩:=hr;obtain⟨i',j',qp,vd,rfl⟩:=hq;rw[cY hi,cY qp];have cs:s=0\/s=1\/s=2\/s=3:=by omega
 rcases cs with rfl|rfl|rfl|rfl<;>simp[aK,beyond,raw,W,Prod.ext_iff]<;>omega
theorem S0{h:List Nat}(hh:∀r∈h,okR r){t u:Nat}(ht:t∈trianglesOf h)(hu:u∈trianglesOf h):tP u∈nbP (tP t)↔u∈besideOf t:=by
 have Al:=hh _ (cN.mp ht);have oku:=hh _ (cN.mp hu);have hs:t%4<4:=by omega
 have B:=oS hh Al oku hs;have own:∀k:Nat,k<4->(tP u=((tP t).1,(tP t).2.1,(k:Int))↔u=4*(t/4)+k):=by
  intro k hk;constructor
  ·intro e;have a1:=congrArg (fun z=>z.1) e;have a2:=congrArg (fun z=>z.2.1) e;have a3:=congrArg (fun z=>z.2.2) e;simp[tP]at a1 a2 a3;have:u/4=t/4:=pW oku Al (by unfold hP;rw[show iOf (u/4)=iOf (t/4) by omega,show jOf (u/4)=jOf (t/4) by omega]);omega
  ·intro e;have e1:u/4=t/4:=by omega
   have e2:u%4=k:=by omega
   unfold tP;rw[e1,e2]
 have e1:((tP t).2.2+1)%4=(((t%4+1)%4:Nat):Int):=by simp[tP]
 have e3:((tP t).2.2+3)%4=(((t%4+3)%4:Nat):Int):=by simp[tP]
 have e2:((tP t).2.2+2)%4=(((t%4+2)%4:Nat):Int):=by simp[tP]
 have es:(tP t).2.2.toNat=t%4:=by simp only[tP];omega
 have eh:((tP t).1,(tP t).2.1)=hP (t/4):=rfl;unfold nbP besideOf;dsimp only;rw[e1,e3,e2,es,eh];simp only[ak,fo,or_false];rw[own _ (by omega),own _ (by omega)];have across:tP u=((aK (hP (t/4)) (t%4)).1,(aK (hP (t/4)) (t%4)).2,(((t%4+2)%4:Nat):Int))↔u=4*beyond (t/4) (t%4)+(t%4+2)%4:=by
  constructor
  ·intro e;have a1:=congrArg (fun z=>(z.1,z.2.1)) e;have a3:=congrArg (fun z=>z.2.2) e;have:hP (u/4)=aK (hP (t/4)) (t%4):=a1;have q:=B.mp this;simp[tP]at a3;omega
  ·intro e;have q:u/4=beyond (t/4) (t%4):=by omega
   have r:=B.mpr q;have:u%4=(t%4+2)%4:=by omega
   unfold tP;rw[this];have a:=congrArg Prod.fst r;have b:=congrArg Prod.snd r;unfold hP at a b;rw[show(iOf (u/4):Int)=_ from a,show(jOf (u/4):Int)=_ from b];rfl
 rw[across]
structure l9(h:List Nat)(kb:T3->Option Int)(ka:Array Nat):Prop where
 ins:∀t∈trianglesOf h,kb (tP t)=if ka.getD t 0=NONE then none else some (ka.getD t 0:Int)
 out:∀p,p∉ (trianglesOf h).map tP->kb p=none
 lo:∀t,t∉trianglesOf h->ka.getD t 0≠NONE
 size:ka.size=4*W*W
def okT(fac:T3->Option Int)(p0 p:T3):Prop:=fac p=fac p0
def isN(kb:T3->Option Int)(p:T3):Prop:=(kb p).isSome=true
theorem GV{h:List Nat}(hh:∀r∈h,okR r){fac:Array Nat}{kh kb:T3->Option Int}{ka:Array Nat}(hf:∀t∈trianglesOf h,kh (tP t)=some (fac.getD t 4:Int))(zz:∀p,p∉ (trianglesOf h).map tP->kh p=none)
  (R:l9 h kb ka) {t0:Nat} (h0:t0∈trianglesOf h):(∀t∈trianglesOf h,Rch (okT kh (tP t0)) nbP (isN kb) (tP t0) (tP t)↔Rch (okN fac t0) besideOf (isU ka) t0 t)/\∀p,Rch (okT kh (tP t0)) nbP (isN kb) (tP t0) p->p∈(trianglesOf h).map tP:=by
 have key:∀p,Rch (okT kh (tP t0)) nbP (isN kb) (tP t0) p->∃t∈trianglesOf h,p=tP t/\Rch (okN fac t0) besideOf (isU ka) t0 t:=by
  intro p r;induction r with
  |refl=>exact⟨t0,h0,rfl,.refl⟩
  | @step x u _ hu ou uu ih=>
   obtain⟨t,ht,rfl,rt⟩:=ih;have hm:u∈(trianglesOf h).map tP:=by apply Classical.byContradiction;intro q;have h1:=zz u q;have h2:kh u=kh (tP t0):=ou;rw[h1,hf t0 h0]at h2;cases h2
   obtain⟨v,hv,rfl⟩:=ar.mp hm;refine⟨v,hv,rfl,.step rt ((S0 hh ht hv).mp hu) ?_ ?_⟩
   ·have h2:kh (tP v)=kh (tP t0):=ou;rw[hf v hv,hf t0 h0]at h2;have:=Option.some.inj h2;show fac.getD v 4=fac.getD t0 4
    omega
   ·intro q;refine uu ?_;show(kb (tP v)).isSome=true
    rw[R.ins v hv,af q];rfl
 refine⟨fun t ht=>⟨fun r=>?_,fun r=>?_⟩,fun p r=>?_⟩
 ·obtain⟨v,hv,e,rv⟩:=key _ r;rw[LY hh ht hv e];exact rv
 ·have mem:∀x,Rch (okN fac t0) besideOf (isU ka) t0 x->x∈trianglesOf h/\Rch (okT kh (tP t0)) nbP (isN kb) (tP t0) (tP x):=by
   intro x r;induction r with
   |refl=>exact⟨h0,.refl⟩
   | @step x u _ hu ou uu ih=>
    obtain⟨hx,rx⟩:=ih;have qm:u∈trianglesOf h:=by apply Classical.byContradiction;intro q;exact uu (R.lo u q)
    refine⟨qm,.step rx ((S0 hh hx qm).mpr hu) ?_ ?_⟩
    ·show kh (tP u)=kh (tP t0)
     rw[hf u qm,hf t0 h0];have:fac.getD u 4=fac.getD t0 4:=ou;rw[this]
    ·intro q;have q:(kb (tP u)).isSome=true:=q;rw[R.ins u qm]at q;by_cases e:ka.getD u 0=NONE
     ·rw[ag e]at q;cases q
     ·exact uu e
  exact(mem t r).2
 ·obtain⟨v,hv,e,_⟩:=key _ r;rw[e];exact ar.mpr ⟨v,hv,rfl⟩
theorem l9.face{h:List Nat}(hh:∀r∈h,okR r){fac:Array Nat}{kh kb Bo:T3->Option Int}{ka:Array Nat}(hf:∀t∈trianglesOf h,kh (tP t)=some (fac.getD t 4:Int))(zz:∀p,p∉ (trianglesOf h).map tP->kh p=none)
  (R:l9 h kb ka) {t0 n:Nat} (h0:t0∈trianglesOf h) (hn:n<NONE) (hl:ka.getD t0 0=NONE) {N:List T3} (hN:∀p,p∈N↔Rch (okT kh (tP t0)) nbP (isN kb) (tP t0) p) (Cn:∀p,Bo p=if p∈N then some (n:Int)else kb p):
  l9 h Bo (fill fac n (4*(trianglesOf h).length+4) [t0] ka):=by
 obtain⟨S1,S2⟩:=GV hh hf zz R h0;have zd:∀u,¬isU ka u->u∈trianglesOf h:=fun u q=>Classical.byContradiction fun z=>q (R.lo u z)
 obtain⟨N',f1,f2,f3⟩:=FH (fac:=fac) (labU:=ka) (n:=n) (t0:=t0) (ts:=trianglesOf h) (by omega) zd (fun u hu=>by rw[R.size];exact AU hh hu) (fun q=>q hl);refine⟨fun t ht=>?_,fun p hp=>?_,fun t ht=>?_,by rw[f2,R.size]⟩
 ·have e:tP t∈N↔t∈N':=by rw[hN,f3,S1 t ht]
  rw[Cn,f1];by_cases q:t∈N'
  ·rw[ag (e.mpr q),ag q,af (by omega)]
  ·rw[af (fun z=>q (e.mp z)),af q];exact R.ins t ht
 ·rw[Cn,af (fun z=>hp (S2 p ((hN p).mp z)))];exact R.out p hp
 ·rw[f1];split
  ·omega
  ·exact R.lo t ht
theorem l9.start{h:List Nat}(hh:∀r∈h,okR r):l9 h (fun _=>none) (z7 h):=by
 refine⟨fun t ht=>?_,fun _ _=>rfl,fun t ht=>?_,F3 h⟩
 ·rw[z6 hh,ag ht,ag rfl]
 ·rw[z6 hh,af ht];decide
section
variable {κ β:Type} [DecidableEq κ]
noncomputable def aN(l:List (κ×β))(k:κ):Option β:=(l.find? fun x=>decide (x.1=k)).map (·.2)
noncomputable def dN(l:List (κ×β))(k:κ)(v:β):List (κ×β):=
 if(l.any fun x=>decide (x.1=k))=true then l.map (fun x=>if x.1=k then(x.1,v)else x)else l++[(k,v)]
theorem j1{k:κ}:aN ([]:List (κ×β)) k=none:=rfl
theorem cK{x:κ×β}{r:List (κ×β)}{k:κ}:aN (x::r) k=if x.1=k then some x.2 else aN r k:=by
 unfold aN;by_cases e:x.1=k
 ·simp[e]
 ·simp[e]
theorem aV(k:κ):∀l:List (κ×β),(aN l k).isSome=true↔k∈l.map (·.1)
 |[]=>by simp[j1]
 |x::r=>by
  rw[cK,bp,ak];by_cases e:x.1=k
  ·rw[ag e];simp[e]
  ·rw[af e,aV k r];constructor
   ·exact .inr
   ·rintro(h|h)
    ·exact absurd h.symm e
    ·exact h
theorem lZ{l:List (κ×β)}{k:κ}:aN l k=none↔k∉l.map (·.1):=by rw[<- aV];cases aN l k<;>simp
theorem rQ{l:List (κ×β)}{k:κ}:(l.any fun x=>decide (x.1=k))=true↔k∈l.map (·.1):=by simp[fk]
theorem fV{l:List (κ×β)}{k:κ}(v:β)(h:k∉l.map (·.1)):dN l k v=l++[(k,v)]:=by unfold dN;rw[af (fun z=>h (rQ.mp z))]
theorem uR{l:List (κ×β)}{k:κ}(v:β)(h:k∈l.map (·.1)):(dN l k v).map (·.1)=l.map (·.1):=by unfold dN;rw[ag (rQ.mpr h),gb];apply fi;intro x _;simp only[Function.comp];split<;>rfl
theorem wG{l:List (κ×β)}{k:κ}(v:β):(dN l k v).map (·.1)=if k∈l.map (·.1)then l.map (·.1)else l.map (·.1)++[k]:=by
 by_cases h:k∈l.map (·.1)
 ·rw[ag h,uR v h]
 ·rw[af h,fV v h];simp
theorem u7{l:List (κ×β)}{k:κ}{v:β}(h:(l.map (·.1)).Nodup):((dN l k v).map (·.1)).Nodup:=by
 rw[wG];split
 ·exact h
 ·rename_i hk;rw[de];exact⟨h,by simp,fun a ha b hb e=>hk (by simp at hb;rw[<- hb,<- e];exact ha)⟩
theorem AA(k j:κ)(y:β):∀l:List (κ×β),aN (l.map fun x=>if x.1=k then(x.1,y)else x) j=if j=k then(aN l j).map (fun _=>y)else aN l j
 |[]=>by simp[j1]
 |x::r=>by
  rw[bp,cK,cK,AA k j y r];by_cases e:x.1=k
  ·rw[ag e];by_cases e2:x.1=j
   ·rw[ag e2,ag e2,ag (e2▸e:j=k)];rfl
   ·rw[af e2,af e2]
  ·rw[af e];by_cases e2:x.1=j
   ·rw[ag e2,af (show¬j=k by intro z;exact e (e2.trans z)),ag e2]
   ·rw[af e2,af e2]
theorem wH(k j:κ)(y:β):∀l:List (κ×β),k∉l.map (·.1)->aN (l++[(k,y)]) j=if j=k then some y else aN l j
 |[],_=>by
  rw[nil_append,cK];by_cases e:j=k
  ·rw[ag e,ag e.symm]
  ·rw[af e,af (Ne.symm e)]
 |x::r,h=>by
  rw[jl,cK,cK,wH k j y r (fun z=>h (by rw[bp];exact au _ z))];by_cases e2:x.1=j
  ·rw[ag e2,ag e2,af];intro z;exact h (by rw[bp,ak];exact .inl (by rw[e2,z]))
  ·rw[af e2,af e2]
theorem gT(l:List (κ×β))(k j:κ)(y:β):aN (dN l k y) j=if j=k then some y else aN l j:=by
 by_cases h:k∈l.map (·.1)
 ·unfold dN;rw[ag (rQ.mpr h),AA];by_cases e:j=k
  ·subst e;rw[ag rfl,ag rfl];have:=(aV j l).mpr h;cases q:aN l j with
   |none=>rw[q]at this;cases this
   |some z=>rfl
  ·rw[af e,af e]
 ·rw[fV y h,wH k j y l h]
noncomputable def cT(l:List (κ×β))(ps:List (κ×β)):List (κ×β):=ps.foldl (fun a p=>dN a p.1 p.2) l
theorem rD:∀(ps l:List (κ×β)),(l.map (·.1)).Nodup->((cT l ps).map (·.1)).Nodup
 |[],_,h=>h
 |p::r,l,h=>rD r (dN l p.1 p.2) (u7 h)
theorem xV(l a b:List (κ×β)):cT l (a++b)=cT (cT l a) b:=by simp[cT]
theorem kY(l:List (κ×β))(k:κ)(v:β):(dN l k v).length<=l.length+1:=by unfold dN;split<;>simp
theorem gE:∀(ps l:List (κ×β)),(cT l ps).length<=l.length+ps.length
 |[],l=>by simp[cT]
 |p::r,l=>by
  have h1:=gE r (dN l p.1 p.2);have h2:=kY l p.1 p.2;show(cT (dN l p.1 p.2) r).length<=_
  simp only[br];omega
theorem wI:∀(ps l:List (κ×β)),(∀p∈ps,∀q∈ps,p.1=q.1->p.2=q.2)->(∀p∈ps,∀v,aN l p.1=some v->v=p.2)->∀k v,aN (cT l ps) k=some v↔aN l k=some v\/(k,v)∈ps
 |[],l,_,_=>by intro k v;simp[cT]
 |p::r,l,h,h2=>by
  intro k v;have hp:∀q∈r,∀v,aN (dN l p.1 p.2) q.1=some v->v=q.2:=by
   intro q hq v e;rw[gT]at e;by_cases z:q.1=p.1
   ·rw[ag z]at e;cases e;exact h p (by simp) q (by simp[hq]) z.symm
   ·rw[af z]at e;exact h2 q (by simp[hq]) v e
  show aN (cT (dN l p.1 p.2) r) k=some v↔ _
  rw[wI r _ (fun a ha b hb=>h a (by simp[ha]) b (by simp[hb])) hp k v,gT];by_cases z:k=p.1
  ·rw[ag z];constructor
   ·rintro(e|e)
    ·cases e;exact .inr (by rw[z];simp)
    ·exact .inr (by simp[e])
   ·rintro(e|e)
    ·have:=h2 p (by simp) v (z▸e);exact .inl (by rw[this])
    ·rcases ak.mp e with e|e
     ·rw[<- e];exact .inl rfl
     ·exact .inr e
  ·rw[af z];constructor
   ·rintro(e|e)
    ·exact .inl e
    ·exact .inr (by simp[e])
   ·rintro(e|e)
    ·exact .inl e
    ·rcases ak.mp e with e|e
     ·exact absurd (show k=p.1 by rw[<- e]) z
     ·exact .inr e
end
def hdg(d:Nat):Int:=((d:Int)+1)%4
noncomputable def eU(cs:List Pl)(c:Pl):List (Pl×Int):=([0,1,2,3].filter fun(s:Nat)=>!decide (aK c s∈cs)).map fun s=>(aB c s,hdg s)
def fT(cs:List Pl):List (Pl×Int):=cs.flatMap (eU cs)
def cV(cs:List Pl):List (Pl×Int):=cT [] (fT cs)
theorem uJ{l:Cells}{p:Pl}{h:Int}:(p,h)∈fT (iW l)↔∃d,d<4/\aY l p.1 p.2 d=true/\h=hdg d:=by
 unfold fT eU;rw[bw];constructor
 ·rintro⟨c,hc,hm⟩;obtain⟨s,hs,e⟩:=ar.mp hm;rw[cg]at hs;obtain⟨hs,hn⟩:=hs;obtain⟨x,y⟩:=c;have vm:inI l x y=true:=mL.mp hc;have cs:s=0\/s=1\/s=2\/s=3:=by simpa using hs
  have rg:inI l (aK (x,y) s).1 (aK (x,y) s).2=false:=by rw[<- jN];simpa using hn
  cases e;refine⟨s,by omega,?_,rfl⟩;rcases cs with rfl|rfl|rfl|rfl
  ·simp[aY,aB,ne,se,aK]at rg ⊢;exact⟨vm,rg⟩
  ·simp[aY,aB,ne,nw,aK]at rg ⊢;exact⟨vm,rg⟩
  ·simp[aY,aB,sw,nw,aK]at rg ⊢;exact⟨vm,rg⟩
  ·simp[aY,aB,se,sw,aK]at rg ⊢;exact⟨vm,rg⟩
 ·rintro⟨d,hd,w,rfl⟩;obtain⟨X,Y⟩:=p;have cd:d=0\/d=1\/d=2\/d=3:=by omega
  rcases cd with rfl|rfl|rfl|rfl
  ·simp[aY,ne,se]at w;refine⟨(X,Y),mL.mpr w.1,ar.mpr ⟨0,?_,by simp[aB]⟩⟩;rw[cg];refine⟨by simp,?_⟩;show(!decide (((X,Y - 1):Pl)∈iW l))=true
   rw[jN,w.2];rfl
  ·simp[aY,nw,ne]at w;refine⟨(X - 1,Y),mL.mpr w.1,ar.mpr ⟨1,?_,?_⟩⟩
   ·rw[cg];refine⟨by simp,?_⟩;show(!decide (((X - 1+1,Y):Pl)∈iW l))=true
    rw[jN,show X - 1+1=X by omega,w.2];rfl
   ·simp[aB]
  ·simp[aY,sw,nw]at w;refine⟨(X - 1,Y - 1),mL.mpr w.1,ar.mpr ⟨2,?_,?_⟩⟩
   ·rw[cg];refine⟨by simp,?_⟩;show(!decide (((X - 1,Y - 1+1):Pl)∈iW l))=true
    rw[jN,show Y - 1+1=Y by omega,w.2];rfl
   ·simp[aB]
  ·simp[aY,se,sw]at w;refine⟨(X,Y - 1),mL.mpr w.1,ar.mpr ⟨3,?_,?_⟩⟩
   ·rw[cg];refine⟨by simp,?_⟩;show(!decide (((X - 1,Y - 1):Pl)∈iW l))=true
    rw[jN,w.2];rfl
   ·simp[aB]
theorem KL{d e:Nat}(hd:d<4)(he:e<4)(h:hdg d=hdg e):d=e:=by unfold hdg at h;omega
theorem G8{l:Cells}{X Y:Int}{d:Nat}(hd:d<4)(h:aY l X Y d=true):0<=X/\0<=Y:=by
 have cd:d=0\/d=1\/d=2\/d=3:=by omega
 rcases cd with rfl|rfl|rfl|rfl
 ·simp[aY,ne]at h;have:=bS h.1;omega
 ·simp[aY,nw]at h;have:=bS h.1;omega
 ·simp[aY,sw]at h;have:=bS h.1;omega
 ·simp[aY,se]at h;have:=bS h.1;omega
theorem jG{l:Cells}(hp:pinched l=false){p:Pl}{h:Int}:(p,h)∈fT (iW l)↔∃q d,p=iP q/\outOf l q=some d/\h=hdg d:=by
 rw[uJ];constructor
 ·rintro⟨d,hd,w,rfl⟩;obtain⟨X,Y⟩:=p;have:=G8 hd w;refine⟨(X.toNat,Y.toNat),d,?_,gO hp hd ?_,rfl⟩
  ·simp[iP];omega
  ·rw[cX];simp only;rw[show((X.toNat:Nat):Int)=X by omega,show((Y.toNat:Nat):Int)=Y by omega];exact w
 ·rintro⟨q,d,rfl,ho,rfl⟩;obtain⟨hd,w⟩:=b8 ho;rw[cX]at w;exact⟨d,hd,w,rfl⟩
theorem lR{l:Cells}(hp:pinched l=false)(p:Pl)(h:Int):aN (cV (iW l)) p=some h↔∃q d,p=iP q/\outOf l q=some d/\h=hdg d:=by
 unfold cV;rw[wI _ _ ?_ (by intro p _ v e;cases e) p h,jG hp]
 ·simp[j1]
 ·intro a ha b hb e;obtain⟨q,d,e1,o1,e2⟩:=(jG hp).mp ha;obtain⟨q',d',e1',o1',e2'⟩:=(jG hp).mp hb;have:q=q':=fF (by rw[<- e1,<- e1',e]);subst this;rw[o1]at o1';cases o1';rw[e2,e2']
theorem zH(cs:List Pl):((cV cs).map (·.1)).Nodup:=rD _ _ (by simp)
theorem pU{l:Cells}(hp:pinched l=false)(p:Pl):p∈(cV (iW l)).map (·.1)↔∃q d,p=iP q/\outOf l q=some d:=by
 rw[<- aV];constructor
 ·intro h;cases e:aN (cV (iW l)) p with
  |none=>rw[e]at h;cases h
  |some v=>obtain⟨q,d,h1,h2,_⟩:=(lR hp p v).mp e;exact⟨q,d,h1,h2⟩
 ·rintro⟨q,d,h1,h2⟩;rw[(lR hp p (hdg d)).mpr ⟨q,d,h1,h2,rfl⟩];rfl
theorem rG(cs:List Pl):(fT cs).length<=4*cs.length:=by
 unfold fT;have:∀(l:List Pl),(l.flatMap (eU cs)).length<=4*l.length:=by
  intro l;induction l with
  |nil=>simp
  |cons c r ih=>
   rw[dt,aj,br];have:(eU cs c).length<=4:=by unfold eU;rw[ai];exact dj (gw _ _) (by simp)
   omega
 exact this cs
theorem jF(cs:List Pl):(cV cs).length<=4*cs.length:=by have h1:=gE (fT cs) [];have h2:=rG cs;unfold cV;simp at h1;omega
inductive mH (hd:Pl->Option Int):Pl->List (Pl×Int)->Pl->Prop where
 |nil (p:Pl):mH hd p [] p
 |cons {p q:Pl}{h:Int}{r:List (Pl×Int)}:hd p=some h->0<=h->h<4->mH hd (aK p h.toNat) r q->mH hd p ((p,h)::r) q
noncomputable def bP:Option Int->List (Pl×Int)->List Pl
 |_,[]=>[]
 |came,(p,h)::r=>if some h=came then bP (some h) r else p::bP (some h) r
def iF(x:Foot):Pl×Int:=(iP x.1,hdg x.2)
theorem GI{l:Cells}{p:Point}{d:Nat}(h:outOf l p=some d):aK (iP p) (hdg d).toNat=iP (stepped p d):=by
 obtain⟨hd,_⟩:=b8 h;obtain⟨b2,b3⟩:=fD h;have cd:d=0\/d=1\/d=2\/d=3:=by omega
 rcases cd with rfl|rfl|rfl|rfl
 ·simp[aK,hdg,iP,stepped]
 ·simp[aK,hdg,iP,stepped]
 ·simp[aK,hdg,iP,stepped];have:=b2 rfl;omega
 ·simp[aK,hdg,iP,stepped];have:=b3 rfl;omega
theorem G5{l:Cells}(hp:pinched l=false){p q:Point}{f:List Foot}(h:Way l p f q):mH (aN (cV (iW l))) (iP p) (f.map iF) (iP q):=by
 induction h with
 |nil p=>exact .nil _
 | @cons p q d r ho _ ih=>
  rw[bp];refine .cons ((lR hp _ _).mpr ⟨p,d,rfl,ho,rfl⟩) ?_ ?_ ?_
  ·unfold hdg;omega
  ·unfold hdg;omega
  ·rw[GI ho];exact ih
theorem mF:∀(r:List Foot)(d:Nat),d<4->(∀x∈r,x.2<4)->bP (some (hdg d)) (r.map iF)=iW (turns d r)
 |[],d,_,_=>rfl
 |x::r,d,hd,hr=>by
  have hx:=hr x (by simp);rw[bp];show(if some (hdg x.2)=some (hdg d)then bP (some (hdg x.2)) (r.map iF)else iP x.1::bP (some (hdg x.2)) (r.map iF))=iW (if x.2=d then turns x.2 r else x.1::turns x.2 r)
  rw[mF r x.2 hx (fun y hy=>hr y (by simp[hy]))];by_cases e:x.2=d
  ·rw[ag (by rw[e]),ag e]
  ·rw[af (fun z=>e (KL hx hd (Option.some.inj z))),af e];rfl
def cG(l:Cells):List Point:=(pointsOf l).filter fun p=>(outOf l p).isSome
theorem dR(l:Cells):∀(rm seen:List Point),walksFrom l seen rm=walksFrom l seen (rm.filter fun p=>(outOf l p).isSome)
 |[],seen=>rfl
 |p::r,seen=>by
  cases ho:outOf l p with
  |none=>
   rw[List.filter_cons_of_neg (by simp[ho])];have e:walksFrom l seen (p::r)=walksFrom l seen r:=by
    show(if seen.contains p=true then _ else match outOf l p with|none=>_|some d=>_)=_
    rw[ho];split<;>rfl
   rw[e];exact dR l r seen
  |some d=>
   rw[List.filter_cons_of_pos (by simp[ho])];show(if seen.contains p=true then _ else match outOf l p with|none=>_|some d=>_)=(if seen.contains p=true then _ else match outOf l p with|none=>_|some d=>_)
   rw[ho,dR l r seen];dsimp only;rw[dR l r (seen++List.map (fun x=>x.fst) (follow l p (4*List.length l+4) p d))]
theorem d7.starts(l:Cells):d7 l [] (cG l):=by
 have g:=d7.start l;refine⟨g.pC,fun q d h=>?_,?_⟩
 ·rcases g.all q d h with z|z
  ·exact .inl z
  ·exact .inr (cg.mpr ⟨z,by simp[h]⟩)
 ·exact g.row.sublist (List.filter_sublist ..)
theorem A9{a b:Point}(h:before a b=true):CV (iP a) (iP b):=by rw[d3]at h;unfold CV iP;simp only;omega
theorem yG{a b:Pl}(h:CV a b):g8 a b:=by unfold CV at h;unfold g8;omega
theorem yL{xs ys:List Pl}(hp:xs.Perm ys)(h1:xs.Pairwise g8)(h2:ys.Pairwise g8):xs=ys:=
 hp.eq_of_pairwise (fun _ _ _ _ a b=>sL a b) h1 h2
theorem uE{l:Cells}(hp:pinched l=false){ys:List Pl}(h:ys.Perm ((cV (iW l)).map (·.1)))(hs:ys.Pairwise g8):ys=iW (cG l):=by
 have hr:(iW (cG l)).Pairwise g8:=by unfold iW;rw[jg];exact(d7.starts l).row.imp fun h=>yG (A9 h)
 refine yL (h.trans ?_) hs hr;refine(List.perm_ext_iff_of_nodup (zH _) ?_).mpr fun p=>?_
 ·unfold iW;exact dY (wO (d7.starts l).row) fun x _ y _ e=>fF e
 ·rw[pU hp];constructor
  ·rintro⟨q,d,rfl,ho⟩;exact gP.mpr (cg.mpr ⟨gL ho,by simp[ho]⟩)
  ·intro hm;obtain⟨q,hq,rfl⟩:=ar.mp hm;have:=(cg.mp hq).2;cases e:outOf l q with
   |none=>rw[e]at this;cases this
   |some d=>exact⟨q,d,rfl,e⟩
theorem GA{l:Cells}(hp:pinched l=false){seen r:List Point}{p:Point}{d:Nat}(g:d7 l seen (p::r))(hs:p∉seen)(ho:outOf l p=some d):
  ∃f:List Foot,mH (aN (cV (iW l))) (iP p) (f.map iF) (iP p)/\f≠[]/\((f.map iF).map (·.1)).Nodup/\(∀y∈f.map (·.1),y∉seen)/\d7 l (seen++f.map (·.1)) r/\
   walksFrom l seen (p::r)=cornersOf f::walksFrom l (seen++f.map (·.1)) r/\iW (cornersOf f)=bP none (f.map iF):=by
 obtain⟨R,fr,⟨r',er,ec⟩,ew,g2⟩:=g.step hp hs ho rfl;refine⟨_,G5 hp R.way,R.ne,?_,fr,g2,?_,?_⟩
 ·have e:((follow l p (4*l.length+4) p d).map iF).map (·.1)=iW ((follow l p (4*l.length+4) p d).map (·.1)):=by simp[iW,iF,Function.comp_def]
  rw[e];exact dY R.nd fun x _ y _ e=>fF e
 ·show(if seen.contains p=true then _ else match outOf l p with|none=>_|some d=>_)=_
  rw[af (by simpa using hs),ho]
 ·rw[ec,er,bp];show iP p::iW (turns d r')=(if some (hdg d)=none then _ else iP p::bP (some (hdg d)) (r'.map iF))
  rw[af (by simp),mF r' d (b8 ho).1];intro x hx;have:=R.way.out x (by rw[er];simp[hx]);exact(b8 this).1
noncomputable def aF:Nat->List (List T3)->List (T3×Int)
 |_,[]=>[]
 |k,N::r=>N.map (fun p=>(p,(k:Int)))++aF (k+1) r
theorem jR:∀(a b:List (List T3))(k:Nat),aF k (a++b)=aF k a++aF (k+a.length) b
 |[],b,k=>by simp[aF]
 |N::a,b,k=>by
  rw[jl];show N.map (fun p=>(p,(k:Int)))++aF (k+1) (a++b)=(N.map (fun p=>(p,(k:Int)))++aF (k+1) a)++aF (k+(a.length+1)) b
  rw[jR a b (k+1),dv,show k+1+a.length=k+(a.length+1) by omega]
theorem bE:∀(Ns:List (List T3))(k:Nat),(aF k Ns).map (·.1)=Ns.flatten
 |[],k=>rfl
 |N::r,k=>by
  show(N.map (fun p=>(p,(k:Int)))++aF (k+1) r).map (·.1)=N++r.flatten
  rw[cj,bE r (k+1),gb];congr 1;simp[Function.comp_def]
theorem kZ{κ β:Type}[DecidableEq κ](k:κ)(b:List (κ×β)):∀a:List (κ×β),aN (a++b) k=if k∈a.map (·.1)then aN a k else aN b k
 |[]=>by simp
 |x::a=>by
  rw[jl,cK,cK,kZ k b a,bp];by_cases e:x.1=k
  ·rw[ag e,ag e,ag (by rw[ak];exact .inl e.symm)]
  ·rw[af e,af e];by_cases h:k∈a.map (·.1)
   ·rw[ag h,ag (au _ h)]
   ·rw[af h,af (by rw[ak];rintro(z|z);exact e z.symm;exact h z)]
theorem qE{κ β:Type}[DecidableEq κ](v:β)(k:κ):∀N:List κ,aN (N.map fun p=>(p,v)) k=if k∈N then some v else none
 |[]=>by simp[j1]
 |x::N=>by
  rw[bp,cK,qE v k N];by_cases e:x=k
  ·rw[ag e,ag (by simp[e])]
  ·rw[af e];by_cases h:k∈N
   ·rw[ag h,ag (au _ h)]
   ·rw[af h,af (by rw[ak];rintro(z|z);exact e z.symm;exact h z)]
theorem iT(Ns:List (List T3))(N:List T3):aF 0 (Ns++[N])=aF 0 Ns++N.map (fun p=>(p,(Ns.length:Int))):=by rw[jR];simp[aF]
theorem nL{Ns:List (List T3)}{N:List T3}(hd:∀p∈N,p∉Ns.flatten)(p:T3):aN (aF 0 (Ns++[N])) p=if p∈N then some (Ns.length:Int)else aN (aF 0 Ns) p:=by
 rw[iT,kZ,qE,bE];by_cases h:p∈Ns.flatten
 ·rw[ag h,af (fun z=>hd p z h)]
 ·rw[af h];split
  ·rfl
  ·exact(lZ.mpr (by rw[bE];exact h)).symm
theorem D5:∀(Ns:List (List T3))(j:Nat)(p:T3)(k:Int),Ns.flatten.Nodup->(aN (aF j Ns) p=some k↔∃i N,Ns[i]? =some N/\p∈N/\k=((j+i:Nat):Int))
 |[],j,p,k,_=>by simp[aF,j1]
 |N::r,j,p,k,hn=>by
  rw[jh,de]at hn;show aN (N.map (fun p=>(p,(j:Int)))++aF (j+1) r) p=some k↔ _
  rw[kZ,qE];have e:(N.map fun p=>(p,(j:Int))).map (·.1)=N:=by simp[Function.comp_def]
  rw[e];by_cases h:p∈N
  ·rw[ag h,ag h];constructor
   ·intro q;cases q;exact⟨0,N,rfl,h,by simp⟩
   ·rintro⟨i,M,hi,hm,rfl⟩;cases i with
    |zero=>cases hi;simp
    |succ i=>exfalso;rw[gz]at hi;exact hn.2.2 p h p (mem_flatten.mpr ⟨M,az hi,hm⟩) rfl
  ·rw[af h,D5 r (j+1) p k hn.2.1];constructor
   ·rintro⟨i,M,hi,hm,rfl⟩;exact⟨i+1,M,by rw[gz];exact hi,hm,by congr 1;omega⟩
   ·rintro⟨i,M,hi,hm,rfl⟩;cases i with
    |zero=>cases hi;exact absurd hm h
    |succ i=>rw[gz]at hi;exact⟨i,M,hi,hm,by congr 1;omega⟩
structure l8(h:List Nat)(Ns:List (List T3))(ka:Array Nat):Prop where
 rel:l9 h (aN (aF 0 Ns)) ka
 nd:Ns.flatten.Nodup
 ne:∀N∈Ns,N≠[]
theorem l8.sub{h:List Nat}{Ns:List (List T3)}{ka:Array Nat}(R:l8 h Ns ka):∀p∈Ns.flatten,p∈(trianglesOf h).map tP:=by intro p hp;apply Classical.byContradiction;intro q;have:=R.rel.out p q;rw[lZ,bE]at this;exact this hp
theorem kN{α:Type}:∀{Ns:List (List α)},(∀N∈Ns,N≠[])->Ns.length<=Ns.flatten.length
 |[],_=>by simp
 |N::r,h=>by
  have h1:=kN (Ns:=r) fun M hM=>h M (by simp[hM])
  have h2:0<N.length:=gm.mpr (h N (by simp));simp only[br,jh,aj];omega
theorem l8.few{h:List Nat}{Ns:List (List T3)}{ka:Array Nat}(R:l8 h Ns ka):Ns.length<=(trianglesOf h).length:=by have h1:=kN R.ne;have h2:=cO R.nd R.sub;rw[ai]at h2;omega
theorem l8.start{h:List Nat}(hh:∀r∈h,okR r):l8 h [] (z7 h):=⟨l9.start hh,by simp,by simp⟩
theorem l8.face{h:List Nat}(hh:∀r∈h,okR r){fac:Array Nat}{kh:T3->Option Int}{ka:Array Nat}{Ns:List (List T3)}(hf:∀t∈trianglesOf h,kh (tP t)=some (fac.getD t 4:Int))(zz:∀p,p∉ (trianglesOf h).map tP->kh p=none)
  (kc:(trianglesOf h).length<NONE) (R:l8 h Ns ka) {t0:Nat} (h0:t0∈trianglesOf h) (hl:aN (aF 0 Ns) (tP t0)=none) {N:List T3} (hN:∀p,p∈N↔Rch (okT kh (tP t0)) nbP (isN (aN (aF 0 Ns))) (tP t0) p) (qy:N.Nodup):
  ka.getD t0 0=NONE/\l8 h (Ns++[N]) (fill fac Ns.length (4*(trianglesOf h).length+4) [t0] ka):=by
 have hl':ka.getD t0 0=NONE:=by have:=R.rel.ins t0 h0;rw[hl]at this;apply Classical.byContradiction;intro q;rw[af q]at this;cases this
 have u0:¬isN (aN (aF 0 Ns)) (tP t0):=by intro q;have q:(aN (aF 0 Ns) (tP t0)).isSome=true:=q;rw[hl]at q;cases q
 have hd:∀p∈N,p∉Ns.flatten:=by
  intro p hp hm;have:=(((hN p).mp hp).ok' rfl u0).2;refine this ?_;show(aN (aF 0 Ns) p).isSome=true
  rw[aV,bE];exact hm
 refine⟨hl',?_,?_,?_⟩
 ·exact R.rel.face hh hf zz h0 (gh R.few kc) hl' hN (nL hd)
 ·rw[gp,de];refine⟨R.nd,by simpa using qy,?_⟩;intro a ha b hb e;have uk:b∈N:=by simpa using hb
  exact hd b uk (e▸ha)
 ·intro M hM;rcases aw.mp hM with hM|hM
  ·exact R.ne M hM
  ·have:M=N:=by simpa using hM
   subst this;intro e;have:tP t0∈M:=(hN _).mpr .refl;rw[e]at this;cases this
structure Numbering(h:List Nat)(i:Nat)(Ns:List (List T3)):Prop where
 ex:∃(ka:Array Nat)(kx:List Nat),l8 h Ns ka/\kx.length=Ns.length/\
  facesFrom (oI h) (4*(trianglesOf h).length+4) (trianglesOf h) 0 [] (z7 h)=facesFrom (oI h) (4*(trianglesOf h).length+4) ((trianglesOf h).drop i) Ns.length kx ka
 done:(∀t∈(trianglesOf h).take i,(aN (aF 0 Ns) (tP t)).isSome=true)/\(∀j,j<Ns.length->∃n t,n<i/\(trianglesOf h)[n]? =some t/\aN (aF 0 Ns) (tP t)=some (j:Int))/\
  ∀(n t k:Nat),n<i->(trianglesOf h)[n]? =some t->aN (aF 0 Ns) (tP t)=some (k:Int)->∀j,j<k->∃m u,m<n/\(trianglesOf h)[m]? =some u/\aN (aF 0 Ns) (tP u)=some (j:Int)
theorem Numbering.start{h:List Nat}(hh:∀r∈h,okR r):Numbering h 0 []:=⟨⟨z7 h,[],l8.start hh,rfl,rfl⟩,by simp,fun j hj=>by simp at hj,fun n t k hn=>by omega⟩
theorem drop_cons{α:Type}{l:List α}{i:Nat}{t:α}(h:l[i]? =some t):l.drop i=t::l.drop (i+1):=by obtain⟨hi,e⟩:=ao.mp h;rw[List.drop_eq_getElem_cons hi,e]
theorem take_snoc{α:Type}{l:List α}{i:Nat}{t:α}(h:l[i]? =some t):l.take (i+1)=l.take i++[t]:=by rw[List.take_add_one,h];rfl
theorem Numbering.skip{h:List Nat}{i:Nat}{Ns:List (List T3)}(R:Numbering h i Ns){t:Nat}(ht:(trianglesOf h)[i]? =some t)(hs:(aN (aF 0 Ns) (tP t)).isSome=true):Numbering h (i+1) Ns:=by
 obtain⟨⟨ka,kx,O,hl,e⟩,dn⟩:=R;have hm:t∈trianglesOf h:=az ht;have q:ka.getD t 0≠NONE:=by intro q;have:=O.rel.ins t hm;rw[ag q]at this;rw[this]at hs;cases hs
 refine⟨⟨ka,kx,O,hl,?_⟩,fun u hu=>?_,fun j hj=>?_,fun n u k hn hu hk j hj=>?_⟩
 ·rw[e,drop_cons ht];show(if ka.getD t 0≠NONE then _ else _)=_
  rw[ag q]
 ·rw[take_snoc ht]at hu;rcases aw.mp hu with hu|hu
  ·exact dn.1 u hu
  ·have:u=t:=by simpa using hu
   subst this;exact hs
 ·obtain⟨n,u,a1,a2⟩:=dn.2.1 j hj;exact⟨n,u,by omega,a2⟩
 ·by_cases c:n<i
  ·exact dn.2.2 n u k c hu hk j hj
  ·have:n=i:=by omega
   subst this;obtain⟨m,N,b1,_,b3⟩:=(D5 Ns 0 _ _ O.nd).mp hk;have:=(ao.mp b1).1;exact dn.2.1 j (by omega)
theorem Numbering.face{h:List Nat}(hh:∀r∈h,okR r){kh:T3->Option Int}(hf:∀t∈trianglesOf h,kh (tP t)=some ((oI h).getD t 4:Int))(zz:∀p,p∉ (trianglesOf h).map tP->kh p=none)
  (kc:(trianglesOf h).length<NONE) {i:Nat}{Ns:List (List T3)} (R:Numbering h i Ns) {t:Nat} (ht:(trianglesOf h)[i]? =some t) (hl:aN (aF 0 Ns) (tP t)=none)
  {N:List T3} (hN:∀p,p∈N↔Rch (okT kh (tP t)) nbP (isN (aN (aF 0 Ns))) (tP t) p) (qy:N.Nodup):Numbering h (i+1) (Ns++[N]):=by
 obtain⟨⟨ka,kx,O,Au,e⟩,dn⟩:=R;have hm:t∈trianglesOf h:=az ht;obtain⟨q,O2⟩:=O.face hh hf zz kc hm hl hN qy;have grow:∀p,(aN (aF 0 Ns) p).isSome=true->(aN (aF 0 (Ns++[N])) p).isSome=true:=by intro p hp;rw[aV,bE]at hp ⊢;rw[gp];exact cf _ hp
 have hd:∀p∈N,p∉Ns.flatten:=fun p hp hm=>by have z:=O2.nd;rw[gp,de]at z;exact z.2.2 p hm p (by simpa using hp) rfl
 have old:∀p (k:Nat),aN (aF 0 Ns) p=some (k:Int)->aN (aF 0 (Ns++[N])) p=some (k:Int):=fun p k hk=>by
  rw[nL hd,af]
  ·exact hk
  ·intro hp;refine hd p hp ?_;rw[<- bE Ns 0,<- aV,hk];rfl
 have htN:tP t∈N:=(hN _).mpr .refl;have new:aN (aF 0 (Ns++[N])) (tP t)=some (Ns.length:Int):=by rw[nL hd,ag htN]
 refine⟨⟨_,t::kx,O2,by simp[Au],?_⟩,fun u hu=>?_,fun j hj=>?_,fun n u k hn hu hk j hj=>?_⟩
 rotate_left 2
 ·by_cases c:j<Ns.length
  ·obtain⟨n,u,a1,a2,a3⟩:=dn.2.1 j c;exact⟨n,u,by omega,a2,old _ _ a3⟩
  ·have:j=Ns.length:=by simp at hj;omega
   subst this;exact⟨i,t,by omega,ht,new⟩
 ·by_cases c:n<i
  ·have hs:=dn.1 u (az (l:=(trianglesOf h).take i) (i:=n) (by rw[fy c];exact hu));have vc:aN (aF 0 Ns) (tP u)=some (k:Int):=by
    rw[nL hd,af]at hk
    ·exact hk
    ·intro hp;refine hd _ hp ?_;rw[<- bE Ns 0,<- aV];exact hs
   obtain⟨m,v,a1,a2,a3⟩:=dn.2.2 n u k c hu vc j hj;exact⟨m,v,a1,a2,old _ _ a3⟩
  ·have:n=i:=by omega
   subst this;rw[ht]at hu;cases hu;rw[new]at hk;have:(Ns.length:Int)=(k:Int):=Option.some.inj hk;obtain⟨m,v,a1,a2,a3⟩:=dn.2.1 j (by omega);exact⟨m,v,a1,a2,old _ _ a3⟩
 ·rw[e,drop_cons ht];show(if ka.getD t 0≠NONE then _ else facesFrom _ _ _ (Ns.length+1) (t::kx) (fill _ _ _ [t] ka))=_
  rw[af (by simpa using q),aj];rfl
 ·rw[take_snoc ht]at hu;rcases aw.mp hu with hu|hu
  ·exact grow _ (dn.1 u hu)
  ·have:u=t:=by simpa using hu
   subst this;rw[aV,bE,gp];refine bf _ ?_;have:tP u∈N:=(hN _).mpr .refl;simpa using this
theorem rK{i j s:Nat}(hs:s<4):RoofB.tri i j s/4=raw i j:=by unfold RoofB.tri;omega
theorem JK{i j s:Nat}(hs:s<4):RoofB.tri i j s%4=s:=by unfold RoofB.tri;omega
theorem LX{i j s:Nat}(hi:i<128)(hs:s<4):tP (RoofB.tri i j s)=((i:Int),(j:Int),(s:Int)):=by unfold tP;rw[rK hs,JK hs,xE hi,xC hi]
theorem AV{l:Cells}(hb:∀c∈l,c.1<64/\c.2<64){i j s:Nat}(hi:i<128)(hj:j<128)(hs:s<4):(topOf l).in_ (RoofB.tri i j s)=true↔((i:Int),(j:Int))∈(halvesOf l).map hP:=by
 have hh:=aO hb;have e:(topOf l).in_ (RoofB.tri i j s)=decide (0<(gridOf (halvesOf l)).val (RoofB.tri i j s/4)):=rfl;rw[e,rK hs,decide_eq_true_iff,lS hh];constructor
 ·intro h;exact ar.mpr ⟨raw i j,h,cY hi⟩
 ·intro h;obtain⟨r,hr,e⟩:=ar.mp h;have:r=raw i j:=pW (hh r hr) ⟨i,j,hi,hj,rfl⟩ (by rw[e,cY hi]);exact this▸hr
theorem yB{l:Cells}(hb:∀c∈l,c.1<64/\c.2<64){i j s:Nat}(hi:i<128)(hj:j<128)(hs:s<4)(h:((i:Int),(j:Int))∈(halvesOf l).map hP):RoofB.tri i j s∈(topOf l).tris:=by
 show RoofB.tri i j s∈trianglesOf (halvesOf l)
 rw[cN,rK hs];exact(lS (aO hb)).mp (by
  have:=(AV hb hi hj hs).mpr h;have e:(topOf l).in_ (RoofB.tri i j s)=decide (0<(gridOf (halvesOf l)).val (RoofB.tri i j s/4)):=rfl;rw[e,rK hs,decide_eq_true_iff]at this;exact this)
noncomputable def fN(hs:List Pl):List T3:=hs.flatMap fun p=>[(p.1,p.2,0),(p.1,p.2,1),(p.1,p.2,2),(p.1,p.2,3)]
theorem n4(h:List Nat):fN (h.map hP)=(trianglesOf h).map tP:=by
 unfold fN trianglesOf;induction h with
 |nil=>rfl
 |cons r h ih=>
  rw[bp,dt,dt,cj,ih];congr 1;have e0:tP (4*r)=((hP r).1,(hP r).2,0):=by unfold tP hP;rw[show 4*r/4=r by omega,show 4*r%4=0 by omega];rfl
  have e1:tP (4*r+1)=((hP r).1,(hP r).2,1):=by unfold tP hP;rw[show(4*r+1)/4=r by omega,show(4*r+1)%4=1 by omega];rfl
  have e2:tP (4*r+2)=((hP r).1,(hP r).2,2):=by unfold tP hP;rw[show(4*r+2)/4=r by omega,show(4*r+2)%4=2 by omega];rfl
  have e3:tP (4*r+3)=((hP r).1,(hP r).2,3):=by unfold tP hP;rw[show(4*r+3)/4=r by omega,show(4*r+3)%4=3 by omega];rfl
  simp[e0,e1,e2,e3]
theorem mZ(hs:List Pl):(fN hs).length=4*hs.length:=by
 unfold fN;induction hs with
 |nil=>rfl
 |cons p r ih=>rw[dt,aj,ih];simp only[br,fh];omega
theorem mD(l:Cells):(halvesOf l).length=4*l.length:=by
 unfold halvesOf;rw[List.length_mergeSort];induction l with
 |nil=>rfl
 |cons p r ih=>rw[dt,aj,ih];simp only[br,fh];omega
section
variable {κ β:Type} [DecidableEq κ]
theorem fQ(f:κ->β)(l:List κ):(l.map fun p=>(p,f p)).map (·.1)=l:=by rw[gb];simp[Function.comp_def]
theorem j2(f:κ->β)(k:κ):∀l:List κ,aN (l.map fun p=>(p,f p)) k=if k∈l then some (f k)else none
 |[]=>by simp[j1]
 |x::N=>by
  rw[bp,cK,j2 f k N];by_cases e:x=k
  ·rw[ag e,ag (by simp[e]),e]
  ·rw[af e];by_cases h:k∈N
   ·rw[ag h,ag (au _ h)]
   ·rw[af h,af (by rw[ak];rintro(z|z);exact e z.symm;exact h z)]
theorem JC(f:κ->β){l:List κ}{k:κ}(v:β)(h:k∈l):dN (l.map fun p=>(p,f p)) k v=l.map fun p=>(p,if p=k then v else f p):=by unfold dN;rw[ag (rQ.mpr (by rw[fQ];exact h)),gb];apply fi;intro x _;simp only[Function.comp];split<;>rfl
theorem wF:∀(L:List κ)(f:κ->β){l:List κ}(v:β),(∀p∈L,p∈l)->cT (l.map fun p=>(p,f p)) (L.map fun p=>(p,v))=l.map fun p=>(p,if p∈L then v else f p)
 |[],f,l,v,_=>by simp[cT]
 |k::L,f,l,v,h=>by
  rw[bp];show cT (dN (l.map fun p=>(p,f p)) k v) (L.map fun p=>(p,v))=_
  rw[JC f v (h k (by simp)),wF L (fun p=>if p=k then v else f p) v (fun p hp=>h p (by simp[hp]))];apply fi;intro x _;by_cases h1:x∈L
  ·simp[h1]
  ·by_cases h2:x=k
   ·simp[h1,h2]
   ·simp[h1,h2]
theorem qD:∀(ps l:List (κ×β)),(ps.map (·.1)).Nodup->(∀k∈ps.map (·.1),k∉l.map (·.1))->cT l ps=l++ps
 |[],l,_,_=>by simp[cT]
 |p::r,l,h,h2=>by
  rw[bp,dc]at h;show cT (dN l p.1 p.2) r=_
  rw[fV p.2 (h2 p.1 (by simp)),qD r _ h.2,dv]
  ·rfl
  ·intro k hk hm;rw[cj,aw]at hm;rcases hm with hm|hm
   ·exact h2 k (by rw[bp];exact au _ hk) hm
   ·have:k=p.1:=by simpa using hm
    exact h.1 (this▸hk)
end
theorem FP{hs:List Pl}{p:Pl}(h:p∈hs):gD hs 1 p=0:=by
 show(if p∈aP hs 0 then((0:Nat):Int)else gD hs 0 p)=0
 rw[ag (show p∈aP hs 0 from h)];rfl
theorem mO(hs:List Pl):∀k,∀p∈aP hs k,p∈hs
 |0,_,h=>h
 |k+1,p,h=>mO hs k p (cg.mp h).1
noncomputable def iH(hs:List Pl)(k:Nat):List (Pl×Int):=if k=0 then[]else hs.map fun p=>(p,gD hs k p)
theorem A4{hs:List Pl}(hn:hs.Nodup)(k:Nat):cT (iH hs k) ((aP hs k).map fun p=>(p,(k:Int)))=iH hs (k+1):=by
 cases k with
 |zero=>
  show cT [] (hs.map fun p=>(p,((0:Nat):Int)))=hs.map fun p=>(p,gD hs 1 p)
  rw[qD]
  ·rw[nil_append];apply fi;intro p hp;rw[FP hp];rfl
  ·rw[fQ (fun _=>((0:Nat):Int))];exact hn
  ·simp
 |succ k=>
  show cT (hs.map fun p=>(p,gD hs (k+1) p)) _=hs.map fun p=>(p,gD hs (k+2) p)
  rw[wF (aP hs (k+1)) (fun p=>gD hs (k+1) p) ((k+1:Nat):Int) (mO hs _)];apply fi;intro p _;show _=(p,if p∈aP hs (k+1)then((k+1:Nat):Int)else gD hs (k+1) p)
  by_cases q:p∈aP hs (k+1)
  ·rw[ag q,ag q]
  ·rw[af q,af q]
theorem vY{hs:List Pl}{k:Nat}(e:aP hs k=[])(p:Pl):∀m,k<=m->gD hs m p=gD hs k p:=by
 have n9:∀m,k<=m->aP hs m=[]:=by
  intro m hm;induction m with
  |zero=>
       have:k=0:=by omega
       rw[<- this];exact e
  |succ m ih=>
   by_cases h:k<=m
   ·show(aP hs m).filter _=[]
    rw[ih h];rfl
   ·have:k=m+1:=by omega
    rw[<- this];exact e
 intro m hm;induction m with
 |zero=>
      have:k=0:=by omega
      rw[this]
 |succ m ih=>
  by_cases h:k<=m
  ·show(if p∈aP hs m then(m:Int)else gD hs m p)=_
   rw[n9 m h,af (by simp),ih h]
  ·have:k=m+1:=by omega
   rw[this]
def bT(h:List Nat):List (Pl×Int):=(h.map hP).map fun p=>(p,aR h p)
theorem CC{h:List Nat}(hh:∀r∈h,okR r){k:Nat}(hk:0<k)(e:aP (h.map hP) k=[]):iH (h.map hP) k=bT h:=by
 unfold iH bT;rw[af (by omega)];apply fi;intro p hp;unfold aR;rw[ag hp];have Bc:aP (h.map hP) 64=[]:=by rw[dE hh,eS hh (ax 64)];rfl
 by_cases c:k<=64
 ·rw[vY e p 64 c]
 ·rw[vY Bc p k (by omega)]
theorem J7(h:List Nat)(p:Pl):(aN (bT h) p).getD (-1)=aR h p:=by
 unfold bT;rw[j2];by_cases q:p∈h.map hP
 ·rw[ag q];rfl
 ·rw[af q];unfold aR;rw[af q];rfl
def hgt(h:List Nat)(p:Pl):Int:=(heightAt (gridOf h) p.1.toNat p.2.toNat:Int)
theorem pT(h:List Nat)(c:Point):hgt h (iP c)=(heightAt (gridOf h) c.1 c.2:Int):=by unfold hgt iP;simp
theorem DI{h:List Nat}(hh:∀r∈h,okR r){r c:Nat}(hr:r∈h){m:Int}(hm:m∈cS h (aB (hP r) c))(qf:∀x∈cS h (aB (hP r) c),m<=x):m=hgt h (aB (hP r) c):=by rw[fH]at hm qf ⊢;rw[pT];exact F7 hh (FV (hh r hr)).1 hm qf
noncomputable def e9(h:List Nat)(t:T3):Int:=zW t.2.2.toNat (hgt h (aB (t.1,t.2.1) t.2.2.toNat)) (hgt h (aB (t.1,t.2.1) (t.2.2.toNat+1))) (aR h (t.1,t.2.1))
theorem rP{h:List Nat}(hh:∀r∈h,okR r){t:Nat}(ht:t∈trianglesOf h):e9 h (tP t)=((oI h).getD t 4:Int):=by
 have hr:=cN.mp ht;rw[vW hh,ag ht,<- KY ((lS hh).mpr hr)];unfold e9;have e1:((tP t).1,(tP t).2.1)=hP (t/4):=rfl;have e2:(tP t).2.2.toNat=t%4:=by unfold tP;dsimp only;omega
 rw[e1,e2,vZ hh hr,fH,fH,pT,pT];rfl
def d5(h:List Nat):List (T3×Int):=(fN (h.map hP)).map fun t=>(t,e9 h t)
theorem DM{h:List Nat}(hh:∀r∈h,okR r):∀t∈trianglesOf h,aN (d5 h) (tP t)=some ((oI h).getD t 4:Int):=by intro t ht;unfold d5;rw[j2,n4,ag (ar.mpr ⟨t,ht,rfl⟩),rP hh ht]
theorem zU(h:List Nat):∀p,p∉ (trianglesOf h).map tP->aN (d5 h) p=none:=by intro p hp;unfold d5;rw[j2,n4,af hp]
theorem KW{h:List Nat}(hh:∀r∈h,okR r){t:Nat}(ht:t∈trianglesOf h):0<=e9 h (tP t)/\e9 h (tP t)<4:=by rw[rP hh ht,vW hh,ag ht];have:=FK (gridOf h) t;omega
noncomputable def partsFrom(m:Int)(cur:List Int):List Int->List (List Int)
 |[]=>[cur]
 |v::r=>if v=m then cur::partsFrom m [] r else partsFrom m (cur++[v]) r
theorem fW(m:Int):∀(t cur:List Int),∃p ps,parts m t=p::ps/\partsFrom m cur t=(cur++p)::ps
 |[],cur=>⟨[],[],rfl,by simp[partsFrom]⟩
 |v::r,cur=>by
  by_cases e:v=m
  ·obtain⟨p,ps,h1,h2⟩:=fW m r [];refine⟨[],parts m r,?_,?_⟩
   ·simp[parts,e]
   ·simp only[partsFrom,ag e];rw[h2,h1];simp
  ·obtain⟨p,ps,h1,h2⟩:=fW m r (cur++[v]);refine⟨v::p,ps,?_,?_⟩
   ·simp[parts,e,h1]
   ·simp only[partsFrom,af e];rw[h2];simp
theorem iC(m:Int)(t:List Int):partsFrom m [] t=parts m t:=by obtain⟨p,ps,h1,h2⟩:=fW m t [];rw[h2,h1];simp
theorem iD{m v:Int}{cur r:List Int}(e:v=m):partsFrom m cur (v::r)=cur::partsFrom m [] r:=by simp[partsFrom,e]
theorem gN{m v:Int}{cur r:List Int}(e:¬v=m):partsFrom m cur (v::r)=partsFrom m (cur++[v]) r:=by simp[partsFrom,e]
theorem pK(m:Int)(t:List Int):(parts m t).length<=t.length+1:=by
 have:∀(t cur:List Int),(partsFrom m cur t).length<=t.length+1:=by
  intro t;induction t with
  |nil=>intro cur;simp[partsFrom]
  |cons v r ih=>
   intro cur;by_cases e:v=m
   ·rw[iD e];have:=ih [];simp;omega
   ·rw[gN e];have:=ih (cur++[v]);simp;omega
 rw[<- iC];exact this t []
theorem iB{m:Int}{t p:List Int}(h:p∈parts m t):p.length<=t.length:=by
 have:∀(t cur:List Int),∀p∈partsFrom m cur t,p.length<=cur.length+t.length:=by
  intro t;induction t with
  |nil=>intro cur p hp;simp[partsFrom]at hp;subst hp;simp
  |cons v r ih=>
   intro cur p hp;by_cases e:v=m
   ·rw[iD e]at hp;rcases ak.mp hp with rfl|hp
    ·simp
    ·have:=ih [] p hp;simp at this ⊢;omega
   ·rw[gN e]at hp;have:=ih _ p hp;simp at this ⊢;omega
 rw[<- iC]at h;simpa using this t [] p h
section
variable {α β:Type}{f:α->Option β}
theorem EV:∀{l:List α}{zs:List β}{x:α}{z:β},l.mapM f=some zs->f x=some z->(l++[x]).mapM f=some (zs++[z]):=by
 intro l zs x z h1 h2;exact lK (by
  have h:=mapM_some h1;induction h with
  |nil=>exact .cons h2 .nil
  |cons r _ ih=>exact .cons r (ih (lK (by assumption))))
theorem pN{l:List α}{i:Nat}{zs:List β}{x:α}{z:β}(h:(l.take i).mapM f=some zs)(hx:l[i]? =some x)(hz:f x=some z):(l.take (i+1)).mapM f=some (zs++[z]):=by rw[take_snoc hx];exact EV h hz
theorem m6.mem{R:α->β->Prop}:∀{l:List α}{m:List β},m6 R l m->∀x∈l,∃y,R x y
 |_,_,.nil,_,h=>by cases h
 |_,_,.cons r t,x,h=>by
  rcases ak.mp h with rfl|h
  ·exact⟨_,r⟩
  ·exact m6.mem t x h
theorem m6.len{R:α->β->Prop}:∀{l:List α}{m:List β},m6 R l m->l.length=m.length
 |_,_,.nil=>rfl
 |_,_,.cons _ t=>by simp[m6.len t]
theorem pO{l:List α}{x:α}(hx:x∈l)(hz:f x=none):l.mapM f=none:=by
 cases h:l.mapM f with
 |none=>rfl
 |some zs=>obtain⟨y,e⟩:=(mapM_some h).mem x hx;rw[hz]at e;cases e
theorem tF{l:List α}{zs:List β}(h:l.mapM f=some zs):zs.length=l.length:=((mapM_some h).len).symm
end
theorem zR{α β:Type}{f:β->α->Option β}{l:List α}{b:β}{x:α}:(l++[x]).foldlM f b=(l.foldlM f b).bind fun c=>f c x:=by
 rw[List.foldlM_append];show(l.foldlM f b>>=fun c=>[x].foldlM f c)=_
 congr 1;funext c;simp
theorem r8{α β:Type}{f:β->α->Option β}{l:List α}{b c:β}{i:Nat}{x:α}(h:(l.take i).foldlM f b=some c)(hx:l[i]? =some x):(l.take (i+1)).foldlM f b=f c x:=by rw[take_snoc hx,zR,h];rfl
theorem zS{α β:Type}{f:β->α->Option β}{l:List α}{b c:β}{i:Nat}{x:α}(h:(l.take i).foldlM f b=some c)(hx:l[i]? =some x)(hn:f c x=none):l.foldlM f b=none:=by have e:l=l.take (i+1)++l.drop (i+1):=(List.take_append_drop ..).symm;rw[e,List.foldlM_append,r8 h hx,hn];rfl
def fP(a b q:Pl):Prop:=a.1=b.1/\a.1=q.1/\min a.2 b.2<=q.2/\q.2<max a.2 b.2
def nF(n k:Nat):Nat:=if k=0 then n - 1 else k - 1
noncomputable def zQ(w:List Pl)(k:Nat)(q:Pl):Prop:=∃a b,w[k]? =some a/\w[nF w.length k]? =some b/\fP a b q
noncomputable def jK(ws:List (List Pl))(i:Nat)(q:Pl):Prop:=∃w∈ws.take i,∃k,zQ w k q
theorem DK(a b:Point)(x y:Nat):r6 a b x y=true↔fP (iP b) (iP a) ((x:Int),(y:Int)):=by
 unfold r6 fP iP;simp only[dk,beq_iff_eq,decide_eq_true_iff];have e1:(min (b.2:Int) (a.2:Int))=((min a.2 b.2:Nat):Int):=by omega
 have e2:(max (b.2:Int) (a.2:Int))=((max a.2 b.2:Nat):Int):=by omega
 rw[e1,e2];omega
theorem yE(w:Walk)(s:Point×Point):s∈sides w↔∃k,w[k]? =some s.2/\w[nF w.length k]? =some s.1:=by
 unfold sides;rw[dz];have hz:∀(j:Nat),(w.zip (w.drop 1++w.take 1))[j]? =some s↔w[j]? =some s.1/\(w.drop 1++w.take 1)[j]? =some s.2:=by intro j;rw[jm]
 constructor
 ·rintro⟨j,h⟩;obtain⟨h1,h2⟩:=(hz j).mp h;have hj:j<w.length:=(ao.mp h1).1;by_cases c:j+1<w.length
  ·rw[gj (by rw[fj];omega),getElem?_drop]at h2;refine⟨j+1,by rw[Nat.add_comm];exact h2,?_⟩;unfold nF;rw[af (by omega)];exact h1
  ·rw[dm (by rw[fj];omega),fj]at h2;have e:j - (w.length - 1)=0:=by omega
   rw[e,fy (by omega)]at h2;refine⟨0,h2,?_⟩;unfold nF;rw[ag rfl,show w.length - 1=j by omega];exact h1
 ·rintro⟨k,h1,h2⟩;have hk:k<w.length:=(ao.mp h1).1;by_cases c:k=0
  ·subst c;refine⟨w.length - 1,(hz _).mpr ⟨h2,?_⟩⟩;rw[dm (by rw[fj];omega),fj,show w.length - 1 - (w.length - 1)=0 by omega,fy (by omega)];exact h1
  ·refine⟨k - 1,(hz _).mpr ⟨?_,?_⟩⟩
   ·unfold nF at h2;rw[af c]at h2;exact h2
   ·rw[gj (by rw[fj];omega),getElem?_drop,show 1+(k - 1)=k by omega];exact h1
theorem vT(w:Walk)(x y:Nat):(∃k,zQ (iW w) k ((x:Int),(y:Int)))↔∃s∈sides w,r6 s.1 s.2 x y=true:=by
 have hl:(iW w).length=w.length:=ai ..;have hg:∀(k:Nat)(a:Pl),(iW w)[k]? =some a↔∃p,w[k]? =some p/\a=iP p:=by intro k a;unfold iW;rw[bc];cases w[k]? <;>simp[eq_comm]
 constructor
 ·rintro⟨k,a,b,h1,h2,h3⟩;obtain⟨p,hp,rfl⟩:=(hg k a).mp h1;rw[hl]at h2;obtain⟨q,hq,rfl⟩:=(hg _ b).mp h2;exact⟨(q,p),(yE w (q,p)).mpr ⟨k,hp,hq⟩,(DK q p x y).mpr h3⟩
 ·rintro⟨s,hs,hf⟩;obtain⟨k,h1,h2⟩:=(yE w s).mp hs;exact⟨k,iP s.2,iP s.1,(hg k _).mpr ⟨_,h1,rfl⟩,by rw[hl];exact(hg _ _).mpr ⟨_,h2,rfl⟩,(DK s.1 s.2 x y).mp hf⟩
theorem C3(ws:List Walk)(x y:Nat):jK (iWs ws) (iWs ws).length ((x:Int),(y:Int))↔dQ ws x y=true:=by
 unfold jK dQ;rw[bu (ax _),fk];constructor
 ·rintro⟨w,hw,hk⟩;obtain⟨v,hv,rfl⟩:=ar.mp hw;obtain⟨s,hs,hf⟩:=(vT v x y).mp hk;exact⟨v,hv,fk.mpr ⟨s,hs,hf⟩⟩
 ·rintro⟨v,hv,h⟩;obtain⟨s,hs,hf⟩:=fk.mp h;exact⟨iW v,ar.mpr ⟨v,hv,rfl⟩,(vT v x y).mpr ⟨s,hs,hf⟩⟩
noncomputable def mE(ws:List (List Pl))(i:Nat)(w:List Pl)(k:Nat)(q:Pl):Prop:=jK ws i q\/∃j,j<k/\zQ w j q
theorem C4(ws:List (List Pl))(i:Nat)(w:List Pl)(q:Pl):mE ws i w 0 q↔jK ws i q:=by
 unfold mE;constructor
 ·rintro(h|⟨j,h,_⟩)
  ·exact h
  ·omega
 ·exact .inl
theorem tS(ws:List (List Pl))(i:Nat)(w:List Pl)(k:Nat)(q:Pl):mE ws i w (k+1) q↔mE ws i w k q\/zQ w k q:=by
 unfold mE;constructor
 ·rintro(h|⟨j,h1,h2⟩)
  ·exact .inl (.inl h)
  ·by_cases e:j=k
   ·exact .inr (e▸h2)
   ·exact .inl (.inr ⟨j,by omega,h2⟩)
 ·rintro((h|⟨j,h1,h2⟩)|h)
  ·exact .inl h
  ·exact .inr ⟨j,by omega,h2⟩
  ·exact .inr ⟨k,by omega,h⟩
theorem FD{ws:List (List Pl)}{i:Nat}{w:List Pl}(hw:ws[i]? =some w)(q:Pl):mE ws i w w.length q↔jK ws (i+1) q:=by
 unfold mE jK;rw[take_snoc hw];constructor
 ·rintro(⟨v,hv,h⟩|⟨j,_,h⟩)
  ·exact⟨v,cf _ hv,h⟩
  ·exact⟨w,by simp,j,h⟩
 ·rintro⟨v,hv,h⟩;rcases aw.mp hv with hv|hv
  ·exact .inl ⟨v,hv,h⟩
  ·have:v=w:=by simpa using hv
   subst this;obtain⟨k,h⟩:=h;obtain⟨a,b,h1,h2⟩:=id h;exact .inr ⟨k,(ao.mp h1).1,h⟩
noncomputable def box:List Pl:=(List.range 65).flatMap fun(x:Nat)=>(List.range 65).map fun(y:Nat)=>(((x:Int),(y:Int)):Pl)
theorem DW{q:Pl}(h1:0<=q.1)(h2:q.1<=64)(h3:0<=q.2)(h4:q.2<=64):q∈box:=by unfold box;refine bw.mpr ⟨q.1.toNat,iz.mpr (by omega),ar.mpr ⟨q.2.toNat,iz.mpr (by omega),?_⟩⟩;obtain⟨a,b⟩:=q;simp at h1 h3 ⊢;omega
theorem L4:box.length=4225:=by decide+kernel
theorem tR{ws:List (List Pl)}(ho:∀w∈ws,∀p∈w,(0<=p.1/\p.1<=64)/\(0<=p.2/\p.2<=64)){w:List Pl}(hw:w∈ws){k:Nat}{q:Pl}(h:zQ w k q):q∈box:=by obtain⟨a,b,h1,h2,h3,h4,h5,h6⟩:=h;have o1:=ho w hw a (az h1);have o2:=ho w hw b (az h2);exact DW (by omega) (by omega) (by omega) (by omega)
noncomputable def mK(F:Nat->Nat->Bool)(y n:Nat):Cells:=((List.range n).map fun x=>((x,y):Cell)).filter fun c=>c9 F c.2 c.1
noncomputable def iO(F:Nat->Nat->Bool)(n:Nat):Cells:=(List.range n).flatMap fun y=>mK F y 64
theorem EK(F:Nat->Nat->Bool):iO F 64=aQ F:=rfl
theorem lF(F:Nat->Nat->Bool)(y n:Nat):mK F y (n+1)=if c9 F y n=true then mK F y n++[(n,y)]else mK F y n:=by
 unfold mK;rw[jf,cj,gg];by_cases h:c9 F y n=true
 ·rw[ag h];simp[h]
 ·rw[af h];simp[h]
theorem sJ(F:Nat->Nat->Bool)(n:Nat):iO F (n+1)=iO F n++mK F n 64:=by unfold iO;rw[jf,gd];simp
theorem sM{F:Nat->Nat->Bool}{y n:Nat}{c:Cell}(h:c∈mK F y n):c.1<n/\c.2=y:=by unfold mK at h;obtain⟨h1,_⟩:=cg.mp h;obtain⟨x,hx,rfl⟩:=ar.mp h1;exact⟨iz.mp hx,rfl⟩
theorem v7{F:Nat->Nat->Bool}{n:Nat}{c:Cell}(h:c∈iO F n):c.2<n/\c.1<64:=by unfold iO at h;obtain⟨y,hy,h⟩:=bw.mp h;have:=sM h;have:=iz.mp hy;omega
theorem zE(F:Nat->Nat->Bool)(y x:Nat):c9 F y x=xor (if x=0 then false else c9 F y (x - 1)) (F x y):=by
 cases x with
 |zero=>simp[c9]
 |succ x=>simp[c9]
theorem sN(F:Nat->Nat->Bool)(y n:Nat):(mK F y n).length<=n:=by unfold mK;exact dj (gw _ _) (by simp)
theorem pD(F:Nat->Nat->Bool)(n:Nat):(iO F n).length<=64*n:=by
 induction n with
 |zero=>simp[iO]
 |succ n ih=>rw[sJ,aj];have:=sN F n 64;omega
section
variable {κ β:Type} [DecidableEq κ]
noncomputable def Tbl(l:List (κ×β))(S:κ->Prop):Prop:=(l.map (·.1)).Nodup/\∀q,q∈l.map (·.1)↔S q
theorem Tbl.nil:Tbl ([]:List (κ×β)) fun _=>False:=⟨by simp,by simp⟩
theorem Tbl.put{l:List (κ×β)}{S:κ->Prop}(h:Tbl l S)(k:κ)(v:β):Tbl (dN l k v) fun q=>S q\/q=k:=by
 refine⟨u7 h.1,fun q=>?_⟩;rw[wG];split
 ·rename_i hk;rw[h.2];constructor
  ·exact .inl
  ·rintro(z|z)
   ·exact z
   ·rw[z];exact(h.2 k).mp hk
 ·rw[aw,h.2];simp
theorem Tbl.iff{l:List (κ×β)}{S T:κ->Prop}(h:Tbl l S)(e:∀q,S q↔T q):Tbl l T:=⟨h.1,fun q=>(h.2 q).trans (e q)⟩
theorem Tbl.len{l:List (κ×β)}{S:κ->Prop}(h:Tbl l S){b:List κ}(hb:∀q,S q->q∈b):l.length<=b.length:=by
 have:=cO h.1 (b:=b) fun q hq=>hb q ((h.2 q).mp hq)
 rwa [ai]at this
end
theorem K0{W:List Walk}(h:t7 W):∀w∈iWs W,∀p∈w,(0<=p.1/\p.1<=64)/\(0<=p.2/\p.2<=64):=by intro w hw p hp;obtain⟨v,hv,rfl⟩:=ar.mp hw;obtain⟨q,hq,rfl⟩:=ar.mp hp;have:=h v hv q hq;unfold okP at this;unfold iP;simp only;omega
theorem FC{ws:List (List Pl)}(ho:∀w∈ws,∀p∈w,(0<=p.1/\p.1<=64)/\(0<=p.2/\p.2<=64)){w:List Pl}(hw:w∈ws){i k:Nat}{q:Pl}(h:mE ws i w k q):q∈box:=by
 rcases h with⟨v,hv,k,h⟩|⟨j,_,h⟩
 ·exact tR ho (List.mem_of_mem_take hv) h
 ·exact tR ho hw h
theorem zP(ws:List (List Pl))(q:Pl):jK ws 0 q↔False:=by simp[jK]
noncomputable def cZ(cs:List Pl)(c:Pl)(j:Nat):List (Pl×Int):=(([0,1,2,3].take j).filter fun(s:Nat)=>!decide (aK c s∈cs)).map fun s=>(aB c s,hdg s)
theorem u5(cs:List Pl)(c:Pl):cZ cs c 4=eU cs c:=rfl
theorem rJ(cs:List Pl)(c:Pl){j:Nat}(hj:j<4):cZ cs c (j+1)=cZ cs c j++(if aK c j∈cs then[]else[(aB c j,hdg j)]):=by
 have e:([0,1,2,3]:List Nat).take (j+1)=[0,1,2,3].take j++[j]:=by
  have cs:j=0\/j=1\/j=2\/j=3:=by omega
  rcases cs with rfl|rfl|rfl|rfl<;>rfl
 unfold cZ;rw[e,gg,cj];congr 1;by_cases h:aK c j∈cs
 ·rw[ag h];simp[h]
 ·rw[af h];simp[h]
theorem kU(cs:List Pl)(c:Pl)(j:Nat):(cZ cs c j).length<=4:=by unfold cZ;rw[ai];refine dj (gw _ _) ?_;rw[bz];simp;omega
def dJ(cs:List Pl)(i:Nat):List (Pl×Int):=(cs.take i).flatMap (eU cs)
theorem nV{cs:List Pl}{i:Nat}{c:Pl}(h:cs[i]? =some c):dJ cs (i+1)=dJ cs i++eU cs c:=by unfold dJ;rw[take_snoc h,gd];simp
theorem zJ(cs:List Pl):cT [] (dJ cs cs.length)=cV cs:=by unfold dJ cV fT;rw[bu (ax _)]
theorem zI(cs:List Pl)(i:Nat):(dJ cs i).length<=4*i:=by
 induction i with
 |zero=>simp[dJ]
 |succ i ih=>
  cases h:cs[i]? with
  |some c=>rw[nV h,aj,<- u5];have:=kU cs c 4;omega
  |none=>
   have hl:cs.length<=i:=jn.mp h;have:dJ cs (i+1)=dJ cs i:=by unfold dJ;rw[bu (by omega),bu hl]
   rw[this];omega
theorem u6{κ β:Type}[DecidableEq κ](l a:List (κ×β))(k:κ)(v:β):cT l (a++[(k,v)])=dN (cT l a) k v:=by rw[xV];rfl
structure f7(l:Cells)(seen:List Point)(i:Nat)(ws:List Walk):Prop where
 IX:d7 l seen ((cG l).drop i)
 eq:ws++walksFrom l seen ((cG l).drop i)=walksOf l
 nd:seen.Nodup
 out:∀y∈seen,(outOf l y).isSome=true
theorem f7.start(l:Cells):f7 l [] 0 [] where
 IX:=d7.starts l
 eq:=by
  show walksFrom l [] (cG l)=walksFrom l [] (pointsOf l)
  rw[dR l (pointsOf l)];rfl
 nd:=by simp
 out:=by simp
theorem f7.skip{l:Cells}{seen:List Point}{i:Nat}{ws:List Walk}(h:f7 l seen i ws){p:Point}(hi:(cG l)[i]? =some p)(hs:p∈seen):f7 l seen (i+1) ws:=by
 have g:=h.IX;have e:=h.eq;rw[drop_cons hi]at g e;refine⟨g.skip (.inl hs),?_,h.nd,h.out⟩;rw[<- e];show _=ws++(if seen.contains p=true then _ else _)
 rw[ag (by simpa using hs)]
theorem f7.done{l:Cells}{seen:List Point}{ws:List Walk}(h:f7 l seen (cG l).length ws):ws=walksOf l:=by have e:=h.eq;rw[List.drop_eq_nil_of_le (ax _)]at e;rw[<- e];simp[walksFrom]
theorem f7.len{l:Cells}(hp:pinched l=false){seen:List Point}{i:Nat}{ws:List Walk}(h:f7 l seen i ws):seen.length<=4*l.length:=by
 have h1:(iW seen).Nodup:=dY h.nd fun x _ y _ e=>fF e
 have h2:=cO (b:=(cV (iW l)).map (·.1)) h1 fun p hm=>by
  obtain⟨q,hq,rfl⟩:=ar.mp hm;have:=h.out q hq;cases e:outOf l q with
  |none=>rw[e]at this;cases this
  |some d=>exact(pU hp _).mpr ⟨q,d,rfl,e⟩
 have h3:=jF (iW l);simp only[iW,ai]at h2 h3;omega
theorem f7.next{l:Cells}(hp:pinched l=false){seen:List Point}{i:Nat}{ws:List Walk}(h:f7 l seen i ws){p:Point}(hi:(cG l)[i]? =some p)(hs:p∉seen):
  ∃f:List (Pl×Int),mH (aN (cV (iW l))) (iP p) f (iP p)/\f≠[]/\(f.map (·.1)).Nodup/\(∀y∈f.map (·.1),y∉iW seen)/\∃(oo:List Point)(w:Walk),iW oo=iW seen++f.map (·.1)/\iW w=bP none f/\f7 l oo (i+1) (ws++[w]):=by
 have g:=h.IX;have e:=h.eq;rw[drop_cons hi]at g e;have hm:=az hi;have ho:=(cg.mp hm).2;obtain⟨d,ho⟩:∃d,outOf l p=some d:=by
  cases q:outOf l p with
  |none=>rw[q]at ho;cases ho
  |some d=>exact⟨d,rfl⟩
 obtain⟨f,p1,p2,p3,p4,p5,p6,p7⟩:=GA hp g hs ho;have ek:(f.map iF).map (·.1)=iW (f.map (·.1)):=by simp[iW,iF,Function.comp_def]
 have nd2:(f.map (·.1)).Nodup:=by rw[ek]at p3;unfold iW at p3;exact List.Pairwise.of_map iP (fun a b Ab z=>Ab (by rw[z])) p3
 refine⟨f.map iF,p1,by intro z;exact p2 (by simpa using z),p3,?_,seen++f.map (·.1),cornersOf f,?_,p7,p5,?_,?_,?_⟩
 ·intro y hy;rw[ek]at hy;obtain⟨q,hq,rfl⟩:=ar.mp hy;intro z;exact p4 q hq (gP.mp z)
 ·rw[ek];simp[iW]
 ·rw[<- e,p6];simp
 ·rw[de];exact⟨h.nd,nd2,fun a ha b hb z=>p4 b hb (z▸ha)⟩
 ·intro y hy;rcases aw.mp hy with hy|hy
  ·exact h.out y hy
  ·have hk:iP y∈(f.map iF).map (·.1):=by rw[ek];exact gP.mpr hy
   have pa:∀{a b:Pl}{r:List (Pl×Int)},mH (aN (cV (iW l))) a r b->∀z∈r.map (·.1),(aN (cV (iW l)) z).isSome=true:=by
    intro a b r pr;induction pr with
    |nil p=>intro z hz;cases hz
    |cons h1 _ _ _ ih=>
     intro z hz;rcases ak.mp hz with rfl|hz
     ·rw[h1];rfl
     ·exact ih z hz
   have:=pa p1 _ hk;rw[aV]at this;obtain⟨q,d',h1,h2⟩:=(pU hp _).mp this;rw[fF h1,h2];rfl
noncomputable def vB(c:Pl):List Pl:=[(2*c.1+0,2*c.2+0),(2*c.1+1,2*c.2+0),(2*c.1+0,2*c.2+1),(2*c.1+1,2*c.2+1)]
theorem yJ{cs:List Pl}{i:Nat}{c:Pl}(h:cs[i]? =some c):eV (cs.take (i+1))=eV (cs.take i)++vB c:=by unfold eV;rw[take_snoc h,gd];simp[vB]
theorem B2(cs:List Pl):(eV cs).length=4*cs.length:=by
 unfold eV;induction cs with
 |nil=>rfl
 |cons c r ih=>rw[dt,aj,ih,br];simp;omega
theorem EN(c:Pl){j:Nat}{q:Pl}(hq:([(0,0),(1,0),(0,1),(1,1)]:List Pl)[j]? =some q):(vB c).take (j+1)=(vB c).take j++[(2*c.1+q.1,2*c.2+q.2)]:=by
 have hj:j<4:=(ao.mp hq).1;have cs:j=0\/j=1\/j=2\/j=3:=by omega
 rcases cs with rfl|rfl|rfl|rfl<;>(cases hq;rfl)
theorem CK(p:Pl){j:Nat}{q:Pl}(hq:([(-1,-1),(0,-1),(1,-1),(-1,0),(1,0),(-1,1),(0,1),(1,1)]:List Pl)[j]? =some q):(cP p)[j]? =some (p.1+q.1,p.2+q.2):=by
 have hj:j<8:=(ao.mp hq).1;have cs:j=0\/j=1\/j=2\/j=3\/j=4\/j=5\/j=6\/j=7:=by omega
 rcases cs with rfl|rfl|rfl|rfl|rfl|rfl|rfl|rfl<;>(cases hq;rfl)
theorem L7(h:List Nat)(p:Pl){j:Nat}{q:Pl}(hq:([(-1,-1),(0,-1),(-1,0),(0,0)]:List Pl)[j]? =some q):(cS h p)[j]? =some (aR h (p.1+q.1,p.2+q.2)+1):=by
 have hj:j<4:=(ao.mp hq).1;have cs:j=0\/j=1\/j=2\/j=3:=by omega
 rcases cs with rfl|rfl|rfl|rfl<;>(cases hq;rfl)
structure AF(h:List Nat)(ht:List (Pl×Int)):Prop where
 val:∀q z,aN ht q=some z->z=hgt h q
 all:∀x∈h,∀c,c<4->aN ht (aB (hP x) c)=some (hgt h (aB (hP x) c))
structure gB(h:List Nat)(ht:List (Pl×Int))(i j:Nat):Prop where
 val:∀q z,aN ht q=some z->z=hgt h q
 old:∀m x,m<i->h[m]? =some x->∀c,c<4->(aN ht (aB (hP x) c)).isSome=true
 cur:∀x,h[i]? =some x->∀c,c<j->(aN ht (aB (hP x) c)).isSome=true
 len:ht.length<=4*i+j
theorem gB.start(h:List Nat):gB h [] 0 0:=⟨fun q z e=>(by cases e),fun m x hm=>by omega,fun x _ c hc=>by omega,cv _⟩
theorem gB.keep{h:List Nat}{ht:List (Pl×Int)}{i j:Nat}(a:gB h ht i j){r:Nat}(hr:h[i]? =some r)(hs:(aN ht (aB (hP r) j)).isSome=true):gB h ht i (j+1):=by
 refine⟨a.val,a.old,fun x hx c hc=>?_,by have:=a.len;omega⟩;by_cases e:c=j
 ·subst e;rw[hr]at hx;cases hx;exact hs
 ·exact a.cur x hx c (by omega)
theorem gB.put{h:List Nat}{ht:List (Pl×Int)}{i j:Nat}(a:gB h ht i j){r:Nat}(hr:h[i]? =some r):gB h (dN ht (aB (hP r) j) (hgt h (aB (hP r) j))) i (j+1):=by
 have mono:∀q,(aN ht q).isSome=true->(aN (dN ht (aB (hP r) j) (hgt h (aB (hP r) j))) q).isSome=true:=by
  intro q hq;rw[gT];split
  ·rfl
  ·exact hq
 refine⟨fun q z e=>?_,fun m x hm hx c hc=>mono _ (a.old m x hm hx c hc),fun x hx c hc=>?_,?_⟩
 ·rw[gT]at e;by_cases z':q=aB (hP r) j
  ·rw[ag z']at e;cases e;rw[z']
  ·rw[af z']at e;exact a.val q z e
 ·by_cases e:c=j
  ·subst e;rw[hr]at hx;cases hx;rw[gT,ag rfl];rfl
  ·exact mono _ (a.cur x hx c (by omega))
 ·have:=kY ht (aB (hP r) j) (hgt h (aB (hP r) j));have:=a.len;omega
theorem gB.next{h:List Nat}{ht:List (Pl×Int)}{i:Nat}(a:gB h ht i 4):gB h ht (i+1) 0:=by
 refine⟨a.val,fun m x hm hx c hc=>?_,by intro x _ c hc;omega,by have:=a.len;omega⟩;by_cases e:m=i
 ·subst e;exact a.cur x hx c hc
 ·exact a.old m x (by omega) hx c hc
theorem gB.done{h:List Nat}{ht:List (Pl×Int)}(a:gB h ht h.length 0):AF h ht:=by
 refine⟨a.val,fun x hx c hc=>?_⟩;obtain⟨m,hm⟩:=dz.mp hx;have:=a.old m x (ao.mp hm).1 hm c hc;cases e:aN ht (aB (hP x) c)with
 |none=>rw[e]at this;cases this
 |some z=>rw[a.val _ z e]
def wK(p:Pl):List T3:=[(p.1,p.2,0),(p.1,p.2,1),(p.1,p.2,2),(p.1,p.2,3)]
theorem AQ{hs:List Pl}{i:Nat}{p:Pl}(h:hs[i]? =some p):fN (hs.take (i+1))=fN (hs.take i)++wK p:=by unfold fN;rw[take_snoc h,gd];simp[wK]
theorem EI(p:Pl){j:Nat}(hj:j<4):(wK p).take (j+1)=(wK p).take j++[(p.1,p.2,(j:Int))]:=by
 have cs:j=0\/j=1\/j=2\/j=3:=by omega
 rcases cs with rfl|rfl|rfl|rfl<;>rfl
theorem EF{hs:List Pl}{t:T3}(h:t∈fN hs):(t.1,t.2.1)∈hs:=by unfold fN at h;obtain⟨p,hp,h⟩:=bw.mp h;simp at h;rcases h with rfl|rfl|rfl|rfl<;>exact hp
theorem EH{hs:List Pl}(hn:hs.Nodup){i j:Nat}{p:Pl}(h:hs[i]? =some p)(hj:j<4):(p.1,p.2,(j:Int))∉fN (hs.take i)++(wK p).take j:=by
 intro z;rcases aw.mp z with z|z
 ·have:=EF z;simp only at this;obtain⟨m,hm⟩:=dz.mp this;have jz:m<i:=by have:=(ao.mp hm).1;rw[bz]at this;omega
  rw[fy jz]at hm;have h1:=(ao.mp hm).1;have hpw:=List.pairwise_iff_getElem.mp hn m i h1 (ao.mp h).1 jz;have e1:=(ao.mp hm).2;have e2:=(ao.mp h).2;exact hpw (e1.trans e2.symm)
 ·have cs:j=0\/j=1\/j=2\/j=3:=by omega
  rcases cs with rfl|rfl|rfl|rfl<;>simp[wK]at z
theorem EG(hs:List Pl)(i:Nat):(fN (hs.take i)).length<=4*hs.length:=by rw[mZ,bz];omega
section
variable {α:Type}{ok:α->Prop}{nb:α->List α}{U:α->Prop}{t0:α}
theorem gF.iff{N N' W:List α}(h:gF ok nb U t0 N W)(e:∀x,x∈N'↔x∈N):gF ok nb U t0 N' W:=
 ⟨fun x hx=>h.new x ((e x).mp hx),h.wait,h.start.imp (e t0).mpr id,fun x hx u hu ou uu=>(h.pC x ((e x).mp hx) u hu ou uu).imp (e u).mpr id⟩
theorem gF.pop{N W:List α}{x:α}(h:gF ok nb U t0 N (W++[x]))(o0:ok t0)(u0:¬U t0)(hx:¬ok x\/U x\/x∈N):gF ok nb U t0 N W:=
 h.skip o0 u0 (x:=x) (fun y hy=>cf _ hy) (fun y hy=>by
  rcases aw.mp hy with q|q
  ·exact .inl q
  ·exact .inr (by simpa using q)) hx
theorem gF.push{N W:List α}{x:α}(h:gF ok nb U t0 N (W++[x]))(ox:ok x)(ux:¬U x):gF ok nb U t0 (N++[x]) (W++nb x):=by
 refine(h.take (x:=x) (W':=W++nb x) (by simp) ox ux (fun y hy=>?_) (fun y hy=>?_) fun u hu _ _=>bf _ hu).iff fun y=>by simp[or_comm]
 ·rcases aw.mp hy with q|q
  ·exact .inl (cf _ q)
  ·exact .inr q
 ·rcases aw.mp hy with q|q
  ·exact .inl (cf _ q)
  ·exact .inr (by simpa using q)
end
theorem FJ{h:List Nat}{t:T3}{z:Int}(e:aN (d5 h) t=some z):0<=t.2.2/\t.2.2<4:=by
 have hm:t∈(trianglesOf h).map tP:=by apply Classical.byContradiction;intro q;rw[zU h t q]at e;cases e
 obtain⟨u,_,rfl⟩:=ar.mp hm;unfold tP;dsimp only;omega
theorem lU(h:List Nat):(d5 h).map (·.1)=(trianglesOf h).map tP:=by unfold d5;rw[fQ,n4]
theorem yA(h:List Nat):(trianglesOf h).length=4*h.length:=by have:=mZ (h.map hP);rw[n4,ai,ai]at this;exact this
theorem D6:∀(Ns:List (List T3))(j:Nat)(x:T3×Int),x∈aF j Ns->(j:Int)<=x.2
 |[],j,x,h=>by cases h
 |N::r,j,x,h=>by
  rcases aw.mp (show x∈N.map (fun p=>(p,(j:Int)))++aF (j+1) r from h)with h|h
  ·obtain⟨p,_,rfl⟩:=ar.mp h;exact le_refl _
  ·have:=D6 r (j+1) x h;omega
theorem yT:∀(A B:List (List T3))(j:Nat),(∀N∈A,N≠[])->(∀N∈B,N≠[])->aF j A=aF j B->A=B
 |[],[],_,_,_,_=>rfl
 |[],N::r,j,_,hB,e=>by
  have e:([]:List (T3×Int))=N.map (fun p=>(p,(j:Int)))++aF (j+1) r:=e;have:=hB N (by simp);cases N with
  |nil=>exact absurd rfl this
  |cons _ _=>simp at e
 |N::r,[],j,hA,_,e=>by
  have e:N.map (fun p=>(p,(j:Int)))++aF (j+1) r=[]:=e;have:=hA N (by simp);cases N with
  |nil=>exact absurd rfl this
  |cons _ _=>simp at e
 |N::r,M::s,j,hA,hB,e=>by
  have e:N.map (fun p=>(p,(j:Int)))++aF (j+1) r=M.map (fun p=>(p,(j:Int)))++aF (j+1) s:=e;have none_of:∀q:List (List T3),(aF (j+1) q).filter (fun x=>decide (x.2=(j:Int)))=[]:=by intro q;rw[List.filter_eq_nil_iff];intro x hx;have:=D6 q (j+1) x hx;simp;omega
  have all_of:∀q:List T3,(q.map (fun p=>(p,(j:Int)))).filter (fun x=>decide (x.2=(j:Int)))=q.map (fun p=>(p,(j:Int))):=by intro q;rw[List.filter_eq_self];intro x hx;obtain⟨p,_,rfl⟩:=ar.mp hx;simp
  have e2:=congrArg (List.filter (fun x=>decide (x.2=(j:Int)))) e;rw[gg,gg,none_of,none_of,all_of,all_of,df,df]at e2;have eN:N=M:=by
   have:=congrArg (List.map Prod.fst) e2;rw[gb,gb]at this;have id1:∀q:List T3,q.map (Prod.fst∘fun p=>(p,(j:Int)))=q:=fun q=>map_id q
   rw[id1,id1]at this;exact this
  subst eN;have e3:=List.append_cancel_left e;rw[yT r s (j+1) (fun x hx=>hA x (by simp[hx])) (fun x hx=>hB x (by simp[hx])) e3]
theorem vK:∀(Ns:List (List T3))(k i:Nat)(t:T3)(m:Int),(∀N∈Ns,N≠[])->(aF k Ns)[i]? =some (t,m)->(i=0/\m=(k:Int))\/(0<i/\∃t' m',(aF k Ns)[i - 1]? =some (t',m')/\(m=m'\/m=m'+1))
 |[],k,i,t,m,_,h=>by simp[aF]at h
 |N::r,k,i,t,m,jv,h=>by
  have h:(N.map (fun p=>(p,(k:Int)))++aF (k+1) r)[i]? =some (t,m):=h;show(i=0/\m=(k:Int))\/(0<i/\∃t' m',(N.map (fun p=>(p,(k:Int)))++aF (k+1) r)[i - 1]? =some (t',m')/\(m=m'\/m=m'+1))
  have hN:0<N.length:=gm.mpr (jv N (by simp));have lN:(N.map (fun p=>(p,(k:Int)))).length=N.length:=by simp
  have inN:∀j,j<N.length->∃t',(N.map (fun p=>(p,(k:Int)))++aF (k+1) r)[j]? =some (t',(k:Int)):=by intro j hj;refine⟨N[j],?_⟩;rw[gj (by omega),bc,bj hj];rfl
  by_cases c:i<N.length
  ·obtain⟨t',Cd⟩:=inN i c;rw[Cd]at h;cases h;by_cases i0:i=0
   ·exact .inl ⟨i0,rfl⟩
   ·obtain⟨t2,ht2⟩:=inN (i - 1) (by omega);exact .inr ⟨by omega,t2,_,ht2,.inl rfl⟩
  ·rw[dm (by omega),lN]at h;rcases vK r (k+1) (i - N.length) t m (fun x hx=>jv x (by simp[hx])) h with⟨e1,e2⟩|⟨e1,t',m',e2,e3⟩
   ·obtain⟨t2,ht2⟩:=inN (i - 1) (by omega);exact .inr ⟨by omega,t2,_,ht2,.inr (by omega)⟩
   ·refine .inr ⟨by omega,t',m',?_,e3⟩;rw[dm (by omega),lN,show i - 1 - N.length=i - N.length - 1 by omega];exact e2
structure qF(Ns:List (List T3))(i:Nat)(Fs:List (List T3)):Prop where
 eq:aF 0 Fs=(aF 0 Ns).take i
 ne:∀F∈Fs,F≠[]
theorem qF.start(Ns:List (List T3)):qF Ns 0 []:=⟨rfl,by simp⟩
theorem qF.done{Ns Fs:List (List T3)}(jv:∀N∈Ns,N≠[])(h:qF Ns (aF 0 Ns).length Fs):Fs=Ns:=by have e:=h.eq;rw[bu (ax _)]at e;exact yT Fs Ns 0 h.ne jv e
theorem qF.step{Ns Fs:List (List T3)}(jv:∀N∈Ns,N≠[]){i:Nat}{t:T3}{m:Int}(h:qF Ns i Fs)(hi:(aF 0 Ns)[i]? =some (t,m)):
  (m=(Fs.length:Int)/\qF Ns (i+1) (Fs++[[]++[t]]))\/∃F L,Fs=F++[L]/\m=(F.length:Int)/\qF Ns (i+1) (F++[L++[t]]):=by
 have rj:=(ao.mp hi).1;have new:m=(Fs.length:Int)->qF Ns (i+1) (Fs++[[]++[t]]):=by
  intro em;refine⟨?_,fun F hF=>?_⟩
  ·rw[iT,h.eq,take_snoc hi,em];rfl
  ·rcases aw.mp hF with hF|hF
   ·exact h.ne F hF
   ·have:F=[t]:=by simpa using hF
    rw[this];simp
 rcases vK Ns 0 i t m jv hi with⟨i0,m0⟩|⟨ip,t',m',qp,hm⟩
 ·subst i0;have hF:Fs=[]:=by
   cases Fs with
   |nil=>rfl
   |cons F r=>
    have e:=h.eq;have:=h.ne F (by simp);cases F with
    |nil=>exact absurd rfl this
    |cons _ _=>simp[aF]at e
  subst hF;exact .inl ⟨by rw[m0];rfl,new (by rw[m0];rfl)⟩
 ·have Cp:Fs≠[]:=by intro z;have e:=h.eq;rw[z]at e;have:=congrArg List.length e;rw[bz]at this;simp[aF]at this;omega
  obtain⟨F,L,eF⟩:∃F L,Fs=F++[L]:=⟨Fs.dropLast,Fs.getLast Cp,(jb Cp).symm⟩
  subst eF;have hL:L≠[]:=h.ne L (by simp);have e:=h.eq;rw[iT]at e;have el:(aF 0 F++L.map fun p=>(p,(F.length:Int))).length=i:=by rw[e,bz];omega
  have hLp:0<L.length:=gm.mpr hL;have yg:(aF 0 F++L.map fun p=>(p,(F.length:Int)))[i - 1]? =some (L[L.length - 1],(F.length:Int)):=by rw[aj,ai]at el;rw[dm (by omega),bc,show i - 1 - (aF 0 F).length=L.length - 1 by omega,bj (by omega)];rfl
  rw[e,fy (by omega),qp]at yg;cases yg;rcases hm with hm|hm
  ·refine .inr ⟨F,L,rfl,hm,?_,fun G hG=>?_⟩
   ·rw[iT,cj,<- dv,e,take_snoc hi,hm];rfl
   ·rcases aw.mp hG with hG|hG
    ·exact h.ne G (by simp[hG])
    ·have:G=L++[t]:=by simpa using hG
     rw[this];simp
  ·have em:m=((F++[L]).length:Int):=by rw[hm,aj];simp
   exact .inl ⟨em,new em⟩
section
variable {i j s:Int}{t:List Int}
theorem AS(h0:0<=i)(h1:0<=j)(h2:0<=s)(b0:i<=127)(b1:j<=127)(b2:s<=3):RoofB.triOk i.toNat j.toNat s.toNat=true:=by unfold RoofB.triOk HALVES;simp only[dk,decide_eq_true_eq];omega
end
section
variable {i j s:Int}{t u:List Int}
theorem BE{t:List Int}{f:Top->RoofB.Answer}(h:houseOf (RoofBNeutral.text t)=none):RoofB.ofTop (RoofBNeutral.text t) f=[-1]:=by unfold RoofB.ofTop;rw[h];rfl
theorem t9{t:List Int}{f:Top->RoofB.Answer}{l:Cells}(h:houseOf (RoofBNeutral.text t)=some l):RoofB.ofTop (RoofBNeutral.text t) f=f (topOf l):=by unfold RoofB.ofTop;rw[h]
end
theorem FO{h:List Nat}{p:Pl}(m:p∈h.map hP):aN (bT h) p=some (aR h p):=by unfold bT;rw[j2,ag m]
theorem AF.at{h:List Nat}{ht:List (Pl×Int)}{p:Pl}(o:AF h ht)(m:p∈h.map hP){c:Nat}(hc:c<5):aN ht (aB p c)=some (hgt h (aB p c)):=by
 obtain⟨r,hr,rfl⟩:=ar.mp m;by_cases c4:c<4
 ·exact o.all r hr c c4
 ·have e:c=4:=by omega
  subst e;exact o.all r hr 0 (by decide)
theorem zV{h:List Nat}{t:T3}(h0:0<=t.2.2)(h4:t.2.2<4):(aN (d5 h) t).isSome=true↔(t.1,t.2.1)∈h.map hP:=by
 rw[aV];unfold d5;rw[fQ];unfold fN;rw[bw];constructor
 ·rintro⟨p,hp,ht⟩;simp only[ak,fo,or_false]at ht;rcases ht with rfl|rfl|rfl|rfl<;>exact hp
 ·intro hp;refine⟨_,hp,?_⟩;have cs:t.2.2=0\/t.2.2=1\/t.2.2=2\/t.2.2=3:=by omega
  obtain⟨a,b,c⟩:=t;simp only at cs;rcases cs with rfl|rfl|rfl|rfl<;>simp
theorem AR{h:List Nat}{t:T3}(h0:0<=t.2.2)(h4:t.2.2<4):t∈fN (h.map hP)↔(t.1,t.2.1)∈h.map hP:=by rw[<- zV h0 h4,aV];unfold d5;rw[fQ]
theorem FI{h:List Nat}{t:T3}(h0:0<=t.2.2)(h4:t.2.2<4)(m:(t.1,t.2.1)∈h.map hP):aN (d5 h) t=some (e9 h t):=by unfold d5;rw[j2,ag ((AR h0 h4).mpr m)]
theorem yC{h:List Nat}(hh:∀r∈h,okR r){r s:Nat}(hr:r∈h)(hs:s<4):aK (hP r) s∈h.map hP↔beyond r s∈h:=by
 constructor
 ·intro q;obtain⟨x,hx,e⟩:=ar.mp q;exact((oS hh (hh r hr) (hh x hx) hs).mp e)▸hx
 ·intro q;exact ar.mpr ⟨_,q,(oS hh (hh r hr) (hh _ q) hs).mpr rfl⟩
section
variable {hs:List Pl}
theorem F1:∀{k:Nat}{p:Pl},p∈aP hs (k+1)->p∈aP hs k:=fun h=>(cg.mp h).1
theorem z5{p:Pl}:∀{k m:Nat},k<=m->p∈aP hs m->p∈aP hs k:=by
 intro k m hkm h;induction m with
 |zero=>rw[show k=0 by omega];exact h
 |succ m ih=>
  by_cases c:k=m+1
  ·rw[c];exact h
  ·exact ih (by omega) (F1 h)
theorem vN:∀(k:Nat)(p:Pl),p∈aP hs k↔∀dx dy:Int,-(k:Int)<=dx->dx<=k->-(k:Int)<=dy->dy<=k->(p.1+dx,p.2+dy)∈hs
 |0,p=>by
  constructor
  ·intro h dx dy a b c d;have e1:dx=0:=by omega
   have e2:dy=0:=by omega
   subst e1 e2;have:(p.1+0,p.2+0)=p:=by simp
   rw[this];exact h
  ·intro h;have:=h 0 0 (by omega) (by omega) (by omega) (by omega);have e:(p.1+0,p.2+0)=p:=by simp
   rw[e]at this;exact this
 |k+1,p=>by
  have ih:=vN k;show p∈(aP hs k).filter _↔ _
  rw[cg];simp only[ij,ja];constructor
  ·rintro⟨h0,h8⟩ dx dy a b c d;have near:∀sx sy:Int,(-1<=sx/\sx<=1)->(-1<=sy/\sy<=1)->(p.1+sx,p.2+sy)∈aP hs k:=by
    intro sx sy hx hy;have cx:sx=-1\/sx=0\/sx=1:=by omega
    have cy:sy=-1\/sy=0\/sy=1:=by omega
    rcases cx with rfl|rfl|rfl<;>rcases cy with rfl|rfl|rfl
    ·exact h8 _ (by simp[cP])
    ·exact h8 _ (by simp[cP])
    ·exact h8 _ (by simp[cP])
    ·exact h8 _ (by simp[cP])
    ·have:(p.1+0,p.2+0)=p:=by simp
     rw[this];exact h0
    ·exact h8 _ (by simp[cP])
    ·exact h8 _ (by simp[cP])
    ·exact h8 _ (by simp[cP])
    ·exact h8 _ (by simp[cP])
   obtain⟨sx,hx,x1,x2⟩:∃sx:Int,(-1<=sx/\sx<=1)/\-(k:Int)<=dx - sx/\dx - sx<=k:=by
    by_cases c1:dx=(k:Int)+1
    ·exact⟨1,by omega,by omega,by omega⟩
    ·by_cases c2:dx=-((k:Int)+1)
     ·exact⟨-1,by omega,by omega,by omega⟩
     ·exact⟨0,by omega,by omega,by omega⟩
   obtain⟨sy,hy,y1,y2⟩:∃sy:Int,(-1<=sy/\sy<=1)/\-(k:Int)<=dy - sy/\dy - sy<=k:=by
    by_cases c1:dy=(k:Int)+1
    ·exact⟨1,by omega,by omega,by omega⟩
    ·by_cases c2:dy=-((k:Int)+1)
     ·exact⟨-1,by omega,by omega,by omega⟩
     ·exact⟨0,by omega,by omega,by omega⟩
   have:=(ih _).mp (near sx sy hx hy) (dx - sx) (dy - sy) x1 x2 y1 y2;have e:(p.1+sx+(dx - sx),p.2+sy+(dy - sy))=(p.1+dx,p.2+dy):=by
    apply Prod.ext
    ·show p.1+sx+(dx - sx)=p.1+dx;omega
    ·show p.2+sy+(dy - sy)=p.2+dy;omega
   rw[e]at this;exact this
  ·intro h;have sub:∀sx sy:Int,(-1<=sx/\sx<=1)->(-1<=sy/\sy<=1)->(p.1+sx,p.2+sy)∈aP hs k:=by
    intro sx sy hx hy;refine(ih _).mpr fun dx dy a b c d=>?_
    have:=h (sx+dx) (sy+dy) (by omega) (by omega) (by omega) (by omega);have e:(p.1+sx+dx,p.2+sy+dy)=(p.1+(sx+dx),p.2+(sy+dy)):=by rw[Int.add_assoc,Int.add_assoc]
    show(p.1+sx+dx,p.2+sy+dy)∈hs
    rw[e];exact this
   refine⟨?_,fun q hq=>?_⟩
   ·have:=sub 0 0 (by omega) (by omega);have e:(p.1+0,p.2+0)=p:=by simp
    rw[e]at this;exact this
   ·simp only[cP,ak,fo,or_false]at hq;rcases hq with rfl|rfl|rfl|rfl|rfl|rfl|rfl|rfl<;>exact sub _ _ (by omega) (by omega)
theorem DQ:∀(n k:Nat)(p:Pl),k<n->((k:Int)<=gD hs n p↔p∈aP hs k)
 |0,k,p,h=>by omega
 |n+1,k,p,h=>by
  show(k:Int)<=(if p∈aP hs n then(n:Int)else gD hs n p)↔ _
  by_cases c:p∈aP hs n
  ·rw[ag c];exact⟨fun _=>z5 (by omega) c,fun _=>by omega⟩
  ·rw[af c];by_cases e:k=n
   ·subst e;refine⟨fun q=>?_,fun q=>absurd q c⟩;exfalso;have:∀m:Nat,gD hs m p<m:=by
     intro m;induction m with
     |zero=>show(-1:Int)<0;decide
     |succ m ih=>
      show(if p∈aP hs m then(m:Int)else gD hs m p)< _
      split<;>omega
    have:=this k;omega
   ·exact DQ n k p (by omega)
theorem xR(p:Pl):∀m:Nat,-1<=gD hs m p/\gD hs m p<m
 |0=>⟨by show(-1:Int)<=-1;decide,by show(-1:Int)<0;decide⟩
 |m+1=>by
  have ih:=xR p m;show -1<=(if p∈aP hs m then(m:Int)else gD hs m p)/\(if p∈aP hs m then(m:Int)else gD hs m p)< _
  split<;>omega
end
section
variable {h:List Nat} (hh:∀r∈h,okR r)
include hh
theorem CB(k:Nat)(p:Pl):(k:Int)<=aR h p↔∀dx dy:Int,-(k:Int)<=dx->dx<=k->-(k:Int)<=dy->dy<=k->(p.1+dx,p.2+dy)∈h.map hP:=by
 rw[<- vN];unfold aR;by_cases c:p∈h.map hP
 ·rw[ag c];by_cases ck:k<64
  ·exact DQ 64 k p ck
  ·constructor
   ·intro q;have:=(xR (hs:=h.map hP) p 64).2;omega
   ·intro q;rw[dE hh,eS hh (by omega)]at q;cases q
 ·rw[af c];constructor
  ·intro q;omega
  ·intro q;exact absurd (z5 (k:=0) (cv _) q) c
theorem tX(p:Pl):-1<=aR h p/\aR h p<64:=by
 unfold aR;split
 ·exact xR p 64
 ·omega
theorem jL(p:Pl):0<=aR h p↔p∈h.map hP:=by
 have:=CB hh 0 p;rw[show((0:Nat):Int)=0 from rfl]at this;rw[this];constructor
 ·intro q;have:=q 0 0 (by omega) (by omega) (by omega) (by omega);have e:(p.1+0,p.2+0)=p:=by simp
  rwa [e]at this
 ·intro q dx dy a b c d;have e1:dx=0:=by omega
  have e2:dy=0:=by omega
  subst e1 e2;have e:(p.1+0,p.2+0)=p:=by simp
  rw[e];exact q
theorem lW{p:Pl}{k:Int}(h1:aR h p<k)(h0:0<=k):∃q:Pl,q∉h.map hP/\-k<=q.1 - p.1/\q.1 - p.1<=k/\-k<=q.2 - p.2/\q.2 - p.2<=k:=by
 obtain⟨n,rfl⟩:∃n:Nat,k=n:=⟨k.toNat,by omega⟩
 have:=(not_congr (CB hh n p)).mp (by omega);apply Classical.byContradiction;intro c;apply this;intro dx dy a b e f;apply Classical.byContradiction;intro g;exact c ⟨_,g,by simp;omega,by simp;omega,by simp;omega,by simp;omega⟩
theorem fG{p q:Pl}{k:Int}(hq:q∉h.map hP)(a:-k<=q.1 - p.1)(b:q.1 - p.1<=k)(c:-k<=q.2 - p.2)(d:q.2 - p.2<=k):aR h p<k:=by
 apply Classical.byContradiction;intro g;obtain⟨n,rfl⟩:∃n:Nat,k=n:=⟨k.toNat,by omega⟩
 have:=(CB hh n p).mp (by omega) (q.1 - p.1) (q.2 - p.2) a b c d;have e:(p.1+(q.1 - p.1),p.2+(q.2 - p.2))=q:=by
  apply Prod.ext
  ·show p.1+(q.1 - p.1)=q.1;omega
  ·show p.2+(q.2 - p.2)=q.2;omega
 rw[e]at this;exact hq this
end
theorem pV{l:Cells}(hb:∀c∈l,c.1<64/\c.2<64)(q:Pl):q∈(halvesOf l).map hP↔(q.1/2,q.2/2)∈iW l:=by
 have e:q∈(halvesOf l).map hP↔q∈eV (iW l):=by
  rw[vA hb,ar,ar];constructor
  ·rintro⟨r,hr,z⟩;exact⟨r,mP.mp hr,z⟩
  ·rintro⟨r,hr,z⟩;exact⟨r,mP.mpr hr,z⟩
 rw[e];unfold eV;rw[bw];constructor
 ·rintro⟨c,hc,hq⟩;have:(q.1/2,q.2/2)=c:=by simp only[ak,fo,or_false]at hq;rcases hq with rfl|rfl|rfl|rfl<;>(apply Prod.ext<;>(dsimp only;omega))
  rw[this];exact hc
 ·intro hc;refine⟨_,hc,?_⟩;simp only[ak,fo,or_false,Prod.ext_iff];omega
section
variable {l:Cells} (hb:∀c∈l,c.1<64/\c.2<64)
include hb
theorem HZ{q:Pl}(h:q∉ (halvesOf l).map hP)(x:Int)(e:x/2=q.1/2):(x,q.2)∉ (halvesOf l).map hP:=by rw[pV hb]at h ⊢;dsimp only;rw[e];exact h
theorem HY{q:Pl}(h:q∉ (halvesOf l).map hP)(y:Int)(e:y/2=q.2/2):(q.1,y)∉ (halvesOf l).map hP:=by rw[pV hb]at h ⊢;dsimp only;rw[e];exact h
abbrev nb(l:Cells)(p:Pl)(dx dy:Int):Int:=aR (halvesOf l) (p.1+dx,p.2+dy)
variable {p:Pl}
theorem MF{d:Int}{dx dy:Int}(h:nb l p dx dy<d)(h0:0<=d):∃q:Pl,q∉ (halvesOf l).map hP/\-d<=q.1 - p.1 - dx/\q.1 - p.1 - dx<=d/\-d<=q.2 - p.2 - dy/\q.2 - p.2 - dy<=d:=by obtain⟨q,h1,h2,h3,h4,h5⟩:=lW (aO hb) (p:=(p.1+dx,p.2+dy)) h h0;dsimp only at h2 h3 h4 h5;exact⟨q,h1,by omega,by omega,by omega,by omega⟩
theorem RZ(dx dy:Int)(hx:-1<=dx/\dx<=1)(hy:-1<=dy/\dy<=1):aR (halvesOf l) p - 1<=nb l p dx dy:=by apply Classical.byContradiction;intro c;have lo:=(tX (aO hb) (p.1+dx,p.2+dy)).1;obtain⟨q,h1,h2,h3,h4,h5⟩:=MF hb (p:=p) (d:=aR (halvesOf l) p - 1) (dx:=dx) (dy:=dy) (by omega) (by have:nb l p dx dy=aR (halvesOf l) (p.1+dx,p.2+dy):=rfl;omega);have:=fG (aO hb) (p:=p) (k:=aR (halvesOf l) p) h1 (by omega) (by omega) (by omega) (by omega);omega
theorem MX{u:Pl}{d:Int}(h0:0<=d)(ki:d<=aR (halvesOf l) u)(out:aR (halvesOf l) (u.1+-1,u.2)<d):(u.1 - d - 1)%2=1:=by
 obtain⟨q,h1,h2,h3,h4,h5⟩:=lW (aO hb) out h0;dsimp only at h2 h3 h4 h5;have no:∀x,-d<=x - u.1->(x,q.2)∉ (halvesOf l).map hP->x - u.1<=d->False:=fun x a m b=>ej.mpr ki (fG (aO hb) (p:=u) (k:=d) m a b h4 h5)
 apply Classical.byContradiction;intro c;have ex:q.1 - u.1< -d:=iq.mp fun a=>no q.1 a h1 (by omega)
 exact no (q.1+1) (by omega) (HZ hb h1 _ (by omega)) (by omega)
theorem N5{u:Pl}{d:Int}(h0:0<=d)(ki:d<=aR (halvesOf l) u)(out:aR (halvesOf l) (u.1+1,u.2)<d):(u.1+d+1)%2=0:=by
 obtain⟨q,h1,h2,h3,h4,h5⟩:=lW (aO hb) out h0;dsimp only at h2 h3 h4 h5;have no:∀x,-d<=x - u.1->(x,q.2)∉ (halvesOf l).map hP->x - u.1<=d->False:=fun x a m b=>ej.mpr ki (fG (aO hb) (p:=u) (k:=d) m a b h4 h5)
 apply Classical.byContradiction;intro c;have ex:d<q.1 - u.1:=iq.mp fun a=>no q.1 (by omega) h1 a
 exact no (q.1 - 1) (by omega) (HZ hb h1 _ (by omega)) (by omega)
theorem MY{u:Pl}{d:Int}(h0:0<=d)(ki:d<=aR (halvesOf l) u)(out:aR (halvesOf l) (u.1,u.2+-1)<d):(u.2 - d - 1)%2=1:=by
 obtain⟨q,h1,h2,h3,h4,h5⟩:=lW (aO hb) out h0;dsimp only at h2 h3 h4 h5;have no:∀x,-d<=x - u.2->(q.1,x)∉ (halvesOf l).map hP->x - u.2<=d->False:=fun x a m b=>ej.mpr ki (fG (aO hb) (p:=u) (k:=d) m h2 h3 a b)
 apply Classical.byContradiction;intro c;have ex:q.2 - u.2< -d:=iq.mp fun a=>no q.2 a h1 (by omega)
 exact no (q.2+1) (by omega) (HY hb h1 _ (by omega)) (by omega)
theorem MZ{u:Pl}{d:Int}(h0:0<=d)(ki:d<=aR (halvesOf l) u)(out:aR (halvesOf l) (u.1,u.2+1)<d):(u.2+d+1)%2=0:=by
 obtain⟨q,h1,h2,h3,h4,h5⟩:=lW (aO hb) out h0;dsimp only at h2 h3 h4 h5;have no:∀x,-d<=x - u.2->(q.1,x)∉ (halvesOf l).map hP->x - u.2<=d->False:=fun x a m b=>ej.mpr ki (fG (aO hb) (p:=u) (k:=d) m h2 h3 a b)
 apply Classical.byContradiction;intro c;have ex:d<q.2 - u.2:=iq.mp fun a=>no q.2 (by omega) h1 a
 exact no (q.2 - 1) (by omega) (HY hb h1 _ (by omega)) (by omega)
omit hb in
theorem LB(x:Int):x+0=x:=Int.add_zero x
omit hb in
theorem oZ{x d:Int}(a:(x - d - 1)%2=1)(b:(x+d+1)%2=0):False:=by omega
theorem AZ{t d:Int}(h0:0<=d)(ki:d<=nb l p 0 t)(out:nb l p (-1) t<d):(p.1 - d - 1)%2=1:=MX hb (u:=(p.1,p.2+t)) h0 (by unfold nb at ki;rw[LB]at ki;exact ki) out
theorem B0{t d:Int}(h0:0<=d)(ki:d<=nb l p 0 t)(out:nb l p 1 t<d):(p.1+d+1)%2=0:=N5 hb (u:=(p.1,p.2+t)) h0 (by unfold nb at ki;rw[LB]at ki;exact ki) out
theorem GO{t d:Int}(h0:0<=d)(ki:d<=nb l p t 0)(out:nb l p t (-1)<d):(p.2 - d - 1)%2=1:=MY hb (u:=(p.1+t,p.2)) h0 (by unfold nb at ki;rw[LB p.2]at ki;exact ki) out
theorem GP{t d:Int}(h0:0<=d)(ki:d<=nb l p t 0)(out:nb l p t 1<d):(p.2+d+1)%2=0:=MZ hb (u:=(p.1+t,p.2)) h0 (by unfold nb at ki;rw[LB p.2]at ki;exact ki) out
theorem CU{sy:Int}(hs:-1<=sy/\sy<=1){d:Int}(h0:0<=d)(hp:d<=nb l p 0 0)(ze:d<=nb l p 0 sy)(hw:nb l p (-1) 0<d\/nb l p (-1) sy<d)(he:nb l p 1 0<d\/nb l p 1 sy<d):False:=
 oZ (hw.elim (AZ hb h0 hp) (AZ hb h0 ze)) (he.elim (B0 hb h0 hp) (B0 hb h0 ze))
theorem CT{sx:Int}(hs:-1<=sx/\sx<=1){d:Int}(h0:0<=d)(hp:d<=nb l p 0 0)(ze:d<=nb l p sx 0)(hw:nb l p 0 (-1)<d\/nb l p sx (-1)<d)(he:nb l p 0 1<d\/nb l p sx 1<d):False:=
 oZ (hw.elim (GO hb h0 hp) (GO hb h0 ze)) (he.elim (GP hb h0 hp) (GP hb h0 ze))
theorem LP{sy:Int}(hs:sy=1\/sy=-1){d:Int}(h0:0<=d)(hW:d<=nb l p (-1) 0)(hE:d<=nb l p 1 0)(hU:d<=nb l p 0 sy)(hD:d<=nb l p 0 (-sy))(h1:nb l p (-1) (-sy)<d)(h2:nb l p 1 sy<d):False:=
 oZ (AZ hb h0 hD h1) (B0 hb h0 hU h2)
theorem EJ(hp:p∈(halvesOf l).map hP):∃dx dy:Int,(-1<=dx/\dx<=1)/\(-1<=dy/\dy<=1)/\nb l p dx dy<aR (halvesOf l) p:=by
 have d0:=(jL (aO hb) p).mpr hp;obtain⟨q,h1,h2,h3,h4,h5⟩:=lW (aO hb) (p:=p) (k:=aR (halvesOf l) p+1) (by omega) (by omega);obtain⟨dx,hx,x1,x2⟩:∃dx:Int,(-1<=dx/\dx<=1)/\-aR (halvesOf l) p<=q.1 - p.1 - dx/\q.1 - p.1 - dx<=aR (halvesOf l) p:=by
  by_cases c1:q.1 - p.1=aR (halvesOf l) p+1
  ·exact⟨1,by omega,by omega,by omega⟩
  ·by_cases c2:q.1 - p.1=-(aR (halvesOf l) p+1)
   ·exact⟨-1,by omega,by omega,by omega⟩
   ·exact⟨0,by omega,by omega,by omega⟩
 obtain⟨dy,hy,y1,y2⟩:∃dy:Int,(-1<=dy/\dy<=1)/\-aR (halvesOf l) p<=q.2 - p.2 - dy/\q.2 - p.2 - dy<=aR (halvesOf l) p:=by
  by_cases c1:q.2 - p.2=aR (halvesOf l) p+1
  ·exact⟨1,by omega,by omega,by omega⟩
  ·by_cases c2:q.2 - p.2=-(aR (halvesOf l) p+1)
   ·exact⟨-1,by omega,by omega,by omega⟩
   ·exact⟨0,by omega,by omega,by omega⟩
 refine⟨dx,dy,hx,hy,?_⟩;exact fG (aO hb) (p:=(p.1+dx,p.2+dy)) h1 (by dsimp only;omega) (by dsimp only;omega) (by dsimp only;omega) (by dsimp only;omega)
end
section
variable {l:Cells} (hb:∀c∈l,c.1<64/\c.2<64)
include hb
omit hb in
theorem BI(x y:Int):min x y=x\/min x y=y:=(Int.le_total x y).imp Int.min_eq_left Int.min_eq_right
theorem nU{r c:Nat}(hr:r∈halvesOf l):∀{a b d e:Int},cS (halvesOf l) (aB (hP r) c)=[a,b,d,e]->hgt (halvesOf l) (aB (hP r) c)=min (min a b) (min d e):=by
 intro a b d e h;refine(DI (aO hb) hr ?_ ?_).symm
 ·rw[h];simp only[ak,fo,or_false];rcases BI (min a b) (min d e)with q|q
  ·rw[q];exact(BI a b).elim .inl fun q=>.inr (.inl q)
  ·rw[q];exact(BI d e).elim (fun q=>.inr (.inr (.inl q))) fun q=>.inr (.inr (.inr q))
 ·rw[h];intro x hx;simp only[ak,fo,or_false]at hx;rcases hx with rfl|rfl|rfl|rfl
  ·exact iy (ia _ _) (ia _ _)
  ·exact iy (ia _ _) (gu _ _)
  ·exact iy (gu _ _) (ia _ _)
  ·exact iy (gu _ _) (gu _ _)
theorem CD{r:Nat}(hr:r∈halvesOf l):∃d,aR (halvesOf l) (hP r)=d/\0<=d/\d<64/\nb l (hP r) 0 0=d/\(∀dx dy:Int,(-1<=dx/\dx<=1)->(-1<=dy/\dy<=1)->d - 1<=nb l (hP r) dx dy)/\
  hgt (halvesOf l) (aB (hP r) 0)=min (min (nb l (hP r) (-1) (-1)+1) (nb l (hP r) 0 (-1)+1)) (min (nb l (hP r) (-1) 0+1) (d+1))/\
  hgt (halvesOf l) (aB (hP r) 1)=min (min (nb l (hP r) 0 (-1)+1) (nb l (hP r) 1 (-1)+1)) (min (d+1) (nb l (hP r) 1 0+1))/\
  hgt (halvesOf l) (aB (hP r) 2)=min (min (d+1) (nb l (hP r) 1 0+1)) (min (nb l (hP r) 0 1+1) (nb l (hP r) 1 1+1))/\
  hgt (halvesOf l) (aB (hP r) 3)=min (min (nb l (hP r) (-1) 0+1) (d+1)) (min (nb l (hP r) (-1) 1+1) (nb l (hP r) 0 1+1)):=by
 have e0:nb l (hP r) 0 0=aR (halvesOf l) (hP r):=by
  show aR _ ((hP r).1+0,(hP r).2+0)=_
  simp
 have m:=(tX (aO hb) (hP r)).2;have i0:=(jL (aO hb) (hP r)).mpr (ar.mpr ⟨r,hr,rfl⟩);refine⟨_,rfl,i0,m,e0,fun dx dy hx hy=>RZ hb dx dy hx hy,?_,?_,?_,?_⟩
 ·refine nU hb hr ?_;unfold cS nb;have c0:aB (hP r) 0=((hP r).1,(hP r).2):=by unfold aB;simp
  rw[c0];simp
 ·refine nU hb hr ?_;unfold cS nb;have c0:aB (hP r) 1=((hP r).1+1,(hP r).2):=by unfold aB;simp
  rw[c0];simp[jk]
 ·refine nU hb hr ?_;unfold cS nb;have c0:aB (hP r) 2=((hP r).1+1,(hP r).2+1):=by unfold aB;simp
  rw[c0];simp[jk]
 ·refine nU hb hr ?_;unfold cS nb;have c0:aB (hP r) 3=((hP r).1,(hP r).2+1):=by unfold aB;simp
  rw[c0];simp[jk]
noncomputable def c6(l:Cells)(p:Pl)(c:Nat):Prop:=hgt (halvesOf l) (aB p c)=aR (halvesOf l) p
omit hb in
theorem S3(a b c d:Int):min (min a b) (min c d)=min (min a c) (min d b):=by rw[min_assoc,min_assoc,min_comm b,min_assoc]
omit hb in
theorem WZ(a b c d:Int):min (min a b) (min c d)=min (min a c) (min d b):=S3 a b c d
omit hb in
theorem oA{a b c d:Int}(ha:d - 1<=a)(hc:d - 1<=b)(hd:d - 1<=c){x:Int}(e:x=min (min (a+1) (b+1)) (min (c+1) (d+1))):(x=d↔(a<d\/b<d\/c<d))/\(x=d\/x=d+1):=by
 have l1:x<=a+1:=e▸iy (ia _ _) (ia _ _);have l2:x<=b+1:=e▸iy (ia _ _) (gu _ _);have l3:x<=c+1:=e▸iy (gu _ _) (ia _ _);have l4:x<=d+1:=e▸iy (gu _ _) (gu _ _);have g:d<=x:=e▸le_min.mpr ⟨le_min.mpr ⟨jc ha,jc hc⟩,le_min.mpr ⟨jc hd,Int.le_of_lt (Int.lt_add_one_iff.mpr (le_refl d))⟩⟩;have two:x=d\/x=d+1:=by omega
 have big:¬(a<d\/b<d\/c<d)->x=d+1:=fun n=>by
  have na:d<=a:=ej.mp fun z=>n (.inl z)
  have nb:d<=b:=ej.mp fun z=>n (.inr (.inl z))
  have nc:d<=c:=ej.mp fun z=>n (.inr (.inr z))
  exact Int.le_antisymm l4 (e▸le_min.mpr ⟨le_min.mpr ⟨Int.add_le_add_right na 1,Int.add_le_add_right nb 1⟩,le_min.mpr ⟨Int.add_le_add_right nc 1,le_refl _⟩⟩)
 refine⟨⟨fun q=>?_,fun q=>?_⟩,two⟩
 ·apply Classical.byContradiction;intro n;have:=big n;omega
 ·rcases q with q|q|q<;>omega
omit hb in
theorem hJ{d x:Int}(h:d - 1<=x)(g:x<d):x=d - 1:=by omega
theorem lM{r:Nat}(hr:r∈halvesOf l):∃d,aR (halvesOf l) (hP r)=d/\0<=d/\d<64/\nb l (hP r) 0 0=d/\(∀dx dy:Int,(-1<=dx/\dx<=1)->(-1<=dy/\dy<=1)->d - 1<=nb l (hP r) dx dy)/\
  (c6 l (hP r) 0↔(nb l (hP r) (-1) (-1)<d\/nb l (hP r) 0 (-1)<d\/nb l (hP r) (-1) 0<d))/\(c6 l (hP r) 1↔(nb l (hP r) 0 (-1)<d\/nb l (hP r) 1 (-1)<d\/nb l (hP r) 1 0<d))/\
  (c6 l (hP r) 2↔(nb l (hP r) 1 0<d\/nb l (hP r) 0 1<d\/nb l (hP r) 1 1<d))/\(c6 l (hP r) 3↔(nb l (hP r) (-1) 0<d\/nb l (hP r) (-1) 1<d\/nb l (hP r) 0 1<d))/\
  (∀c,c<4->hgt (halvesOf l) (aB (hP r) c)=d\/hgt (halvesOf l) (aB (hP r) c)=d+1):=by
 obtain⟨d,ed,d0,Ag,e0,ge,g0,g1,g2,g3⟩:=CD hb hr;have f0:=oA (ge (-1) (-1) (by decide) (by decide)) (ge 0 (-1) (by decide) (by decide)) (ge (-1) 0 (by decide) (by decide)) g0;have f1:=oA (ge 0 (-1) (by decide) (by decide)) (ge 1 (-1) (by decide) (by decide)) (ge 1 0 (by decide) (by decide)) (g1.trans (by rw[min_comm (d+1)]));have f2:=oA (ge 1 0 (by decide) (by decide)) (ge 0 1 (by decide) (by decide)) (ge 1 1 (by decide) (by decide)) (x:=hgt (halvesOf l) (aB (hP r) 2)) (by rw[g2,min_comm (d+1),S3]);have f3:=oA (ge (-1) 0 (by decide) (by decide)) (ge (-1) 1 (by decide) (by decide)) (ge 0 1 (by decide) (by decide)) (x:=hgt (halvesOf l) (aB (hP r) 3)) (by rw[g3,WZ]);unfold c6;rw[ed];refine⟨d,rfl,d0,Ag,e0,ge,f0.1,f1.1,f2.1,f3.1,fun c hc=>?_⟩;have cs:c=0\/c=1\/c=2\/c=3:=by clear g0 g1 g2 g3 f0 f1 f2 f3 ge;omega
 rcases cs with rfl|rfl|rfl|rfl
 ·exact f0.2
 ·exact f1.2
 ·exact f2.2
 ·exact f3.2
theorem IB{r s:Nat}(hr:r∈halvesOf l)(hs:s<4)(h1:c6 l (hP r) s)(h2:c6 l (hP r) ((s+1)%4)):aR (halvesOf l) (aK (hP r) s)=aR (halvesOf l) (hP r) - 1:=by
 obtain⟨d,ed,d0,Ag,e0,ge,l0,l1,l2,l3,_⟩:=lM hb hr;rw[ed];have cs:s=0\/s=1\/s=2\/s=3:=by clear l0 l1 l2 l3 ge;omega
 have e0':d<=nb l (hP r) 0 0:=Int.le_of_eq e0.symm;rcases cs with rfl|rfl|rfl|rfl
 ·rw[l0]at h1;rw[l1]at h2;have e:aK (hP r) 0=((hP r).1+0,(hP r).2+-1):=by unfold aK;simp;rfl
  rw[e];rcases lt_or_le (nb l (hP r) 0 (-1)) d with c|c
  ·exact hJ (ge 0 (-1) (by decide) (by decide)) c
  ·refine(CU hb (sy:=-1) (by decide) d0 e0' c ?_ ?_).elim
   ·rcases h1 with h|h|h
    ·exact .inr h
    ·exact absurd c (iq.mpr h)
    ·exact .inl h
   ·rcases h2 with h|h|h
    ·exact absurd c (iq.mpr h)
    ·exact .inr h
    ·exact .inl h
 ·rw[l1]at h1;rw[l2]at h2;have e:aK (hP r) 1=((hP r).1+1,(hP r).2+0):=by unfold aK;simp
  rw[e];rcases lt_or_le (nb l (hP r) 1 0) d with c|c
  ·exact hJ (ge 1 0 (by decide) (by decide)) c
  ·refine(CT hb (sx:=1) (by decide) d0 e0' c ?_ ?_).elim
   ·rcases h1 with h|h|h
    ·exact .inl h
    ·exact .inr h
    ·exact absurd c (iq.mpr h)
   ·rcases h2 with h|h|h
    ·exact absurd c (iq.mpr h)
    ·exact .inl h
    ·exact .inr h
 ·rw[l2]at h1;rw[l3]at h2;have e:aK (hP r) 2=((hP r).1+0,(hP r).2+1):=by unfold aK;simp
  rw[e];rcases lt_or_le (nb l (hP r) 0 1) d with c|c
  ·exact hJ (ge 0 1 (by decide) (by decide)) c
  ·refine(CU hb (sy:=1) (by decide) d0 e0' c ?_ ?_).elim
   ·rcases h2 with h|h|h
    ·exact .inl h
    ·exact .inr h
    ·exact absurd c (iq.mpr h)
   ·rcases h1 with h|h|h
    ·exact .inl h
    ·exact absurd c (iq.mpr h)
    ·exact .inr h
 ·rw[l3]at h1;rw[show(3+1)%4=0 from rfl,l0]at h2;have e:aK (hP r) 3=((hP r).1+-1,(hP r).2+0):=by unfold aK;simp;rfl
  rw[e];rcases lt_or_le (nb l (hP r) (-1) 0) d with c|c
  ·exact hJ (ge (-1) 0 (by decide) (by decide)) c
  ·refine(CT hb (sx:=-1) (by decide) d0 e0' c ?_ ?_).elim
   ·rcases h2 with h|h|h
    ·exact .inr h
    ·exact .inl h
    ·exact absurd c (iq.mpr h)
   ·rcases h1 with h|h|h
    ·exact absurd c (iq.mpr h)
    ·exact .inr h
    ·exact .inl h
end
noncomputable def fR(h:List Nat)(p:Pl):Option Nat:=
 match[decide (hgt h (aB p 0)=aR h p),decide (hgt h (aB p 1)=aR h p),decide (hgt h (aB p 2)=aR h p),decide (hgt h (aB p 3)=aR h p)]with
 |[true,false,false,false]=>some 0
 |[false,true,false,false]=>some 1
 |[false,false,true,false]=>some 2
 |[false,false,false,true]=>some 3
 |_=>none
theorem K7:∀b0 b1 b2 b3:Bool,(([!b0,!b1,!b2,!b3].countP fun(c:Bool)=>c)==3)=(([b0,b1,b2,b3].countP fun(c:Bool)=>c)==1):=by decide
theorem ID:∀b0 b1 b2 b3:Bool,(([b0,b1,b2,b3].countP fun(c:Bool)=>c)==1)=true->(match[b0,b1,b2,b3]with
 |[true,false,false,false]=>some 0
 |[false,true,false,false]=>some 1
 |[false,false,true,false]=>some 2
 |[false,false,false,true]=>some 3
 |_=>none)=some ([!b0,!b1,!b2,!b3].findIdx fun(c:Bool)=>!c):=by decide
theorem IC:∀b0 b1 b2 b3:Bool,(([b0,b1,b2,b3].countP fun(c:Bool)=>c)==1)=false->(match[b0,b1,b2,b3]with
 |[true,false,false,false]=>some 0
 |[false,true,false,false]=>some 1
 |[false,false,true,false]=>some 2
 |[false,false,false,true]=>some 3
 |_=>none)=none:=by decide
section
variable {l:Cells} (hb:∀c∈l,c.1<64/\c.2<64)
include hb
theorem KJ{r:Nat}(hr:r∈halvesOf l):(topOf l).high r=[!decide (hgt (halvesOf l) (aB (hP r) 0)=aR (halvesOf l) (hP r)),!decide (hgt (halvesOf l) (aB (hP r) 1)=aR (halvesOf l) (hP r)),!decide (hgt (halvesOf l) (aB (hP r) 2)=aR (halvesOf l) (hP r)),!decide (hgt (halvesOf l) (aB (hP r) 3)=aR (halvesOf l) (hP r))]:=by
 obtain⟨d,ed,d0,Ag,e0,ge,l0,l1,l2,l3,two⟩:=lM hb hr;have ev:=vZ (aO hb) hr;have key:∀c,c<4->(heightOf (gridOf (halvesOf l)) r c==(gridOf (halvesOf l)).val r)=!decide (hgt (halvesOf l) (aB (hP r) c)=aR (halvesOf l) (hP r)):=by
  intro c hc;have tw:=two c hc;have eh:hgt (halvesOf l) (aB (hP r) c)=(heightOf (gridOf (halvesOf l)) r c:Int):=by rw[fH,pT];rfl
  rw[ed]at ev ⊢;rw[eh]at tw ⊢;clear l0 l1 l2 l3 ge two;rw[di];simp only[beq_iff_eq,ie,decide_eq_false_iff_not];omega
 show[heightOf (gridOf (halvesOf l)) r 0==(gridOf (halvesOf l)).val r,heightOf (gridOf (halvesOf l)) r 1==(gridOf (halvesOf l)).val r,heightOf (gridOf (halvesOf l)) r 2==(gridOf (halvesOf l)).val r,heightOf (gridOf (halvesOf l)) r 3==(gridOf (halvesOf l)).val r]=_
 rw[key 0 (by decide),key 1 (by decide),key 2 (by decide),key 3 (by decide)]
theorem uU{r:Nat}(hr:r∈halvesOf l):(if(topOf l).valley r=true then some (((topOf l).high r).findIdx fun(c:Bool)=>!c)else none)=fR (halvesOf l) (hP r):=by
 unfold Top.valley fR;rw[KJ hb hr,K7];generalize decide (hgt (halvesOf l) (aB (hP r) 0)=aR (halvesOf l) (hP r))=b0;generalize decide (hgt (halvesOf l) (aB (hP r) 1)=aR (halvesOf l) (hP r))=b1;generalize decide (hgt (halvesOf l) (aB (hP r) 2)=aR (halvesOf l) (hP r))=b2;generalize decide (hgt (halvesOf l) (aB (hP r) 3)=aR (halvesOf l) (hP r))=b3;cases e:(([b0,b1,b2,b3].countP fun(c:Bool)=>c)==1)with
 |true=>rw[ag rfl];exact(ID b0 b1 b2 b3 e).symm
 |false=>rw[af bo];exact(IC b0 b1 b2 b3 e).symm
end
noncomputable def bAt(b0 b1 b2 b3:Bool)(c:Nat):Bool:=if c%4=0 then b0 else if c%4=1 then b1 else if c%4=2 then b2 else b3
noncomputable def zX(b0 b1 b2 b3:Bool)(s:Nat):Nat:=if(bAt b0 b1 b2 b3 s&& bAt b0 b1 b2 b3 (s+1))=true then s else if bAt b0 b1 b2 b3 (s+1)=true then(s+1)%4 else if bAt b0 b1 b2 b3 s=true then(s+3)%4 else(s+2)%4
instance (l:Cells) (p:Pl) (c:Nat):Decidable (c6 l p c):=by unfold c6;infer_instance
section
variable {l:Cells} (hb:∀c∈l,c.1<64/\c.2<64)
include hb
theorem GL{r:Nat}(hr:r∈halvesOf l):c6 l (hP r) 0\/c6 l (hP r) 1\/c6 l (hP r) 2\/c6 l (hP r) 3:=by
 obtain⟨d,ed,d0,Ag,e0,ge,l0,l1,l2,l3,_⟩:=lM hb hr;obtain⟨dx,dy,hx,hy,h⟩:=EJ hb (p:=hP r) (ar.mpr ⟨r,hr,rfl⟩);rw[ed]at h;have cx:dx=-1\/dx=0\/dx=1:=by clear l0 l1 l2 l3 ge h;omega
 have cy:dy=-1\/dy=0\/dy=1:=by clear l0 l1 l2 l3 ge h;omega
 rcases cx with rfl|rfl|rfl<;>rcases cy with rfl|rfl|rfl
 ·exact .inl (l0.mpr (.inl h))
 ·exact .inl (l0.mpr (.inr (.inr h)))
 ·exact .inr (.inr (.inr (l3.mpr (.inr (.inl h)))))
 ·exact .inl (l0.mpr (.inr (.inl h)))
 ·exact absurd h (ej.mpr (Int.le_of_eq e0.symm))
 ·exact .inr (.inr (.inl (l2.mpr (.inr (.inl h)))))
 ·exact .inr (.inl (l1.mpr (.inr (.inl h))))
 ·exact .inr (.inl (l1.mpr (.inr (.inr h))))
 ·exact .inr (.inr (.inl (l2.mpr (.inr (.inr h)))))
theorem HW{r:Nat}(hr:r∈halvesOf l):¬(c6 l (hP r) 0/\c6 l (hP r) 2/\¬c6 l (hP r) 1/\¬c6 l (hP r) 3)/\¬(c6 l (hP r) 1/\c6 l (hP r) 3/\¬c6 l (hP r) 0/\¬c6 l (hP r) 2):=by
 obtain⟨d,ed,d0,Ag,e0,ge,l0,l1,l2,l3,_⟩:=lM hb hr;rw[l0,l1,l2,l3];constructor
 ·rintro⟨h0,h2,n1,n3⟩;have a1:d<=nb l (hP r) 0 (-1):=ej.mp fun z=>n1 (.inl z)
  have a2:d<=nb l (hP r) 1 0:=ej.mp fun z=>n1 (.inr (.inr z))
  have a3:d<=nb l (hP r) (-1) 0:=ej.mp fun z=>n3 (.inl z)
  have a4:d<=nb l (hP r) 0 1:=ej.mp fun z=>n3 (.inr (.inr z))
  have b0:nb l (hP r) (-1) (-1)<d:=by
   rcases h0 with h|h|h
   ·exact h
   ·exact absurd h (ej.mpr a1)
   ·exact absurd h (ej.mpr a3)
  have b2:nb l (hP r) 1 1<d:=by
   rcases h2 with h|h|h
   ·exact absurd h (ej.mpr a2)
   ·exact absurd h (ej.mpr a4)
   ·exact h
  exact LP hb (sy:=1) (.inl rfl) d0 a3 a2 a4 a1 b0 b2
 ·rintro⟨h1,h3,n0,n2⟩;have a1:d<=nb l (hP r) 0 (-1):=ej.mp fun z=>n0 (.inr (.inl z))
  have a2:d<=nb l (hP r) 1 0:=ej.mp fun z=>n2 (.inl z)
  have a3:d<=nb l (hP r) (-1) 0:=ej.mp fun z=>n0 (.inr (.inr z))
  have a4:d<=nb l (hP r) 0 1:=ej.mp fun z=>n2 (.inr (.inl z))
  have b1:nb l (hP r) 1 (-1)<d:=by
   rcases h1 with h|h|h
   ·exact absurd h (ej.mpr a1)
   ·exact h
   ·exact absurd h (ej.mpr a2)
  have b3:nb l (hP r) (-1) 1<d:=by
   rcases h3 with h|h|h
   ·exact absurd h (ej.mpr a3)
   ·exact h
   ·exact absurd h (ej.mpr a4)
  exact LP hb (sy:=-1) (.inr rfl) d0 a3 a2 a1 a4 b3 b1
noncomputable def okF(b0 b1 b2 b3:Bool):Bool:=(b0||b1||b2||b3)&& (!(b0&& b2&& !b1&& !b3)&& (!(b1&& b3&& !b0&& !b2)&& (match[b0,b1,b2,b3]with
 |[true,false,false,false]=>some 0
 |[false,true,false,false]=>some 1
 |[false,false,true,false]=>some 2
 |[false,false,false,true]=>some 3
 |_=>(none:Option Nat))==none))
omit hb in
theorem KR:∀(s:Fin 4)(b0 b1 b2 b3:Bool),okF b0 b1 b2 b3=true->bAt b0 b1 b2 b3 (zX b0 b1 b2 b3 s.1)=true/\bAt b0 b1 b2 b3 ((zX b0 b1 b2 b3 s.1+1)%4)=true/\zX b0 b1 b2 b3 s.1<4:=by decide+kernel
omit hb in
theorem KU(b0 b1 b2 b3:Bool){s:Nat}(hs:s<4)(h1:(b0||b1||b2||b3)=true)(h2:(b0&& b2&& !b1&& !b3)=false)(h3:(b1&& b3&& !b0&& !b2)=false) (h4:(match[b0,b1,b2,b3]with
 |[true,false,false,false]=>some 0
 |[false,true,false,false]=>some 1
 |[false,false,true,false]=>some 2
 |[false,false,false,true]=>some 3
 |_=>(none:Option Nat))=none):bAt b0 b1 b2 b3 (zX b0 b1 b2 b3 s)=true/\bAt b0 b1 b2 b3 ((zX b0 b1 b2 b3 s+1)%4)=true/\zX b0 b1 b2 b3 s<4:=KR ⟨s,hs⟩ b0 b1 b2 b3 (by unfold okF;rw[h1,h2,h3,h4];rfl)
theorem vV{r s:Nat}(hr:r∈halvesOf l)(hs:s<4)(hn:fR (halvesOf l) (hP r)=none):∃f:Nat,f<4/\e9 (halvesOf l) ((hP r).1,(hP r).2,(s:Int))=(f:Int)/\aR (halvesOf l) (aK (hP r) f)=aR (halvesOf l) (hP r) - 1:=by
 have sl:=GL hb hr;obtain⟨x1,x2⟩:=HW hb hr;have fe:e9 (halvesOf l) ((hP r).1,(hP r).2,(s:Int))=zW s (hgt (halvesOf l) (aB (hP r) s)) (hgt (halvesOf l) (aB (hP r) (s+1))) (aR (halvesOf l) (hP r)):=rfl;have at_:∀c,bAt (decide (c6 l (hP r) 0)) (decide (c6 l (hP r) 1)) (decide (c6 l (hP r) 2)) (decide (c6 l (hP r) 3)) c=decide (hgt (halvesOf l) (aB (hP r) c)=aR (halvesOf l) (hP r)):=by
  intro c;have m:aB (hP r) c=aB (hP r) (c%4):=by unfold aB;rw[mod_mod]
  rw[m];have cs:c%4=0\/c%4=1\/c%4=2\/c%4=3:=by clear sl x1 x2 fe m;omega
  unfold bAt;rcases cs with e|e|e|e<;>rw[e]<;>rfl
 have fb:zW s (hgt (halvesOf l) (aB (hP r) s)) (hgt (halvesOf l) (aB (hP r) (s+1))) (aR (halvesOf l) (hP r))=(zX (decide (c6 l (hP r) 0)) (decide (c6 l (hP r) 1)) (decide (c6 l (hP r) 2)) (decide (c6 l (hP r) 3)) s:Int):=by unfold zW zX;rw[at_ s,at_ (s+1)];by_cases a:hgt (halvesOf l) (aB (hP r) s)=aR (halvesOf l) (hP r)<;>by_cases b:hgt (halvesOf l) (aB (hP r) (s+1))=aR (halvesOf l) (hP r)<;>simp[a,b]
 have key:=KU (decide (c6 l (hP r) 0)) (decide (c6 l (hP r) 1)) (decide (c6 l (hP r) 2)) (decide (c6 l (hP r) 3)) hs (by rcases sl with h|h|h|h<;>simp[h])
  (by rw[ig];intro h;simp only[dk,decide_eq_true_eq,ie,decide_eq_false_iff_not]at h;exact x1 ⟨h.1.1.1,h.1.1.2,h.1.2,h.2⟩)
  (by rw[ig];intro h;simp only[dk,decide_eq_true_eq,ie,decide_eq_false_iff_not]at h;exact x2 ⟨h.1.1.1,h.1.1.2,h.1.2,h.2⟩) hn
 obtain⟨k1,k2,k3⟩:=key;rw[at_]at k1 k2;exact⟨_,k3,fe.trans fb,IB hb hr k3 (ay k1) (ay k2)⟩
end
noncomputable def bQ(p:Pl)(c:Nat):Pl:=(2*(aB p c).1 - 1 - p.1,2*(aB p c).2 - 1 - p.2)
noncomputable def rY(h:List Nat)(t:T3):List Int ⊕ T3:=
 match fR h (t.1,t.2.1)with
 |some c=>if hgt h (aB (t.1,t.2.1) c)=0 then .inl [1,(aB (t.1,t.2.1) c).1,(aB (t.1,t.2.1) c).2]else .inr ((bQ (t.1,t.2.1) c).1,(bQ (t.1,t.2.1) c).2,t.2.2)
 |none=>if aK (t.1,t.2.1) (e9 h t).toNat∈h.map hP then .inr ((aK (t.1,t.2.1) (e9 h t).toNat).1,(aK (t.1,t.2.1) (e9 h t).toNat).2,(e9 h t+2)%4)else .inl [0,t.1,t.2.1,e9 h t]
noncomputable def fY:End->List Int
 | .eave t=>[0,(iOf (t/4):Int),(jOf (t/4):Int),((t%4:Nat):Int)]
 | .corner p=>[1,(p.1:Int),(p.2:Int)]
theorem yX:∀b0 b1 b2 b3:Bool,∀c:Nat,(match[b0,b1,b2,b3]with
 |[true,false,false,false]=>some 0
 |[false,true,false,false]=>some 1
 |[false,false,true,false]=>some 2
 |[false,false,false,true]=>some 3
 |_=>(none:Option Nat))=some c->(c=0/\b0=true/\b1=false/\b3=false)\/(c=1/\b1=true/\b0=false/\b2=false)\/(c=2/\b2=true/\b1=false/\b3=false)\/(c=3/\b3=true/\b0=false/\b2=false):=by
 intro b0 b1 b2 b3 c h;cases b0<;>cases b1<;>cases b2<;>cases b3<;>first|(cases h;done)|(cases h;decide)
section
variable {l:Cells} (hb:∀c∈l,c.1<64/\c.2<64)
include hb
theorem lV{r c:Nat}(hr:r∈halvesOf l)(hc:fR (halvesOf l) (hP r)=some c):c<4/\c6 l (hP r) c/\aR (halvesOf l) (bQ (hP r) c)=aR (halvesOf l) (hP r) - 1:=by
 obtain⟨d,ed,d0,Ag,e0,ge,l0,l1,l2,l3,_⟩:=lM hb hr;rcases yX _ _ _ _ c hc with⟨rfl,k,n1,n2⟩|⟨rfl,k,n1,n2⟩|⟨rfl,k,n1,n2⟩|⟨rfl,k,n1,n2⟩
 ·have k:c6 l (hP r) 0:=ay k;have n1:¬c6 l (hP r) 1:=of_decide_eq_false n1;have n2:¬c6 l (hP r) 3:=of_decide_eq_false n2;refine⟨by decide,k,?_⟩;have e:bQ (hP r) 0=((hP r).1+-1,(hP r).2+-1):=by unfold bQ aB;simp;clear l0 l1 l2 l3 ge;omega
  rw[e,ed];rcases l0.mp k with h|h|h
  ·exact hJ (ge (-1) (-1) (by decide) (by decide)) h
  ·exact absurd (l1.mpr (.inl h)) n1
  ·exact absurd (l3.mpr (.inl h)) n2
 ·have k:c6 l (hP r) 1:=ay k;have n1:¬c6 l (hP r) 0:=of_decide_eq_false n1;have n2:¬c6 l (hP r) 2:=of_decide_eq_false n2;refine⟨by decide,k,?_⟩;have e:bQ (hP r) 1=((hP r).1+1,(hP r).2+-1):=by unfold bQ aB;simp;clear l0 l1 l2 l3 ge;omega
  rw[e,ed];rcases l1.mp k with h|h|h
  ·exact absurd (l0.mpr (.inr (.inl h))) n1
  ·exact hJ (ge 1 (-1) (by decide) (by decide)) h
  ·exact absurd (l2.mpr (.inl h)) n2
 ·have k:c6 l (hP r) 2:=ay k;have n1:¬c6 l (hP r) 1:=of_decide_eq_false n1;have n2:¬c6 l (hP r) 3:=of_decide_eq_false n2;refine⟨by decide,k,?_⟩;have e:bQ (hP r) 2=((hP r).1+1,(hP r).2+1):=by unfold bQ aB;simp;clear l0 l1 l2 l3 ge;omega
  rw[e,ed];rcases l2.mp k with h|h|h
  ·exact absurd (l1.mpr (.inr (.inr h))) n1
  ·exact absurd (l3.mpr (.inr (.inr h))) n2
  ·exact hJ (ge 1 1 (by decide) (by decide)) h
 ·have k:c6 l (hP r) 3:=ay k;have n1:¬c6 l (hP r) 0:=of_decide_eq_false n1;have n2:¬c6 l (hP r) 2:=of_decide_eq_false n2;refine⟨by decide,k,?_⟩;have e:bQ (hP r) 3=((hP r).1+-1,(hP r).2+1):=by unfold bQ aB;simp;clear l0 l1 l2 l3 ge;omega
  rw[e,ed];rcases l3.mp k with h|h|h
  ·exact absurd (l0.mpr (.inr (.inr h))) n1
  ·exact hJ (ge (-1) 1 (by decide) (by decide)) h
  ·exact absurd (l2.mpr (.inr (.inl h))) n2
omit hb in
theorem JF{r q c:Nat}(hr:okR r)(hq:okR q)(hc:c<4)(e:hP q=bQ (hP r) c):q=across r c:=by
 obtain⟨i,j,hi,hj,rfl⟩:=hr;obtain⟨i',j',qp,vd,rfl⟩:=hq;rw[cY hi,cY qp]at e;have cs:c=0\/c=1\/c=2\/c=3:=by omega
 rcases cs with rfl|rfl|rfl|rfl<;>simp[bQ,aB,across,raw,W,Prod.ext_iff]at e ⊢ <;>omega
theorem mI{t:Nat}(ht:t∈(topOf l).tris):match(topOf l).goesOn t with
  | .inl e=>rY (halvesOf l) (tP t)=.inl (fY e)
  | .inr u=>u∈(topOf l).tris/\rY (halvesOf l) (tP t)=.inr (tP u)/\aR (halvesOf l) (hP (u/4))=aR (halvesOf l) (hP (t/4)) - 1:=by
 have hr:t/4∈halvesOf l:=cN.mp ht;have hh:=aO hb;have e1:((tP t).1,(tP t).2.1)=hP (t/4):=rfl;have s4:t%4<4:=mod_lt _ (by decide);have vx:=uU hb hr;unfold Top.goesOn rY;rw[e1];dsimp only;cases hi:fR (halvesOf l) (hP (t/4))with
 |some c=>
  rw[hi]at vx;obtain⟨c4,lc,dd⟩:=lV hb hr hi;by_cases v:(topOf l).valley (t/4)=true
  ·rw[ag v]at vx;have vx:=Option.some.inj vx;rw[ag v,vx];have ec:=fH (t/4) c;have eh:hgt (halvesOf l) (aB (hP (t/4)) c)=(heightAt (topOf l).grid (cornerOf (t/4) c).1 (cornerOf (t/4) c).2:Int):=by rw[ec,pT];rfl
   by_cases z:heightAt (topOf l).grid (cornerOf (t/4) c).1 (cornerOf (t/4) c).2=0
   ·rw[ag z];dsimp only;rw[ag (by rw[eh,z];rfl),ec];rfl
   ·rw[af z];dsimp only;rw[af (by rw[eh];omega)];have lc:hgt (halvesOf l) (aB (hP (t/4)) c)=aR (halvesOf l) (hP (t/4)):=lc;have hm:=(jL hh (bQ (hP (t/4)) c)).mp (by rw[dd,<- lc,eh];omega);obtain⟨q,hq,eq⟩:=ar.mp hm;have qe:=JF (hh _ hr) (hh _ hq) c4 eq;have q4:(4*across (t/4) c+t%4)/4=across (t/4) c:=by omega
    have q5:(4*across (t/4) c+t%4)%4=t%4:=by omega
    refine⟨cN.mpr (by rw[q4,<- qe];exact hq),?_,by rw[q4,<- qe,eq,dd]⟩;unfold tP;rw[q4,q5,<- qe];have:bQ (hP (t/4)) c=((iOf q:Int),(jOf q:Int)):=eq.symm;rw[this]
  ·rw[af v]at vx;cases vx
 |none=>
  rw[hi]at vx;have v:¬(topOf l).valley (t/4)=true:=fun v=>by rw[ag v]at vx;cases vx
  rw[af v];obtain⟨f,f4,fv,dd⟩:=vV hb hr s4 hi;have ft:e9 (halvesOf l) (tP t)=(f:Int):=fv;have ff:(topOf l).faces t=f:=by have:=rP hh ht;rw[ft]at this;have e:(topOf l).faces t=(oI (halvesOf l)).getD t 4:=rfl;rw[e];omega
  rw[ff,ft];have tn:((f:Int)).toNat=f:=by omega
  rw[tn];have sm:=yC hh hr f4;have gi:=lS hh (r:=beyond (t/4) f);have gv:(topOf l).grid.val (beyond (t/4) f)=(gridOf (halvesOf l)).val (beyond (t/4) f):=rfl;rw[gv];by_cases z:(gridOf (halvesOf l)).val (beyond (t/4) f)=0
  ·rw[ag z];have ni:aK (hP (t/4)) f∉ (halvesOf l).map hP:=fun q=>by have:=gi.mpr (sm.mp q);omega
   dsimp only;rw[af ni];unfold fY;have q4:(4*(t/4)+f)/4=t/4:=by omega
   have q5:(4*(t/4)+f)%4=f:=by omega
   dsimp only;rw[q4,q5];rfl
  ·rw[af z];have hq:beyond (t/4) f∈halvesOf l:=gi.mp (by omega);dsimp only;rw[ag (sm.mpr hq)];have eq:=(oS hh (hh _ hr) (hh _ hq) f4).mpr rfl;have q4:(4*beyond (t/4) f+(f+2)%4)/4=beyond (t/4) f:=by omega
   have q5:(4*beyond (t/4) f+(f+2)%4)%4=(f+2)%4:=by omega
   refine⟨cN.mpr (by rw[q4];exact hq),?_,by rw[q4,eq,dd]⟩;unfold tP;rw[q4,q5];have:aK (hP (t/4)) f=((iOf (beyond (t/4) f):Int),(jOf (beyond (t/4) f):Int)):=eq.symm;rw[this];congr 3
theorem DO:∀(n:Nat){t:Nat},t∈(topOf l).tris->aR (halvesOf l) (hP (t/4))<n->∃e,(topOf l).endFrom n t=some e
 |0,t,ht,h=>by have:=(jL (aO hb) (hP (t/4))).mpr (ar.mpr ⟨_,cN.mp ht,rfl⟩);omega
 |n+1,t,ht,h=>by
  have w:=mI hb ht;unfold Top.endFrom;cases e:(topOf l).goesOn t with
  |inl x=>exact⟨x,rfl⟩
  |inr u=>rw[e]at w;obtain⟨h1,_,h3⟩:=w;exact DO n h1 (by rw[h3];omega)
theorem J2{t:Nat}(ht:t∈(topOf l).tris):∃e,(topOf l).endOf t=some e:=by have d:=(tX (aO hb) (hP (t/4))).2;exact DO hb _ ht (by have:((HALVES+1:Nat):Int)=129:=rfl;rw[this];omega)
end
noncomputable def StP(a b:Point):Prop:=∃e k,e<4/\0<k/\(e=2->k<=a.1)/\(e=3->k<=a.2)/\b=bG a e k
theorem D8(p:Point)(d:Nat):bG p d 0=p:=by unfold bG;split<;>(try split)<;>(try split)<;>simp
section
variable {l:Cells}
theorem dC(hp:pinched l=false):∀{rm seen:List Point},d7 l seen rm ->
  (∀w∈walksFrom l seen rm,∃p d r,Round l p ((p,d)::r)/\w=p::turns d r/\walkFeet w=(p,d)::r)/\(∀q d,outOf l q=some d->q∈seen\/(q,d)∈(walksFrom l seen rm).flatMap walkFeet)
 |[],seen,g=>⟨fun w hw=>by simp[walksFrom]at hw,fun q d h=>.inl ((g.all q d h).resolve_right (by simp))⟩
 |p::r,seen,g=>by
  by_cases hs:seen.contains p=true
  ·have e:walksFrom l seen (p::r)=walksFrom l seen r:=by
    show(if seen.contains p=true then _ else _)=_
    rw[ag hs]
   rw[e];exact dC hp (g.skip (.inl (by simpa using hs)))
  ·cases ho:outOf l p with
   |none=>
    have e:walksFrom l seen (p::r)=walksFrom l seen r:=by
     show(if seen.contains p=true then _ else match outOf l p with|none=>_|some d=>_)=_
     rw[af hs,ho]
    rw[e];exact dC hp (g.skip (.inr ho))
   |some d=>
    have e:walksFrom l seen (p::r)=cornersOf (follow l p (4*l.length+4) p d)::walksFrom l (seen++(follow l p (4*l.length+4) p d).map fun(x:Foot)=>x.1) r:=by
     show(if seen.contains p=true then _ else match outOf l p with|none=>_|some d=>_)=_
     rw[af hs,ho]
    obtain⟨R,fr,⟨r',er,ec⟩,ew,g2⟩:=g.step hp (by simpa using hs) ho rfl;obtain⟨h1,h2⟩:=dC hp g2;rw[e];refine⟨fun w hw=>?_,fun q d' hq=>?_⟩
    ·rcases ak.mp hw with rfl|hw
     ·refine⟨p,d,r',er▸R,ec,?_⟩;rw[<- er];exact ew
     ·exact h1 w hw
    ·rw[dt,ew];rcases h2 q d' hq with h|h
     ·rcases aw.mp h with h|h
      ·exact .inl h
      ·obtain⟨x,hx,rfl⟩:=ar.mp h;have:=R.way.out x hx;rw[hq]at this;cases this;exact .inr (cf _ hx)
     ·exact .inr (bf _ h)
theorem through:∀{r:List Foot}{p0 p' q0:Point}{d:Nat},Way l p' r q0->outOf l p0=some d->stepped p0 d=p'->∀q e,(q,e)∈r->q∉turns d r->∃z,outOf l z=some e/\stepped z e=q
 |[],p0,p',q0,d,hw,ho,hs,q,e,hm,hn=>by cases hm
 |(x,d2)::r,p0,p',q0,d,hw,ho,hs,q,e,hm,hn=>by
  cases hw with
  |cons h1 hw=>
   have rg:(d2≠d->q≠x)/\q∉turns d2 r:=by
    unfold turns at hn;by_cases c:d2=d
    ·rw[ag c]at hn;exact⟨fun z=>absurd c z,c▸hn⟩
    ·rw[af c]at hn;exact⟨fun _ z=>hn (z▸bh),fun z=>hn (au _ z)⟩
   rcases ak.mp hm with z|hm
   ·cases z;by_cases c:d2=d
    ·subst c;exact⟨p0,ho,hs⟩
    ·exact absurd rfl (rg.1 c)
   ·exact through hw h1 rfl q e hm rg.2
theorem p9:∀{r:List Foot}{p p' q:Point}{d k:Nat},Way l p' r q->d<4->0<k->(d=2->k<=p.1)->(d=3->k<=p.2)->p'=bG p d k->∀x∈(p::turns d r).zip (turns d r++[q]),StP x.1 x.2
 |[],p,p',q,d,k,hw,hd,hk,h2,h3,e,x,hx=>by cases hw;have hx:x∈[(p,p')]:=hx;rw[iw.mp hx];exact⟨d,k,hd,hk,h2,h3,e⟩
 |(y,d2)::r,p,PP,q,d,k,hw,hd,hk,h2,h3,e,x,hx=>by
  cases hw with
  |cons h1 hw=>
   obtain⟨b2,b3⟩:=fD h1;obtain⟨wx,_⟩:=b8 h1;by_cases ui:d2=d
   ·subst ui;have et:turns d2 ((y,d2)::r)=turns d2 r:=by
     show(if d2=d2 then _ else _)=_
     rw[ag rfl]
    rw[et]at hx;refine p9 (r:=r) (p:=p) (p':=stepped y d2) (k:=k+1) hw hd (Nat.succ_pos _) ?_ ?_ (by rw[e,dF hd]) x hx
    ·intro e2;have:=b2 e2;rw[e]at this;subst e2;simp[bG]at this;omega
    ·intro e3;have:=b3 e3;rw[e]at this;subst e3;simp[bG]at this;omega
   ·have et:turns d ((y,d2)::r)=y::turns d2 r:=by
     show(if d2=d then _ else _)=_
     rw[af ui]
    rw[et,jl,List.zip_cons_cons]at hx;rcases ak.mp hx with rfl|hx
    ·exact⟨d,k,hd,hk,h2,h3,e⟩
    ·refine p9 (r:=r) (p:=y) (p':=stepped y d2) (q:=q) (d:=d2) (k:=1) hw wx (by decide) (fun z=>b2 z) (fun z=>b3 z) ?_ x hx;have:=dF (p:=y) (d:=d2) (k:=0) wx;rw[D8]at this;exact this
theorem uX(w:Walk):(sides w).map (·.1)=w:=by unfold sides;rw[List.map_fst_zip];rw[aj,fj,bz];omega
theorem E7(ws:List Walk):(wallsOf ws).map (·.1)=ws.flatten:=by
 unfold wallsOf;induction ws with
 |nil=>rfl
 |cons w ws ih=>rw[dt,cj,uX,ih,jh]
theorem mJ(ws:List Walk):(wallsOf ws).flatMap (fun x=>feet x.1 x.2)=ws.flatMap walkFeet:=by
 unfold wallsOf;induction ws with
 |nil=>rfl
 |cons w ws ih=>rw[dt,gd,ih,dt];rfl
theorem gK(hp:pinched l=false):∀x∈wallsOf (walksOf l),StP x.1 x.2:=by
 intro x hx;obtain⟨w,hw,hx⟩:=bw.mp hx;obtain⟨p,d,r,R,e,ef⟩:=(dC hp (d7.start l)).1 w hw;have hw':=R.way;cases hw' with
 |cons h1 h2=>
  obtain⟨b2,b3⟩:=fD h1;obtain⟨hd,_⟩:=b8 h1;refine p9 (p:=p) (k:=1) h2 hd (by decide) (fun z=>b2 z) (fun z=>b3 z) ?_ x ?_
  ·have:=dF (p:=p) (d:=d) (k:=0) hd;rw[D8]at this;exact this
  ·rw[e]at hx;exact hx
theorem tV{a b:Point}(h:StP a b):∃e k,e<4/\0<k/\b=bG a e k/\feet a b=bO a e k/\(a,e)∈feet a b:=by obtain⟨e,k,he,hk,h2,h3,rfl⟩:=h;have f:=fM he h2 h3;refine⟨e,k,he,hk,rfl,f,?_⟩;rw[f];unfold bO;exact ar.mpr ⟨0,by simpa using hk,by rw[D8]⟩
theorem DL{α:Type}{p:α->Bool}{l:List α}{k:Nat}{x:α}(hk:l[k]? =some x)(hx:p x=true)(hu:∀(j:Nat) y,l[j]? =some y->p y=true->j=k):l.findIdx? p=some k:=by
 rw[List.findIdx?_eq_some_iff_getElem];obtain⟨jz,e⟩:=ao.mp hk;refine⟨jz,by rw[e];exact hx,fun j hj=>?_⟩;cases c:p l[j]with
 |false=>simp
 |true=>have:=hu j _ (bj (by omega)) c;omega
theorem pZ{α β:Type}{f:α->List β}:∀{l:List α},(l.flatMap f).Nodup->∀(i j:Nat) x y b,l[i]? =some x->l[j]? =some y->b∈f x->b∈f y->i=j
 |[],_,i,j,x,y,b,hi,_,_,_=>by cases hi
 |a::l,nd,i,j,x,y,b,hi,hj,hx,hy=>by
  rw[dt,de]at nd;cases i with
  |zero=>
   cases hi;cases j with
   |zero=>rfl
   |succ j=>exact absurd rfl (nd.2.2 b hx b (bw.mpr ⟨y,az hj,hy⟩))
  |succ i=>
   cases j with
   |zero=>cases hj;exact absurd rfl (nd.2.2 b hy b (bw.mpr ⟨x,az hi,hx⟩))
   |succ j=>rw[pZ nd.2.1 i j x y b hi hj hx hy]
theorem CN(hp:pinched l=false){q:Point}{d:Nat}(hq:outOf l q=some d):∃(k:Nat)(w:Point×Point),(wallsOf (walksOf l))[k]? =some w/\(q,d)∈feet w.1 w.2/\wallNumber (walksOf l) (q,d)=some k/\(∀(j:Nat) w',(wallsOf (walksOf l))[j]? =some w'->q∈(feet w'.1 w'.2).map (·.1)->j=k)/\
  (q∈(walksOf l).flatten->cornerNumber (walksOf l) (2*q.1,2*q.2)=some k):=by
 obtain⟨F,f1,f2,f3,f4,f5⟩:=cM hp (d7.start l);have f1:(walksOf l).flatMap walkFeet=F:=f1;have hm:(q,d)∈(walksOf l).flatMap walkFeet:=((dC hp (d7.start l)).2 q d hq).resolve_left (by simp);rw[<- mJ]at hm f1;obtain⟨w,hw,hf⟩:=bw.mp hm;obtain⟨k,hk⟩:=dz.mp hw;have ndp:((wallsOf (walksOf l)).flatMap fun x=>(feet x.1 x.2).map (·.1)).Nodup:=by rw[<- f1,map_flatMap]at f3;exact f3
 have un:∀(j:Nat) w',(wallsOf (walksOf l))[j]? =some w'->q∈(feet w'.1 w'.2).map (·.1)->j=k:=fun j w' hj pf=>
  pZ ndp j k w' w q hj hk pf (ar.mpr ⟨(q,d),hf,rfl⟩)
 refine⟨k,w,hk,hf,?_,un,fun hc=>?_⟩
 ·unfold wallNumber;refine DL hk (by simpa using hf) fun j y hj hy=>un j y hj (ar.mpr ⟨(q,d),by simpa using hy,rfl⟩)
 ·unfold cornerNumber;rw[<- E7]at hc ⊢;obtain⟨j,hj⟩:=dz.mp hc;have key:∀(i:Nat) q',((wallsOf (walksOf l)).map (·.1))[i]? =some q'->q'=q->i=k:=by
   intro i q' hi eq;rw[bc]at hi;cases e:(wallsOf (walksOf l))[i]? with
   |none=>rw[e]at hi;cases hi
   |some w'=>rw[e]at hi;have hi:w'.1=q':=Option.some.inj hi;obtain⟨e',k',_,_,_,_,hmem⟩:=tV (gK hp w' (az e));exact un i w' e (ar.mpr ⟨_,hmem,hi.trans eq⟩)
  have ejk:=key j q hj rfl;subst ejk;refine DL hj (by simp[Nat.mul_comm]) fun j' y vd hy=>key j' y vd ?_
  simp only[dk,beq_iff_eq]at hy;apply Prod.ext<;>omega
end
noncomputable def jV:List Int->Pl
 |[_,i,j,s]=>aB (i/2,j/2) s.toNat
 |[_,X,Y]=>(X/2,Y/2)
 |_=>(0,0)
theorem JA{l:Cells}(x y:Int):(x,y)∈iW l↔inI l x y=true:=by
 constructor
 ·intro h;unfold iW at h;obtain⟨c,hc,e⟩:=ar.mp h;have e1:(c.1:Int)=x:=congrArg Prod.fst e;have e2:(c.2:Int)=y:=congrArg Prod.snd e;rw[<- e1,<- e2,cE];simpa using hc
 ·intro h;obtain⟨h1,h2,h3⟩:=bS h;exact ar.mpr ⟨_,h3,by unfold iP;dsimp only;rw[cb h1,cb h2]⟩
section
variable {l:Cells} (hb:∀c∈l,c.1<64/\c.2<64)
include hb
theorem nW(q:Pl):q∈(halvesOf l).map hP↔inI l (q.1/2) (q.2/2)=true:=by rw[pV hb,JA]
theorem vR(q:Pl):q∉ (halvesOf l).map hP↔inI l (q.1/2) (q.2/2)=false:=by rw[nW hb];simp
theorem RY{p:Pl}{dx dy:Int}(h:0<=nb l p dx dy):inI l ((p.1+dx)/2) ((p.2+dy)/2)=true:=(nW hb (p.1+dx,p.2+dy)).mp ((jL (aO hb) _).mp h)
theorem wY{p:Pl}{dx dy:Int}(h:nb l p dx dy<0):inI l ((p.1+dx)/2) ((p.2+dy)/2)=false:=(vR hb (p.1+dx,p.2+dy)).mp fun z=>absurd ((jL (aO hb) _).mpr z) (iq.mpr h)
theorem FL(hp:pinched l=false){r f:Nat}(hr:r∈halvesOf l)(hf:f<4)(ho:aK (hP r) f∉ (halvesOf l).map hP):outOf l (eaveFoot (4*r+f)).1=some (eaveFoot (4*r+f)).2/\jV (fY (.eave (4*r+f)))=iP (eaveFoot (4*r+f)).1:=by
 have q4:(4*r+f)/4=r:=by omega
 have q5:(4*r+f)%4=f:=by omega
 have ki:=(nW hb (hP r)).mp (ar.mpr ⟨r,hr,rfl⟩);have qx:=(vR hb _).mp ho;have e1:(hP r).1=(iOf r:Int):=rfl;have e2:(hP r).2=(jOf r:Int):=rfl;rw[e1,e2]at ki;unfold eaveFoot fY jV;dsimp only;rw[q4,q5];have cs:f=0\/f=1\/f=2\/f=3:=by omega
 rcases cs with rfl|rfl|rfl|rfl
 ·have ho:inI l ((iOf r:Int)/2) (((jOf r:Int) - 1)/2)=false:=qx;have ev:((jOf r:Int) - 1)/2=(jOf r:Int)/2 - 1:=by
   rcases bx (jOf r)with z|z
   ·omega
   ·rw[show((jOf r:Int) - 1)/2=(jOf r:Int)/2 by omega,ki]at ho;cases ho
  rw[ev]at ho;refine⟨show outOf l (iOf r/2,jOf r/2)=some 0 from gO hp (by decide) ?_,?_⟩
  ·rw[cX];show(inI l ((iOf r/2:Nat):Int) ((jOf r/2:Nat):Int)&& !inI l ((iOf r/2:Nat):Int) (((jOf r/2:Nat):Int) - 1))=true
   rw[show((iOf r/2:Nat):Int)=(iOf r:Int)/2 by omega,show((jOf r/2:Nat):Int)=(jOf r:Int)/2 by omega,ki,ho];rfl
  ·unfold aB iP;simp
 ·have ho:inI l (((iOf r:Int)+1)/2) ((jOf r:Int)/2)=false:=qx;have ev:((iOf r:Int)+1)/2=(iOf r:Int)/2+1:=by
   rcases bx (iOf r)with z|z
   ·rw[show((iOf r:Int)+1)/2=(iOf r:Int)/2 by omega,ki]at ho;cases ho
   ·omega
  rw[ev]at ho;refine⟨show outOf l (iOf r/2+1,jOf r/2)=some 1 from gO hp (by decide) ?_,?_⟩
  ·rw[cX];show(inI l (((iOf r/2+1:Nat):Int) - 1) ((jOf r/2:Nat):Int)&& !inI l ((iOf r/2+1:Nat):Int) ((jOf r/2:Nat):Int))=true
   rw[show((iOf r/2+1:Nat):Int) - 1=(iOf r:Int)/2 by omega,show((iOf r/2+1:Nat):Int)=(iOf r:Int)/2+1 by omega,show((jOf r/2:Nat):Int)=(jOf r:Int)/2 by omega,ki,ho];rfl
  ·unfold aB iP;simp
 ·have ho:inI l ((iOf r:Int)/2) (((jOf r:Int)+1)/2)=false:=qx;have ev:((jOf r:Int)+1)/2=(jOf r:Int)/2+1:=by
   rcases bx (jOf r)with z|z
   ·rw[show((jOf r:Int)+1)/2=(jOf r:Int)/2 by omega,ki]at ho;cases ho
   ·omega
  rw[ev]at ho;refine⟨show outOf l (iOf r/2+1,jOf r/2+1)=some 2 from gO hp (by decide) ?_,?_⟩
  ·rw[cX];show(inI l (((iOf r/2+1:Nat):Int) - 1) (((jOf r/2+1:Nat):Int) - 1)&& !inI l (((iOf r/2+1:Nat):Int) - 1) ((jOf r/2+1:Nat):Int))=true
   rw[show((iOf r/2+1:Nat):Int) - 1=(iOf r:Int)/2 by omega,show((jOf r/2+1:Nat):Int) - 1=(jOf r:Int)/2 by omega,show((jOf r/2+1:Nat):Int)=(jOf r:Int)/2+1 by omega,ki,ho];rfl
  ·unfold aB iP;simp
 ·have ho:inI l (((iOf r:Int) - 1)/2) ((jOf r:Int)/2)=false:=qx;have ev:((iOf r:Int) - 1)/2=(iOf r:Int)/2 - 1:=by
   rcases bx (iOf r)with z|z
   ·omega
   ·rw[show((iOf r:Int) - 1)/2=(iOf r:Int)/2 by omega,ki]at ho;cases ho
  rw[ev]at ho;refine⟨show outOf l (iOf r/2,jOf r/2+1)=some 3 from gO hp (by decide) ?_,?_⟩
  ·rw[cX];show(inI l ((iOf r/2:Nat):Int) (((jOf r/2+1:Nat):Int) - 1)&& !inI l (((iOf r/2:Nat):Int) - 1) (((jOf r/2+1:Nat):Int) - 1))=true
   rw[show((iOf r/2:Nat):Int)=(iOf r:Int)/2 by omega,show((jOf r/2+1:Nat):Int) - 1=(jOf r:Int)/2 by omega,ki,ho];rfl
  ·unfold aB iP;simp
omit hb in
theorem rN(hp:pinched l=false){q:Point}{e:Nat}(he:e<4)(h:aY l q.1 q.2 e=true)(hn:rX l q.1 q.2 e=false):outOf l q=some e/\q∈(walksOf l).flatten:=by
 have ho:outOf l q=some e:=gO hp he (by rw[cX];exact h);refine⟨ho,?_⟩;obtain⟨w1,w2⟩:=dC hp (d7.start l);have hm:=(w2 q e ho).resolve_left (by simp);obtain⟨w,hw,hf⟩:=bw.mp hm;obtain⟨p,d,r,R,ew,ef⟩:=w1 w hw;refine mem_flatten.mpr ⟨w,hw,?_⟩;rw[ef]at hf;rw[ew];rcases ak.mp hf with z|hf
 ·cases z;exact bh
 ·apply Classical.byContradiction;intro c;have hw':=R.way;cases hw' with
  |cons h1 h2=>
   obtain⟨z,z1,z2⟩:=through h2 h1 rfl q e hf fun y=>c (au _ y)
   obtain⟨_,z3⟩:=b8 z1;have si:=lE he z3;rw[z2]at si;rw[cX,<- rW he,<- si]at z3;rw[hn]at z3;cases z3
theorem AK(hp:pinched l=false){r c:Nat}(hr:r∈halvesOf l)(hc:fR (halvesOf l) (hP r)=some c)(hz:aR (halvesOf l) (hP r)=0):∃q:Point,cornerOf r c=(2*q.1,2*q.2)/\(∃e,outOf l q=some e)/\q∈(walksOf l).flatten:=by
 obtain⟨d,ed,d0,Ag,e0,ge,l0,l1,l2,l3,_⟩:=lM hb hr;have ez:d=0:=ed.symm.trans hz;subst ez;have e1:(hP r).1=(iOf r:Int):=rfl;have e2:(hP r).2=(jOf r:Int):=rfl;have ki:=(nW hb (hP r)).mp (ar.mpr ⟨r,hr,rfl⟩);obtain⟨c4,lc,dd⟩:=lV hb hr hc;have sg:∀{dx dy:Int},¬nb l (hP r) dx dy<0->inI l (((hP r).1+dx)/2) (((hP r).2+dy)/2)=true:=fun h=>RY hb (ej.mp h)
 rcases yX _ _ _ _ c hc with⟨rfl,k,n1,n2⟩|⟨rfl,k,n1,n2⟩|⟨rfl,k,n1,n2⟩|⟨rfl,k,n1,n2⟩
 ·have n1:¬c6 l (hP r) 1:=of_decide_eq_false n1;have n2:¬c6 l (hP r) 3:=of_decide_eq_false n2;have a1:=sg (dx:=0) (dy:=-1) fun z=>n1 (l1.mpr (.inl z))
  have a2:=sg (dx:=-1) (dy:=0) fun z=>n2 (l3.mpr (.inl z))
  have e:bQ (hP r) 0=((hP r).1+-1,(hP r).2+-1):=by unfold bQ aB;simp;clear l0 l1 l2 l3 ge;omega
  rw[e,hz]at dd;have a3:=wY hb (p:=hP r) (dx:=-1) (dy:=-1) (by show aR _ _<0;rw[dd];decide);rw[e1,e2]at ki a1 a2 a3;clear l0 l1 l2 l3 ge n1 n2 sg;have pi:iOf r%2=0:=by
   rcases bx (iOf r)with z|z
   ·exact z
   ·rw[show((iOf r:Int)+-1)/2=((iOf r:Int)+0)/2 by omega,a1]at a3;cases a3
  have pj:jOf r%2=0:=by
   rcases bx (jOf r)with z|z
   ·exact z
   ·rw[show((jOf r:Int)+-1)/2=((jOf r:Int)+0)/2 by omega,a2]at a3;cases a3
  have E1:((iOf r:Int)+-1)/2=((iOf r/2:Nat):Int) - 1:=by omega
  have E2:((jOf r:Int)+-1)/2=((jOf r/2:Nat):Int) - 1:=by omega
  have E3:((iOf r:Int)+0)/2=((iOf r/2:Nat):Int):=by omega
  have E4:((jOf r:Int)+0)/2=((jOf r/2:Nat):Int):=by omega
  rw[E1]at a2 a3;rw[E2]at a1 a3;rw[E3]at a1;rw[E4]at a2;have:=rN hp (q:=(iOf r/2,jOf r/2)) (e:=3) (by decide) (by show(inI l _ (_ - 1)&& !inI l (_ - 1) (_ - 1))=true;dsimp only;rw[a1,a3];rfl) (by show(inI l _ _&& !inI l (_ - 1) _)=false;dsimp only;rw[a2];simp);exact⟨_,by unfold cornerOf;simp;omega,⟨_,this.1⟩,this.2⟩
 ·have n1:¬c6 l (hP r) 0:=of_decide_eq_false n1;have n2:¬c6 l (hP r) 2:=of_decide_eq_false n2;have a1:=sg (dx:=0) (dy:=-1) fun z=>n1 (l0.mpr (.inr (.inl z)))
  have a2:=sg (dx:=1) (dy:=0) fun z=>n2 (l2.mpr (.inl z))
  have e:bQ (hP r) 1=((hP r).1+1,(hP r).2+-1):=by unfold bQ aB;simp;clear l0 l1 l2 l3 ge;omega
  rw[e,hz]at dd;have a3:=wY hb (p:=hP r) (dx:=1) (dy:=-1) (by show aR _ _<0;rw[dd];decide);rw[e1,e2]at ki a1 a2 a3;clear l0 l1 l2 l3 ge n1 n2 sg;have pi:iOf r%2=1:=by
   rcases bx (iOf r)with z|z
   ·rw[show((iOf r:Int)+1)/2=((iOf r:Int)+0)/2 by omega,a1]at a3;cases a3
   ·exact z
  have pj:jOf r%2=0:=by
   rcases bx (jOf r)with z|z
   ·exact z
   ·rw[show((jOf r:Int)+-1)/2=((jOf r:Int)+0)/2 by omega,a2]at a3;cases a3
  have E1:((iOf r:Int)+1)/2=(((iOf r+1)/2:Nat):Int):=by omega
  have E2:((jOf r:Int)+-1)/2=((jOf r/2:Nat):Int) - 1:=by omega
  have E3:((iOf r:Int)+0)/2=(((iOf r+1)/2:Nat):Int) - 1:=by omega
  have E4:((jOf r:Int)+0)/2=((jOf r/2:Nat):Int):=by omega
  rw[E1]at a2 a3;rw[E2]at a1 a3;rw[E3]at a1;rw[E4]at a2;have:=rN hp (q:=((iOf r+1)/2,jOf r/2)) (e:=0) (by decide) (by show(inI l _ _&& !inI l _ (_ - 1))=true;dsimp only;rw[a2,a3];rfl) (by show(inI l (_ - 1) _&& !inI l (_ - 1) (_ - 1))=false;dsimp only;rw[a1];simp);exact⟨_,by unfold cornerOf;simp;omega,⟨_,this.1⟩,this.2⟩
 ·have n1:¬c6 l (hP r) 1:=of_decide_eq_false n1;have n2:¬c6 l (hP r) 3:=of_decide_eq_false n2;have a1:=sg (dx:=1) (dy:=0) fun z=>n1 (l1.mpr (.inr (.inr z)))
  have a2:=sg (dx:=0) (dy:=1) fun z=>n2 (l3.mpr (.inr (.inr z)))
  have e:bQ (hP r) 2=((hP r).1+1,(hP r).2+1):=by unfold bQ aB;simp;clear l0 l1 l2 l3 ge;omega
  rw[e,hz]at dd;have a3:=wY hb (p:=hP r) (dx:=1) (dy:=1) (by show aR _ _<0;rw[dd];decide);rw[e1,e2]at ki a1 a2 a3;clear l0 l1 l2 l3 ge n1 n2 sg;have pi:iOf r%2=1:=by
   rcases bx (iOf r)with z|z
   ·rw[show((iOf r:Int)+1)/2=((iOf r:Int)+0)/2 by omega,a2]at a3;cases a3
   ·exact z
  have pj:jOf r%2=1:=by
   rcases bx (jOf r)with z|z
   ·rw[show((jOf r:Int)+1)/2=((jOf r:Int)+0)/2 by omega,a1]at a3;cases a3
   ·exact z
  have E1:((iOf r:Int)+1)/2=(((iOf r+1)/2:Nat):Int):=by omega
  have E2:((jOf r:Int)+1)/2=(((jOf r+1)/2:Nat):Int):=by omega
  have E3:((iOf r:Int)+0)/2=(((iOf r+1)/2:Nat):Int) - 1:=by omega
  have E4:((jOf r:Int)+0)/2=(((jOf r+1)/2:Nat):Int) - 1:=by omega
  rw[E1]at a1 a3;rw[E2]at a2 a3;rw[E3]at a2;rw[E4]at a1;have:=rN hp (q:=((iOf r+1)/2,(jOf r+1)/2)) (e:=1) (by decide) (by show(inI l (_ - 1) _&& !inI l _ _)=true;dsimp only;rw[a2,a3];rfl) (by show(inI l (_ - 1) (_ - 1)&& !inI l _ (_ - 1))=false;dsimp only;rw[a1];simp);exact⟨_,by unfold cornerOf;simp;omega,⟨_,this.1⟩,this.2⟩
 ·have n1:¬c6 l (hP r) 0:=of_decide_eq_false n1;have n2:¬c6 l (hP r) 2:=of_decide_eq_false n2;have a1:=sg (dx:=-1) (dy:=0) fun z=>n1 (l0.mpr (.inr (.inr z)))
  have a2:=sg (dx:=0) (dy:=1) fun z=>n2 (l2.mpr (.inr (.inl z)))
  have e:bQ (hP r) 3=((hP r).1+-1,(hP r).2+1):=by unfold bQ aB;simp;clear l0 l1 l2 l3 ge;omega
  rw[e,hz]at dd;have a3:=wY hb (p:=hP r) (dx:=-1) (dy:=1) (by show aR _ _<0;rw[dd];decide);rw[e1,e2]at ki a1 a2 a3;clear l0 l1 l2 l3 ge n1 n2 sg;have pi:iOf r%2=0:=by
   rcases bx (iOf r)with z|z
   ·exact z
   ·rw[show((iOf r:Int)+-1)/2=((iOf r:Int)+0)/2 by omega,a2]at a3;cases a3
  have pj:jOf r%2=1:=by
   rcases bx (jOf r)with z|z
   ·rw[show((jOf r:Int)+1)/2=((jOf r:Int)+0)/2 by omega,a1]at a3;cases a3
   ·exact z
  have E1:((iOf r:Int)+-1)/2=((iOf r/2:Nat):Int) - 1:=by omega
  have E2:((jOf r:Int)+1)/2=(((jOf r+1)/2:Nat):Int):=by omega
  have E3:((iOf r:Int)+0)/2=((iOf r/2:Nat):Int):=by omega
  have E4:((jOf r:Int)+0)/2=(((jOf r+1)/2:Nat):Int) - 1:=by omega
  rw[E1]at a1 a3;rw[E2]at a2 a3;rw[E3]at a2;rw[E4]at a1;have:=rN hp (q:=(iOf r/2,(jOf r+1)/2)) (e:=2) (by decide) (by show(inI l (_ - 1) (_ - 1)&& !inI l (_ - 1) _)=true;dsimp only;rw[a1,a3];rfl) (by show(inI l _ (_ - 1)&& !inI l _ _)=false;dsimp only;rw[a2];simp);exact⟨_,by unfold cornerOf;simp;omega,⟨_,this.1⟩,this.2⟩
end
noncomputable def cQ(l:Cells):List (List Pl):=(wallsOf (walksOf l)).map fun w=>(feet w.1 w.2).map fun x=>iP x.1
section
variable {l:Cells} (hb:∀c∈l,c.1<64/\c.2<64)
include hb
theorem last_step:∀(n:Nat){t:Nat}{e:End},t∈(topOf l).tris->(topOf l).endFrom n t=some e->∃u∈(topOf l).tris,(topOf l).goesOn u=.inl e
 |0,t,e,ht,h=>by cases h
 |n+1,t,e,ht,h=>by
  unfold Top.endFrom at h;have w:=mI hb ht;cases q:(topOf l).goesOn t with
  |inl x=>rw[q]at h;cases h;exact⟨t,ht,q⟩
  |inr u=>rw[q]at h w;exact last_step n w.1 h
theorem zZ(hp:pinched l=false){u:Nat}{e:End}(hu:u∈(topOf l).tris)(he:(topOf l).goesOn u=.inl e):∃k:Nat,(∃P,(cQ l)[k]? =some P/\jV (fY e)∈P)/\(∀(j:Nat) P,(cQ l)[j]? =some P->jV (fY e)∈P->j=k)/\
  RoofB.endTold (topOf l) e=fY e++[(k:Int)]/\endNumber (walksOf l) e=(match e with| .eave _=>k| .corner _=>MARK+k):=by
 have hr:u/4∈halvesOf l:=cN.mp hu;have key:∀{q:Point}{d k:Nat}{w:Point×Point},jV (fY e)=iP q->(wallsOf (walksOf l))[k]? =some w->(q,d)∈feet w.1 w.2->(∀(j:Nat) w',(wallsOf (walksOf l))[j]? =some w'->q∈(feet w'.1 w'.2).map (·.1)->j=k)->(∃P,(cQ l)[k]? =some P/\jV (fY e)∈P)/\(∀(j:Nat) P,(cQ l)[j]? =some P->jV (fY e)∈P->j=k):=by
  intro q d k w ef hk hf un;rw[ef];unfold cQ;refine⟨⟨_,by rw[bc,hk];rfl,ar.mpr ⟨(q,d),hf,rfl⟩⟩,fun j P hj hq=>?_⟩;rw[bc]at hj;cases c:(wallsOf (walksOf l))[j]? with
  |none=>rw[c]at hj;cases hj
  |some w'=>rw[c]at hj;have hj:((feet w'.1 w'.2).map fun x=>iP x.1)=P:=Option.some.inj hj;rw[<- hj]at hq;obtain⟨x,hx,e3⟩:=ar.mp hq;have e4:(x.1.1:Int)=(q.1:Int):=congrArg Prod.fst e3;have e5:(x.1.2:Int)=(q.2:Int):=congrArg Prod.snd e3;refine un j w' c (ar.mpr ⟨x,hx,?_⟩);apply Prod.ext<;>omega
 have vx:=uU hb hr;unfold Top.goesOn at he;dsimp only at he;by_cases v:(topOf l).valley (u/4)=true
 ·rw[ag v]at he vx;have hi:fR (halvesOf l) (hP (u/4))=some (((topOf l).high (u/4)).findIdx fun(c:Bool)=>!c):=vx.symm;generalize ((topOf l).high (u/4)).findIdx (fun(c:Bool)=>!c)=c at he hi;by_cases z:heightAt (topOf l).grid (cornerOf (u/4) c).1 (cornerOf (u/4) c).2=0
  ·rw[ag z]at he;cases he;obtain⟨c4,lc,_⟩:=lV hb hr hi;have lc:hgt (halvesOf l) (aB (hP (u/4)) c)=aR (halvesOf l) (hP (u/4)):=lc;have eh:hgt (halvesOf l) (aB (hP (u/4)) c)=(heightAt (topOf l).grid (cornerOf (u/4) c).1 (cornerOf (u/4) c).2:Int):=by rw[fH,pT];rfl
   obtain⟨q,eq,⟨d,hd⟩,zx⟩:=AK hb hp hr hi (by rw[<- lc,eh,z];rfl);obtain⟨k,w,hk,hf,_,un,cn⟩:=CN hp hd;have ef:jV (fY (.corner (cornerOf (u/4) c)))=iP q:=by
    rw[eq];show(((2*q.1:Nat):Int)/2,((2*q.2:Nat):Int)/2)=iP q
    unfold iP;apply Prod.ext<;>(dsimp only;omega)
   obtain⟨k1,k2⟩:=key ef hk hf un;have c2:=cn zx;rw[<- eq]at c2;refine⟨k,k1,k2,?_,?_⟩
   ·show RoofB.told [1,(cornerOf (u/4) c).1,(cornerOf (u/4) c).2,(cornerNumber (walksOf l) (cornerOf (u/4) c)).getD 0]=_
    rw[c2];rfl
   ·show MARK+((cornerNumber (walksOf l) (cornerOf (u/4) c)).getD NONE)=_
    rw[c2];rfl
  ·rw[af z]at he;cases he
 ·rw[af v]at he vx;obtain⟨f,f4,fv,dd⟩:=vV hb hr (mod_lt u (by decide)) vx.symm;have ff:(topOf l).faces u=f:=by have:=rP (aO hb) hu;have e1:e9 (halvesOf l) (tP u)=(f:Int):=fv;rw[e1]at this;have e:(topOf l).faces u=(oI (halvesOf l)).getD u 4:=rfl;rw[e];omega
  rw[ff]at he;by_cases z:(topOf l).grid.val (beyond (u/4) f)=0
  ·rw[ag z]at he;cases he;have ni:aK (hP (u/4)) f∉ (halvesOf l).map hP:=fun q=>by have:=(lS (aO hb)).mpr ((yC (aO hb) hr f4).mp q);have e:(topOf l).grid.val (beyond (u/4) f)=(gridOf (halvesOf l)).val (beyond (u/4) f):=rfl;omega
   obtain⟨o,ef⟩:=FL hb hp hr f4 ni;obtain⟨k,w,hk,hf,wn,un,_⟩:=CN hp o;obtain⟨k1,k2⟩:=key ef hk hf un;refine⟨k,k1,k2,?_,?_⟩
   ·show RoofB.told [0,iOf ((4*(u/4)+f)/4),jOf ((4*(u/4)+f)/4),(4*(u/4)+f)%4,(wallNumber (walksOf l) (eaveFoot (4*(u/4)+f))).getD 0]=_
    rw[wn];rfl
   ·show(wallNumber (walksOf l) (eaveFoot (4*(u/4)+f))).getD NONE=_
    rw[wn];rfl
  ·rw[af z]at he;cases he
end
theorem xN(i j s:Int)(t:List Int):RoofBNeutral.f [[4,i,j,s],t]=RoofB.answer (.drop (RoofBNeutral.text t) i.toNat j.toNat s.toNat):=rfl
section
variable {i j s:Int}{t:List Int}
theorem C7(h0:0<=i)(h1:0<=j)(h2:0<=s)(h:¬(i<=127/\j<=127/\s<=3)):RoofBNeutral.f [[4,i,j,s],t]=[-3]:=by
 rw[xN];show(if RoofB.triOk i.toNat j.toNat s.toNat=false then RoofB.RANGE else _)=_
 rw[ag]
 ·rfl
 ·unfold RoofB.triOk HALVES;rw[Bool.and_eq_false_iff,Bool.and_eq_false_iff];simp only[decide_eq_false_iff_not];omega
theorem xQ(h0:0<=i)(h1:0<=j)(h2:0<=s)(b0:i<=127)(b1:j<=127)(b2:s<=3)(h:houseOf (RoofBNeutral.text t)=none):RoofBNeutral.f [[4,i,j,s],t]=[-1]:=by
 rw[xN];show(if RoofB.triOk i.toNat j.toNat s.toNat=false then RoofB.RANGE else RoofB.ofTop (RoofBNeutral.text t) _)=_
 rw[af (by rw[AS h0 h1 h2 b0 b1 b2];decide),BE h]
theorem xP(h0:0<=i)(h1:0<=j)(h2:0<=s)(b0:i<=127)(b1:j<=127)(b2:s<=3){l:Cells}(h:houseOf (RoofBNeutral.text t)=some l)(hb:∀c∈l,c.1<64/\c.2<64)(ho:(i,j)∉ (halvesOf l).map hP):RoofBNeutral.f [[4,i,j,s],t]=[-5]:=by
 rw[xN];show(if RoofB.triOk i.toNat j.toNat s.toNat=false then RoofB.RANGE else RoofB.ofTop (RoofBNeutral.text t) _)=_
 rw[af (by rw[AS h0 h1 h2 b0 b1 b2];decide),t9 h];show(if(topOf l).in_ (RoofB.tri i.toNat j.toNat s.toNat)=false then RoofB.OUTSIDE else _)=_
 rw[ag]
 ·rfl
 ·cases e:(topOf l).in_ (RoofB.tri i.toNat j.toNat s.toNat)with
  |false=>rfl
  |true=>have q:=(AV hb (i:=i.toNat) (j:=j.toNat) (s:=s.toNat) (by omega) (by omega) (by omega)).mp e;rw[cb h0,cb h1]at q;exact absurd q ho
theorem FN(h0:0<=i)(h1:0<=j)(h2:0<=s)(b0:i<=127)(b1:j<=127)(b2:s<=3){l:Cells}(h:houseOf (RoofBNeutral.text t)=some l)(hb:∀c∈l,c.1<64/\c.2<64)(hp:pinched l=false)(ho:(i,j)∈(halvesOf l).map hP){e:End}(he:(topOf l).endOf (RoofB.tri i.toNat j.toNat s.toNat)=some e){k:Nat}{P:List Pl}(hk:(cQ l)[k]? =some P)(hm:jV (fY e)∈P):RoofBNeutral.f [[4,i,j,s],t]=fY e++[(k:Int)]:=by
 have ho2:((i.toNat:Int),(j.toNat:Int))∈(halvesOf l).map hP:=by rw[cb h0,cb h1];exact ho
 have ki:=(AV hb (i:=i.toNat) (j:=j.toNat) (s:=s.toNat) (by omega) (by omega) (by omega)).mpr ho2;have htr:=yB hb (i:=i.toNat) (j:=j.toNat) (s:=s.toNat) (by omega) (by omega) (by omega) ho2;obtain⟨u,hu,hg⟩:=last_step hb _ htr he;obtain⟨k',_,un,et,_⟩:=zZ hb hp hu hg;have:=un k P hk hm;subst this;rw[xN];show(if RoofB.triOk i.toNat j.toNat s.toNat=false then RoofB.RANGE else RoofB.ofTop (RoofBNeutral.text t) _)=_
 rw[af (by rw[AS h0 h1 h2 b0 b1 b2];decide),t9 h];show(if(topOf l).in_ (RoofB.tri i.toNat j.toNat s.toNat)=false then RoofB.OUTSIDE else match(topOf l).endOf (RoofB.tri i.toNat j.toNat s.toNat)with|some e=>RoofB.endTold (topOf l) e|none=>RoofB.OUTSIDE)=_
 rw[af (by rw[ki];decide),he];exact et
end
end RM
open Roof
namespace RM
abbrev wpt(w:Point×Point):List Pl:=(feet w.1 w.2).map fun x=>iP x.1
theorem pB(w:Walk):(sides w).length=w.length:=by
 have:=congrArg List.length (uX w)
 rwa [ai]at this
theorem j4{w:Walk}{j:Nat}{p:Point}(h:w[j]? =some p):∃q,w[(j+1)%w.length]? =some q/\(sides w)[j]? =some (p,q):=by
 have hj:=(ao.mp h).1;unfold sides;by_cases c:j+1<w.length
 ·refine⟨w[j+1],by rw[Nat.mod_eq_of_lt c,bj c],?_⟩;rw[jm];refine⟨h,?_⟩;rw[gj (by rw[fj];omega),getElem?_drop,Nat.add_comm,bj c]
 ·have e:j+1=w.length:=by omega
  have z:0<w.length:=by omega
  refine⟨w[0],by rw[e,Nat.mod_self,bj z],?_⟩;rw[jm];refine⟨h,?_⟩;rw[dm (by rw[fj];omega),fj,show j - (w.length - 1)=0 by omega];rw[List.getElem?_take,ag (by decide),bj z]
theorem oH{α:Type}:∀{P:List (List α)}{L:List α},L∈P->L.length<=P.flatten.length
 |[],_,h=>by cases h
 |a::P,L,h=>by
  rw[jh,aj];rcases ak.mp h with rfl|h
  ·omega
  ·have:=oH h;omega
section
variable {l:Cells} (hp:pinched l=false)
include hp
theorem zT:∀w∈wallsOf (walksOf l),∀x∈feet w.1 w.2,aN (cV (iW l)) (iP x.1)=some (hdg x.2):=by intro w hw x hx;obtain⟨F,f1,f2,_⟩:=cM hp (d7.start l);have f1:(walksOf l).flatMap walkFeet=F:=f1;rw[<- mJ]at f1;exact(lR hp _ _).mpr ⟨x.1,x.2,rfl,f2 x (by rw[<- f1];exact bw.mpr ⟨w,hw,hx⟩),rfl⟩
theorem rV:(cQ l).flatten.Nodup:=by
 obtain⟨F,f1,f2,f3,_⟩:=cM hp (d7.start l);have f1:(walksOf l).flatMap walkFeet=F:=f1;rw[<- mJ]at f1;have e:(cQ l).flatten=(F.map (·.1)).map iP:=by unfold cQ;rw[<- f1,<- List.flatMap_def,map_flatMap,map_flatMap];congr 1;funext w;rw[gb];rfl
 rw[e];exact dY f3 fun x _ y _ e=>fF e
theorem jZ:(cQ l).flatten.length<=4*l.length:=by
 have h2:=cO (b:=(cV (iW l)).map (·.1)) (rV hp) fun p hm=>by obtain⟨L,hL,hq⟩:=mem_flatten.mp hm;obtain⟨w,hw,rfl⟩:=ar.mp hL;obtain⟨x,hx,rfl⟩:=ar.mp hq;exact(aV _ _).mp (by rw[zT hp w hw x hx];rfl)
 have h3:=jF (iW l);simp only[iW,ai]at h2 h3;omega
theorem G6:∀w∈wallsOf (walksOf l),(feet w.1 w.2).length<=4*l.length:=by intro w hw;refine dj ?_ (jZ hp);obtain⟨i,hi⟩:=dz.mp hw;have:wpt w∈cQ l:=ar.mpr ⟨w,hw,rfl⟩;have h:=oH this;rw[ai]at h;exact h
theorem qI:(cQ l).length<=4*l.length:=by
 refine dj ?_ (jZ hp);have ne:∀L∈cQ l,1<=L.length:=by intro L hL;obtain⟨w,hw,rfl⟩:=ar.mp hL;obtain⟨_,_,_,_,_,_,hm⟩:=tV (gK hp w hw);rw[ai];exact List.length_pos_of_mem hm
 generalize cQ l=P at ne;induction P with
 |nil=>exact ax _
 |cons a P ih=>
  rw[jh,aj,br];have:=ne a (bh ..);have:=ih fun L hL=>ne L (au _ hL)
  omega
end
end RM
namespace L3
open PySem PySem.Spec PyProof.Rows L2
structure aS(P:Program)(w:World)(K:W.Frag)(mg:Str->Option Value)(base:Heap)(CX:CXT)(k:Nat)(x:Str)(ps:List Str)(sp:Sp):Prop where
 ex:∃f fd,bN P w K mg base CX k f fd ps sp/\mg x=some (.ref f)/\W.keepIn K (.ref f)=true/\Binds K fd ps []
section
variable {X:Cx}{CX:CXT}{k:Nat}{ps:List Str}{sp:Sp}{E:XK}{x:Str}{p pos:Pos}{e:Expr}{es:List Expr}{t:TA}
theorem aU(D:aS X.prog X.w X.K X.mg X.base CX k x ps sp)(hr:d4 k X.A)(hx:Passes CX X E)(hg:Gl X x)(ha:PA X (e::es) t)(uj:(x==("__debug__" : Str))=false:=by decide)
  (wd:starEach (e::es) X.env=(false,eval e X.env)::starEach es X.env:=by rfl) (sf:(backTo pos (starEach es X.env)).any (·.1)=false:=by rfl):PE X (.Call (.Name x p) (e::es) [] pos) (CP sp [] E t):=by
 obtain⟨f,fd,F,hm,hk,hb⟩:=D.ex;exact JY F hr hg hm hk hb .nil hx ha uj wd sf
end
theorem a9.rd{H H':Hp}{a:Addr}{u:HO}(e:a9 H H')(h:Rd H a u):Rd H' a u:=by
 rcases h with h|⟨o,h⟩
 ·exact .inl (e _ _ h)
 ·exact .inr ⟨o,e _ _ h⟩
theorem a9.upd{H:Hp}{p:Addr}{o:HO}(h:H p=none):a9 H (upd H p o):=fun b u e=>by rw[aC (aI e h)];exact e
noncomputable def T2(H:Hp)(v:V)(p:Int×Int):Prop:=∃a,v=.ref a/\H a=some (.tup [.int p.1,.int p.2])
noncomputable def C2(K:W.Frag)(H:Hp)(v:V)(p:Int×Int):Prop:=∃a,v=.ref a/\SqT K H a [.int p.1,.int p.2]
noncomputable def T3(H:Hp)(v:V)(p:Int×Int×Int):Prop:=∃a,v=.ref a/\H a=some (.tup [.int p.1,.int p.2.1,.int p.2.2])
theorem T2.mono{H H':Hp}{v:V}{p:Int×Int}(e:a9 H H')(h:T2 H v p):T2 H' v p:=let⟨a,h1,h2⟩:=h;⟨a,h1,e _ _ h2⟩
theorem T3.mono{H H':Hp}{v:V}{p:Int×Int×Int}(e:a9 H H')(h:T3 H v p):T3 H' v p:=let⟨a,h1,h2⟩:=h;⟨a,h1,e _ _ h2⟩
theorem T2.c{K:W.Frag}{H:Hp}{v:V}{p:Int×Int}(h:T2 H v p):C2 K H v p:=let⟨a,h1,h2⟩:=h;⟨a,h1,SqT.of h2⟩
def jE:Option HO->Bool
 |none=>false
 |some (.frz _ _)=>false
 |some _=>true
noncomputable def IH(h:Heap)(H:Hp)(fs:List Addr):List Addr:=(List.range h.objs.size).filter fun a=>jE (H a)||fs.contains a
def g9(h:Heap)(H:Hp)(fs:List Addr):Heap:=W.hideAll h (IH h H fs)
theorem gJ{h:Heap}{H:Hp}{fs:List Addr}{b:Addr}{o:Obj}(e:h.get? b=some o)(n:jE (H b)=false)(hb:b∉fs):(g9 h H fs).get? b=some o:=
 W.hideAll_get _ e fun hm=>by have q:=(cg.mp hm).2;rw[n,Bool.false_or]at q;exact hb (by simpa using q)
theorem yS{h:Heap}{H:Hp}{fs:List Addr}{b:Addr}{o:Obj}(e:(g9 h H fs).get? b=some o):h.get? b=some o/\jE (H b)=false/\b∉fs:=by
 have e':h.get? b=some o:=W.of_hideAll (IH h H fs) e;refine⟨e',?_⟩;by_cases q:b∈IH h H fs
 ·have z:(g9 h H fs).get? b=none:=W.hideAll_none _ q;rw[z]at e;cases e
 ·have hn:¬((jE (H b)||fs.contains b)=true):=fun z=>q (cg.mpr ⟨iz.mpr (bq e'),z⟩)
  rw[or_eq_true]at hn;refine⟨?_,fun z=>hn (.inr (by simpa using z))⟩;cases z:jE (H b)with
  |false=>rfl
  |true=>exact absurd (.inl z) hn
structure Fly(outer:List Env)(ex:List Addr)(H:Hp)(s:Shared)(ae C:Addr)(s':Shared):Prop where
 fl:∃a0,Heap.FlyingW (g9 s.heap H (frs outer++ex)) outer ae (.ref C) a0 s'.heap
 slot:∀b∈frs outer,∀o,s.heap.get? b=some o->∃sl,s'.heap.get? b=some {o with slots:=sl}
 os:s'.os=s.os
 bare:AllBare s'.gens
noncomputable def CXf:CXT:=fun outer H s E e s'=>∃ae C,e=.ref ae/\Fly outer [] H s ae C s'/\E (.ref C) none H
section
variable {X:Cx}{jr:List (Addr×Obj)}{σ:L2.St}{H:Hp}{s:Shared}
theorem stays(I:Inv X jr σ H s)(kn:HOk X.prog X.w X.H_0 X.s_0.heap){ex:List Addr}(vj:∀b∈X.ex,b∈ex){b:Addr}{o:Obj}(e:(g9 X.s_0.heap X.H_0 (X.fs++ex)).get? b=some o):
  s.heap.get? b=some o/\jE (H b)=false/\b∉frs X.stack/\b∉ex:=by
 obtain⟨e1,n,uk⟩:=yS e;have hb:b∉X.fs:=fun z=>uk (cf _ z)
 have hx:b∉ex:=fun z=>uk (bf _ z)
 have wd:b∉frs X.stack:=fun z=>by
  rcases ak.mp (I.sF b z)with q|q
  ·exact absurd (bq e1) (not_lt.mpr (q▸I.ok.above))
  ·exact hb q
 have Ap:b∉X.ex:=fun z=>hx (vj b z)
 cases q:X.H_0 b with
 |none=>refine⟨I.base.keep b o e1 q hb Ap,?_,wd,hx⟩;rw[I.base.free b o e1 q Ap];rfl
 |some u=>
  rw[q]at n;cases u with
  |frz ob u=>have z:=I.base.nZ b ob u q;obtain⟨e2,_⟩:=kn b _ q;obtain⟨e3,_⟩:=I.hok b _ z;rw[e1]at e2;cases e2;exact⟨e3,by rw[z];rfl,wd,hx⟩
  |_=>cases n
theorem jU{h base yj:Heap}:∀{l:List Env},h.FunFrames base l->(∀b∈frs l,yj.get? b=none)->h.FunFrames yj l
 |[],_,_=>trivial
 |env::r,⟨hk,⟨L,o,hf,hn,ho,hd⟩,hr⟩,k=>by
  have e:frs (env::r)=L::frs r:=by unfold frs;rw[fg,hf]
  rw[e]at k;exact⟨hk,⟨L,o,hf,k L (by simp),ho,hd⟩,jU hr fun b hb=>k b (by simp[hb])⟩
theorem C0(I:Inv X jr σ H s)(kn:HOk X.prog X.w X.H_0 X.s_0.heap){ex:List Addr}(vj:∀b∈X.ex,b∈ex):s.heap.FunFrames (g9 X.s_0.heap X.H_0 (X.fs++ex)) X.stack:=
 jU I.stack fun b hb=>by
  cases q:(g9 X.s_0.heap X.H_0 (X.fs++ex)).get? b with
  |none=>rfl
  |some o=>exact absurd hb (stays I kn vj q).2.2.1
theorem kA(I:Inv X jr σ H s){b:Addr}(hb:b∈X.fs)(hx:b∉X.ex){o:Obj}(e:X.s_0.heap.get? b=some o):∃sl,s.heap.get? b=some {o with slots:=sl}:=I.base.slot b o e (I.ok.frf b hb) hb hx
end
section
variable {P:Program}{w:World}{K:W.Frag}{mg:Str->Option Value}{base:Heap}{N:List Str}{qual:Str}{scope:Scope}{f:Addr}{cd:Value}{A:Around}{outer:List Env}{s:Shared}{H:Hp}{E:XK}
 {jr:List (Addr×Obj)}{σ:L2.St}{H1:Hp}{s1:Shared}
noncomputable abbrev cxF(P:Program)(w:World)(K:W.Frag)(mg:Str->Option Value)(base:Heap)(N:List Str)(qual:Str)(scope:Scope)(f:Addr)(cd:Value)(A:Around)(outer:List Env)(s:Shared)(H:Hp)(E:XK):Cx:=uN CXf P w K mg base N qual scope f cd A outer s H E
theorem nP(l:List Addr):l++[]=l:=df l
theorem GW(kn:HOk P w H s.heap)(I:Inv (cxF P w K mg base N qual scope f cd A outer s H E) jr σ H1 s1){h':Heap}{e C:Addr}{as:List Value}(hx:Heap.MadeExcOf s1.heap h' e (.ref C) as)(hE:E (.ref C) none H):
  (cxF P w K mg base N qual scope f cd A outer s H E).xe (.ref e) {s1 with heap:=h'}:=by
 have st:∀b o,(g9 s.heap H (frs outer++[])).get? b=some o->s1.heap.get? b=some o:=fun b o q=>(stays I kn (ex:=[]) (fun _ z=>z) q).1
 refine wpAny_leaves_madeW (base:=g9 s.heap H (frs outer++[])) (h:=s1.heap) (L:=s.heap.objs.size) (outer:=outer) I.ok.frames rfl st (C0 I kn (fun _ z=>z)) hx fun h2 t fl tup hn up=>?_
 refine⟨e,C,rfl,⟨⟨_,fl⟩,fun b hb o q=>?_,I.os,I.bare⟩,hE⟩;obtain⟨sl,q1⟩:=kA I hb (by intro z;exact nomatch z) q;have fr:=(I.stack.mem (b:=b) (show b∈frs (_::outer) by
  unfold frs;rw[fg];exact au _ hb)).2
 obtain⟨o2,q2,nf⟩:=fr;rw[q1]at q2;cases q2;obtain⟨so,q3⟩:=up b _ (hx.keeps b _ q1) nf;exact⟨so,q3⟩
theorem yM(kn:HOk P w H s.heap):Passes CXf (cxF P w K mg base N qual scope f cd A outer s H E) (fun c _ _=>E c none H):=by
 intro jr σ H1 s1 e s' I h;obtain⟨ae,C,rfl,⟨⟨a0,fl⟩,sl,os,bare⟩,hE⟩:=h;have Ae:Heap.FlyingW (g9 s.heap H (frs outer++[])) (cxF P w K mg base N qual scope f cd A outer s H E).stack ae (.ref C) a0 s'.heap:=
  W.flyingW_base (fun b o q=>by
   obtain⟨z1,z2,z3,_⟩:=stays I kn (ex:=[]) (fun _ z=>z) q;exact gJ z1 z2 (by rw[nP];exact z3)) fl
 refine wpAny_leaves_onW (L:=s.heap.objs.size) (outer:=outer) I.ok.frames rfl Ae fun h2 fl3 up=>?_
 refine⟨ae,C,rfl,⟨⟨_,fl3⟩,fun b hb o q=>?_,os.trans I.os,bare⟩,hE⟩;have wz:b∈frs (cxF P w K mg base N qual scope f cd A outer s H E).stack:=by
  show b∈frs (_::outer)
  unfold frs;rw[fg];exact au _ hb
 obtain⟨sl1,q1⟩:=kA I hb (by intro z;exact nomatch z) q;obtain⟨so,q2⟩:=sl b wz _ q1;obtain⟨o3,q3,nf⟩:=(fl.2.2.1.mem (b:=b) wz).2;rw[q2]at q3;cases q3;obtain⟨Ak,q4⟩:=up b _ q2 nf;exact⟨Ak,q4⟩
theorem dG(kn:HOk P w H s.heap){x:Str}{C:Addr}{B me yy:String}{bm:List Value}{np jy pos:Pos}(FB:ExcBaseFacts B me yy bm)(O:OwnCls x C bm me mg base)
  (hg:Gl (cxF P w K mg base N qual scope f cd A outer s H E) x) (hd:(x==("__debug__" : Str))=false:=by decide):
  PS (cxF P w K mg base N qual scope f cd A outer s H E) (.Raise (some (.Call (.Name x np) [] [] jy)) none pos) (fun _ _ _=>E (.ref C) none H):=by
 intro jr s1 σ H1 D I h;obtain⟨tl,N,nm,q,bs,hdct,sn,sub,ab,col,dd,k0,k1,k2,k3,k5,mN,hC,hN,hni,T⟩:=O.obj;refine wpAny_Raise_call_subT (C:=C) (nm:=nm) (q:=q) (N:=N) (bs:=bs) (bm:=tl) (hdct:=hdct) (sn:=sn) (sub:=sub) (ab:=ab) (col:=col) (dd:=dd) (k0:=k0) (k1:=k1) (k2:=k2) (k3:=k3) (k5:=k5)
  FB (mN:=mN) (T.hasType FB.hasBase) (I.ok.hd rfl) rfl hni (jB I hg O.bound ⟨rfl,?_⟩ hd)
 exact evalArgs_empty ⟨rfl,cv _,I.bk _ _ hC,hN.keeps I.bk,T.keeps I.bk,fun h' e hx=>GW kn I hx h⟩
end
section
variable {P:Program}{w:World}{K:W.Frag}{mg:Str->Option Value}{base:Heap}
theorem IY{CX:CXT}{k:Nat}{f:Addr}{name qual:Str}{params:Arguments}{body:List Stmt}{scope:Scope}{dV kV md pm jx ct oc:Value}{an od:Option Addr}
  {mw:Array (Option Value)}{N ps:List Str}{sp:Sp} (lk:K.lookup f=some ⟨oc,od,.func (W.fnOf name qual params body scope dV kV md pm an jx ct),mw⟩) (om:W.codeIn K jx qual=true) (S:aM N ps scope)
  (len:∀vs H Q E,sp vs H Q E->vs.length=ps.length)
  (lz:∀(A:Around)(outer:List Env)(s:Shared)(H:Hp)(vs:List V)(Q:VK)(E:XK),d4 k (A.deeper (envOfC qual scope s.heap.objs.size f jx))->HOk P w H s.heap->sp vs H Q E ->
   ∃t,PSs (uN CX P w K mg base N qual scope f jx A outer s H E) body t/\t {nx:=fun _ H'=>Q .non H',rt:=Q} (start N vs) H):
  bN P w K mg base CX (k+1) f (W.fnOf name qual params body scope dV kV md pm an jx ct) ps sp:=by
 refine⟨len,fun A outer s H args us vs Q E hr e0 hb r uf=>?_⟩;have hl:=len _ _ _ _ uf;have KX:K.In s.heap:=e0.mod.kin.keeps fun b o e=>(e0.bs b o e).1
 have yw:s.heap.NoLimit:=e0.mod.nolimit.keeps fun b o e=>(e0.bs b o e).1
 have qg:∀y∈ps.zip us,scope.names.lookup y.1=some .local\/(scope.names.lookup y.1=some .cell/\((cellsFrom (s.heap.objs.size+1) scope.names []).lookup y.1).isSome=true):=fun⟨n,v⟩ hy=>by
  rcases S.par n (of_mem_zip hy).1 with q|q
  ·exact .inl q
  ·exact .inr ⟨q,W.cellsFrom_some _ _ _ (.inl q)⟩
 refine codeAny_call_function hr.depth (KX _ _ lk) rfl S.co S.gen rfl (W.codeRec_of KX om) (hb _ _ _ _ ?_);refine wpAny_newFunctionEnv_cells S.kind qg fun env he s1 x=>?_
 subst he;refine⟨yw.keeps x.toInCall.keep,codeAny_func ?_⟩;obtain⟨t,ht,hq⟩:=lz A outer s H vs Q E (hr.deeper _) e0.hok uf;have I:Inv (uN CX P w K mg base N qual scope f jx A outer s H E) [] (start N vs) H s1:=pS S hr.hd e0 hl r x;refine wpAny_mono (ht [] s1 (start N vs) H _ I hq) (fun fl s' hs=>?_) fun e s' hs=>hs
 have fin:∀{σ':L2.St}{H':Hp}{v:V}{u:Value},Inv (uN CX P w K mg base N qual scope f jx A outer s H E) [] σ' H' s'->RelV v u->Q v H'->CE outer P w H s Q u s':=
  fun{σ' H' v u} J rv q=>⟨v,H',J.os,J.bare,J.base,J.hok,rv,q⟩
 cases fl with
 |ret u=>obtain⟨v,σ',H',J,rv,q⟩:=hs;exact fin J rv q
 |next=>obtain⟨σ',H',J,q⟩:=hs;exact fin (v:=V.non) (u:=Value.none) J rfl q
 |brk=>obtain⟨_,_,_,q⟩:=hs;exact False.elim q
 |cont=>obtain⟨_,_,_,q⟩:=hs;exact False.elim q
theorem okX{x qual:Str}{st:Stmt}{f:Addr}{fd:FuncData}{N ps:List Str}{k:Nat}{sp:Sp}(F:Fun K x qual st f fd)(S:aM N ps (aH st))(len:∀vs H Q E,sp vs H Q E->vs.length=ps.length)
  (lz:∀(jx:Value)(A:Around)(outer:List Env)(s:Shared)(H:Hp)(vs:List V)(Q:VK)(E:XK),d4 k (A.deeper (envOfC qual (aH st) s.heap.objs.size f jx))->HOk P w H s.heap->sp vs H Q E ->
   ∃t,PSs (cxF P w K mg base N qual (aH st) f jx A outer s H E) (eZ st) t/\t {nx:=fun _ H'=>Q .non H',rt:=Q} (start N vs) H):bN P w K mg base CXf (k+1) f fd ps sp:=by
 obtain⟨oc,od,kV,md,pm,an,jx,ct,mw,rfl,lk,om⟩:=F.ex;exact IY lk om S len fun A outer s H vs Q E hr hk uf=>lz jx A outer s H vs Q E hr hk uf
end
section
variable {X:Cx}{x:Str}{pos:Pos}
def mU(mg:Str->Option Value)(x:Str)(n:Int):Prop:=∃t,mg x=some (.int n t)
theorem cH{n:Int}(h:mU X.mg x n)(hg:Gl X x)(hd:(x==("__debug__" : Str))=false:=by decide):PE X (.Name x pos) (tC (.int n)):=by obtain⟨t,h⟩:=h;exact D0 (v:=.int n) hg h ⟨t,rfl⟩ hd
theorem eX{a:Addr}(h:X.mg x=some (.ref a))(hg:Gl X x)(hd:(x==("__debug__" : Str))=false:=by decide):PE X (.Name x pos) (tC (.ref a)):=D0 (v:=.ref a) hg h rfl hd
end
noncomputable def CT2(K:W.Frag)(a:Addr)(ps:List (Int×Int)):Prop:=∃xs,(∀H,SqT K H a xs)/\Paired (fun v p=>∀H,C2 K H v p) xs ps
theorem pairs_at{α β:Type}{R:α->β->Prop}:∀{l:List α}{m:List β},Paired R l m->∀{i:Nat}{a:α},l[i]? =some a->∃b,m[i]? =some b/\R a b
 |_,_,.nil,_,_,h=>by simp at h
 |_,_,.cons r _,0,_,h=>by simp at h;subst h;exact⟨_,rfl,r⟩
 |_,_,.cons _ t,i+1,a,h=>by obtain⟨b,h1,h2⟩:=pairs_at t (i:=i) (a:=a) (by simpa using h);exact⟨b,by simpa using h1,h2⟩
theorem iS{α β:Type}{R:α->β->Prop}:∀{l:List α}{m:List β},Paired R l m->∀{i:Nat}{b:β},m[i]? =some b->∃a,l[i]? =some a/\R a b
 |_,_,.nil,_,_,h=>by simp at h
 |_,_,.cons r _,0,_,h=>by simp at h;subst h;exact⟨_,rfl,r⟩
 |_,_,.cons _ t,i+1,b,h=>by obtain⟨a,h1,h2⟩:=iS t (i:=i) (b:=b) (by simpa using h);exact⟨a,by simpa using h1,h2⟩
theorem pairs_len{α β:Type}{R:α->β->Prop}:∀{l:List α}{m:List β},Paired R l m->l.length=m.length
 |_,_,.nil=>rfl
 |_,_,.cons _ t=>by simp[pairs_len t]
theorem aZ{α β:Type}{R:α->β->Prop}{a:α}{b:β}(r:R a b):∀{l:List α}{m:List β},Paired R l m->Paired R (l++[a]) (m++[b])
 |_,_,.nil=>.cons r .nil
 |_,_,.cons q t=>.cons q (aZ r t)
theorem aJ{α β:Type}{R S:α->β->Prop}(f:∀a b,R a b->S a b):∀{l:List α}{m:List β},Paired R l m->Paired S l m
 |_,_,.nil=>.nil
 |_,_,.cons r t=>.cons (f _ _ r) (aJ f t)
theorem aW{xs:List V}{z:Int}{v:V}(h0:0<=z)(h:xs[z.toNat]? =some v):atI xs z=some v:=at_of (j:=z.toNat) (cb h0).symm h
abbrev PI:=Int×Int
abbrev PI3:=Int×Int×Int
noncomputable def LI(H:Hp)(v:V)(ns:List Int):Prop:=∃a,v=.ref a/\H a=some (.lst (ns.map V.int))
noncomputable def LLI(H:Hp)(a:Addr)(rows:List (List Int)):Prop:=∃xs,H a=some (.lst xs)/\Paired (LI H) xs rows
noncomputable def LT(H:Hp)(v:V)(ps:List PI):Prop:=∃a xs,v=.ref a/\H a=some (.lst xs)/\Paired (T2 H) xs ps
noncomputable def LLT(H:Hp)(v:V)(ws:List (List PI)):Prop:=∃a xs,v=.ref a/\H a=some (.lst xs)/\Paired (LT H) xs ws
theorem LI.mono{H H':Hp}{v:V}{ns:List Int}(e:a9 H H')(h:LI H v ns):LI H' v ns:=let⟨a,h1,h2⟩:=h;⟨a,h1,e _ _ h2⟩
theorem LT.mono{H H':Hp}{v:V}{ps:List PI}(e:a9 H H')(h:LT H v ps):LT H' v ps:=let⟨a,xs,h1,h2,h3⟩:=h;⟨a,xs,h1,e _ _ h2,aJ (fun _ _ q=>q.mono e) h3⟩
theorem LLT.mono{H H':Hp}{v:V}{ws:List (List PI)}(e:a9 H H')(h:LLT H v ws):LLT H' v ws:=let⟨a,xs,h1,h2,h3⟩:=h;⟨a,xs,h1,e _ _ h2,aJ (fun _ _ q=>q.mono e) h3⟩
def k2(p:PI):List Key:=[.inl p.1,.inl p.2]
def k3(p:PI3):List Key:=[.inl p.1,.inl p.2.1,.inl p.2.2]
theorem BO{p q:PI}(h:k2 p=k2 q):p=q:=by obtain⟨a,b⟩:=p;obtain⟨c,d⟩:=q;simp[k2]at h;rw[h.1,h.2]
theorem II{p q:PI3}(h:k3 p=k3 q):p=q:=by obtain⟨a,b,e⟩:=p;obtain⟨c,d,f⟩:=q;simp[k3]at h;rw[h.1,h.2.1,h.2.2]
section
variable {κ:Type} [DecidableEq κ] {kf:κ->List Key} (hk:∀p q,kf p=kf q->p=q)
noncomputable def kvF(kf:κ->List Key)(kvs:List (κ×V)):List (List Key×V):=kvs.map fun x=>(kf x.1,x.2)
include hk in
theorem GB(kvs:List (κ×V))(k:κ):rZ (kvF kf kvs) (kf k)=RM.aN kvs k:=by
 unfold kvF;induction kvs with
 |nil=>rfl
 |cons x r ih=>
  rw[bp,RM.cK];by_cases e:x.1=k
  ·rw[ag e,mX (by rw[e])]
  ·rw[af e,mY (fun z=>e (hk _ _ z)),ih]
include hk in
theorem B3(kvs:List (κ×V))(k:κ)(v:V):putK (kvF kf kvs) (kf k) v=kvF kf (RM.dN kvs k v):=by
 unfold putK RM.dN kvF;have e1:((kvs.map fun x=>(kf x.1,x.2)).any fun kv=>decide (kv.1=kf k))=kvs.any fun x=>decide (x.1=k):=by
  rw[any_map];congr 1;funext x;simp only[Function.comp];by_cases e:x.1=k
  ·simp[e]
  ·have e':¬kf x.1=kf k:=fun z=>e (hk _ _ z)
   simp[e,e']
 rw[e1];split
 ·rw[gb,gb];apply fi;intro x _;simp only[Function.comp];by_cases e:x.1=k
  ·simp[e]
  ·have e':¬kf x.1=kf k:=fun z=>e (hk _ _ z)
   simp[e,e']
 ·simp
end
theorem fE{κ:Type}{kf:κ->List Key}(kvs:List (κ×V)):(kvF kf kvs).length=kvs.length:=by simp[kvF]
def D2(H:Hp)(a:Addr)(kvs:List (PI×V)):Prop:=H a=some (.dT (kvF k2 kvs))
def R2(H:Hp)(a:Addr)(kvs:List (PI×V)):Prop:=Rd H a (.dT (kvF k2 kvs))
def D3(H:Hp)(a:Addr)(kvs:List (PI3×V)):Prop:=H a=some (.dT (kvF k3 kvs))
def R3(H:Hp)(a:Addr)(kvs:List (PI3×V)):Prop:=Rd H a (.dT (kvF k3 kvs))
theorem D2.rd{H:Hp}{a:Addr}{kvs:List (PI×V)}(h:D2 H a kvs):R2 H a kvs:=.inl h
theorem D3.rd{H:Hp}{a:Addr}{kvs:List (PI3×V)}(h:D3 H a kvs):R3 H a kvs:=.inl h
theorem R2.mono{H H':Hp}{a:Addr}{kvs:List (PI×V)}(e:a9 H H')(h:R2 H a kvs):R2 H' a kvs:=a9.rd e h
theorem R3.mono{H H':Hp}{a:Addr}{kvs:List (PI3×V)}(e:a9 H H')(h:R3 H a kvs):R3 H' a kvs:=a9.rd e h
theorem R2.get{H:Hp}{a:Addr}{kvs:List (PI×V)}(h:R2 H a kvs){b:Addr}{p:PI}(hb:H b=some (.tup [.int p.1,.int p.2])):lB H a (.ref b) (RM.aN kvs p):=
 .inr ⟨_,k2 p,b,h,rfl,hb,(GB (fun _ _=>BO) kvs p).symm⟩
theorem R3.get{H:Hp}{a:Addr}{kvs:List (PI3×V)}(h:R3 H a kvs){b:Addr}{p:PI3}(hb:H b=some (.tup [.int p.1,.int p.2.1,.int p.2.2])):lB H a (.ref b) (RM.aN kvs p):=
 .inr ⟨_,k3 p,b,h,rfl,hb,(GB (fun _ _=>II) kvs p).symm⟩
theorem D2.put{H:Hp}{a:Addr}{kvs:List (PI×V)}(h:D2 H a kvs){b:Addr}{p:PI}(hb:H b=some (.tup [.int p.1,.int p.2]))(v:V)(hl:kvs.length<sizeLine):LG H a (.ref b) v (upd H a (.dT (kvF k2 (RM.dN kvs p v)))):=
 .inr ⟨_,k2 p,b,h,rfl,hb,by rw[fE];exact hl,by rw[B3 (fun _ _=>BO)]⟩
theorem D3.put{H:Hp}{a:Addr}{kvs:List (PI3×V)}(h:D3 H a kvs){b:Addr}{p:PI3}(hb:H b=some (.tup [.int p.1,.int p.2.1,.int p.2.2]))(v:V)(hl:kvs.length<sizeLine):LG H a (.ref b) v (upd H a (.dT (kvF k3 (RM.dN kvs p v)))):=
 .inr ⟨_,k3 p,b,h,rfl,hb,by rw[fE];exact hl,by rw[B3 (fun _ _=>II)]⟩
theorem a9.put{H0 H:Hp}{a:Addr}{o:HO}(e:a9 H0 H)(h:H0 a=none):a9 H0 (L2.upd H a o):=fun b u q=>by rw[aC (aI q h)];exact e b u q
theorem qZ{h h' base:Heap}:∀{l:List Env},h.FunFrames base l->(∀b∈frs l,∀o,h.get? b=some o->(∀vs,o.data≠ .fields vs)->∃o',h'.get? b=some o'/\o'.data=o.data)->h'.FunFrames base l
 |[],_,_=>trivial
 |env::r,⟨hk,⟨L,o,hf,hn,ho,hd⟩,hr⟩,k=>by
  have e:frs (env::r)=L::frs r:=by unfold frs;rw[fg,hf]
  rw[e]at k;obtain⟨o',h1,h2⟩:=k L (by simp) o ho hd;exact⟨hk,⟨L,o',hf,hn,h1,fun vs=>h2▸hd vs⟩,qZ hr fun b hb=>k b (by simp[hb])⟩
theorem BN{M:Model}{A:Around}{E:Value->Shared->Prop}{s:Shared}{base:Heap}{env:Env}{outer:List Env}{L e:Addr}{cls a0 fl:Value}{Q:Unit->Shared->Prop}
  (wm:A.frames=some (env::outer)) (hf:env.frame=some L) (hkb:base.StaysIn s.heap) (qh:base.get? e=none) (hl:s.heap.FunFrames base (env::outer)) (ht:s.heap.TracedAtW base e cls a0 fl)
  (hQ:∀h',Heap.FlyingW base outer e cls a0 h'->s.heap.UpToSlots h'->Q () {s with heap:=h'}):wpAny M A (leaving env (.ref e)) Q E s:=by
 by_cases zx:fl=rawInt L
 ·subst zx;unfold leaving;refine aa (wpAny_noteFrame_againW hf ht (wpAny_landsW (l:=env::outer) ⟨hkb,qh,hl,ht⟩ fun h' fl' up=>?_));obtain⟨k1,k2,⟨_,_,k3⟩,k4⟩:=fl';exact hQ h' ⟨k1,k2,k3,k4⟩ up
 ·obtain⟨oe,vs,T,oT,ts,he,⟨qi,h0⟩,hd,h1,hnT,hTe,hT,wu,h3⟩:=ht;subst qi;have sz:3<ts.size:=(gr.mp h3).1;have pd:∀b,b≠T->(s.heap.update T (Obj.mapFields (·.setIfInBounds 3 Value.none))).get? b=s.heap.get? b:=fun b hb=>Heap.get?_update_other _ _ hb.symm
  have apart:∀b o,s.heap.get? b=some o->(∀ws,o.data≠ .fields ws)->b≠T:=fun b o hb nf z=>nf ts (by rw[z,hT]at hb;cases hb;exact wu)
  unfold leaving noteFrame;simp only[hf];refine aa (aa (wpAny_field he hd h1 ?_));rw[ag (by simp:(Value.ref T !=Value.none)=true)];refine aa (wpAny_field hT wu h3 ?_);rw[af (by simpa using zx)];refine aa (wpAny_setField hT wu sz (wpAny_newEntryW wm ?fr hf ((pd e hTe.symm).trans he) ?st qh hd (gr.mp h1).1 h0 fun h' left=>?fin));case fr=>exact hl.of_keeps fun b o hb nf=>⟨o,(pd b (apart b o hb nf)).trans hb,rfl⟩
  case st=>exact fun b o hb=>(pd b fun z=>by rw[z,hnT]at hb;cases hb).trans (hkb b o hb)
  case fin=>obtain⟨k1,⟨_,_,k2⟩,k3,k4⟩:=left;exact hQ h' ⟨k1,qh,k2,k3⟩ fun b o hb nf=>k4 b o ((pd b (apart b o hb nf)).trans hb) nf
noncomputable abbrev uP(X:Cx)(s:Shared)(H:Hp)(scope:Scope)(jt:Env)(fp:List Addr)(EC:Addr->Prop):Cx:=
 (X.blk s H scope jt fp).rE fun e s'=>∃ae C,e=.ref ae/\Fly X.stack fp H s ae C s'/\EC C/\∃m,s'.heap.Ns jt.locals m
section
variable {P:Program}{w:World}{K:W.Frag}{mg:Str->Option Value}{base:Heap}{N:List Str}{qual:Str}{js:Scope}{f:Addr}{cd:Value}{A:Around}{outer:List Env}{s0:Shared}{H0:Hp}{E:XK}
theorem HJ{X:Cx}{s:Shared}{H:Hp}{scope:Scope}{jt:Env}{fp:List Addr}(hk:HOk X.prog X.w H s.heap){E':Value->Prop}:Passes CXf (uP X s H scope jt fp fun C=>E' (.ref C)) (fun c _ _=>E' c):=by
 intro jr σ H1 s1 e s' I h;obtain⟨ae,C,rfl,⟨⟨a0,fl⟩,slot,os,bare⟩,hE⟩:=h;have Ae:Heap.FlyingW (g9 s.heap H (frs X.stack++fp)) X.stack ae (.ref C) a0 s'.heap:=
  W.flyingW_base (fun b o q=>by
   obtain⟨z1,z2,z3,_⟩:=stays I hk (ex:=fp) (fun _ z=>z) q;exact gJ z1 z2 (by rw[nP];exact z3)) fl
 refine⟨ae,C,rfl,⟨⟨a0,Ae⟩,fun b hb o q=>?_,os.trans I.os,bare⟩,hE,?_⟩
 ·obtain⟨sl1,q1⟩:=kA I (show b∈frs X.stack from hb) (fun z=>I.ok.C5 b z hb) q;obtain⟨so,q2⟩:=slot b hb _ q1;exact⟨so,q2⟩
 ·obtain⟨m,⟨oL,es,ep,Cm,hdL,r⟩,_⟩:=I.loc;have hnf:jt.locals∉frs X.stack:=fun z=>by obtain⟨_,o,ho,_⟩:=I.ok.kL.mem (b:=jt.locals) z;exact absurd (bq ho) (not_lt.mpr I.ok.above)
  have hid:jE (H1 jt.locals)=false:=by have z:H1 jt.locals=none:=I.free;rw[z];rfl
  exact⟨m,oL,es,ep,fl.1 _ _ (gJ Cm hid (by rw[nP];exact hnf)),hdL,r⟩
theorem HR(kn:HOk P w H0 s0.heap){jr:List (Addr×Obj)}{σ:L2.St}{H3:Hp}{s3:Shared}{fp:List Addr}{scope:Scope}{cl:List (Str×Addr)}{use:Option (Value->Sem Unit)}{Qf:Value->Shared->Prop}{acc e:Value}{s':Shared}
  (I3:Inv (cxF P w K mg base N qual js f cd A outer s0 H0 E) jr σ H3 s3) (xu:∀b∈fp,mV (cxF P w K mg base N qual js f cd A outer s0 H0 E) jr H3 b)
  (hx:∃ae C,e=.ref ae/\Fly (cxF P w K mg base N qual js f cd A outer s0 H0 E).stack fp H3 s3 ae C s'/\E (.ref C) none H0/\∃m,s'.heap.Ns s3.heap.objs.size m):
  notedBy (model P w) (cxF P w K mg base N qual js f cd A outer s0 H0 E).A (compEnvC scope cl s3.heap.objs.size (cxF P w K mg base N qual js f cd A outer s0 H0 E).env)
   (fun e s'=>compPost (model P w) (cxF P w K mg base N qual js f cd A outer s0 H0 E).A (cxF P w K mg base N qual js f cd A outer s0 H0 E).xe use Qf acc s3.heap.objs.size (.error e) s') e s':=by
 obtain⟨ae,C,rfl,⟨⟨a0,fl⟩,slot,os,bare⟩,hE,m,hn⟩:=hx;have low:∀b o,(g9 s0.heap H0 (frs outer++[])).get? b=some o->b<s0.heap.objs.size:=fun b o q=>bq (yS q).1
 have Ae:Heap.FlyingW (g9 s0.heap H0 (frs outer++[])) (cxF P w K mg base N qual js f cd A outer s0 H0 E).stack ae (.ref C) a0 s'.heap:=
  W.flyingW_base (fun b o q=>by
   obtain⟨z1,z2,z3,_⟩:=stays I3 kn (ex:=[]) (fun _ z=>z) q;refine gJ z1 z2 fun z=>(aw.mp z).elim z3 fun z=>?_
   rcases(xu b z).2.2.2.1 with y|y
   ·exact nomatch y
   ·exact absurd (low b o q) (not_lt.mpr y)) fl
 show wpAny (model P w) _ (noteFrame (.ref ae) (cxF P w K mg base N qual js f cd A outer s0 H0 E).env) _ _ _
 refine wpAny_looks_onW (L:=s0.heap.objs.size) (outer:=outer) I3.ok.frames rfl Ae fun h1 wt up1=>?_
 have goal:∃m,h1.Ns s3.heap.objs.size m/\∀h',Heap.SameBut s3.heap.objs.size h1 h'->∀jt:Env,jt.locals=s3.heap.objs.size ->
   wpAny (model P w) (cxF P w K mg base N qual js f cd A outer s0 H0 E).A (PySem.passOn "comprehension.variables-let-go" (.ref ae) jt:Sem Value) (fun _ _=>False) (cxF P w K mg base N qual js f cd A outer s0 H0 E).xe {s' with heap:=h'}:=by
  have hn1:=up1.ns hn;refine⟨m,hn1,fun h2 sb jt _=>?_⟩;obtain⟨oL,es,ep,Cm,hdL,_⟩:=hn1;obtain⟨f1,f2,f3,oe,vs,T,oT,ts,he,hc,hd,h1',hnT,hTe,hT,wu,h3⟩:=wt;have nC:∀b o,h1.get? b=some o->(∃ws,o.data=.fields ws)->b≠s3.heap.objs.size:=fun b o q ⟨ws,z⟩ y=>by rw[y,Cm]at q;cases q;rw[hdL]at z;cases z
  have he2:h2.get? ae=some oe:=(sb.2 ae (nC ae oe he ⟨vs,hd⟩)).trans he;have yc:h2.get? T=some oT:=(sb.2 T (nC T oT hT ⟨ts,wu⟩)).trans hT;have sz:3<ts.size:=(gr.mp h3).1;unfold PySem.passOn setFlight;refine aa (wpAny_field he2 hd h1' ?_);rw[af (by simp:¬((Value.ref T==Value.none)=true))];refine aa (aa (wpAny_field he2 hd h1' ?_));rw[ag (by simp:(Value.ref T !=Value.none)=true)];refine wpAny_setField yc wu sz (wpAny_throw ?_);have pd:∀b,b≠T->(h2.update T (Obj.mapFields (·.setIfInBounds 3 (jt.frame.elim Value.none fun f=>rawInt f)))).get? b=h2.get? b:=fun b hb=>Heap.get?_update_other _ _ hb.symm
  have fr:∀b∈frs (cxF P w K mg base N qual js f cd A outer s0 H0 E).stack,b≠s3.heap.objs.size:=fun b hb=>by obtain⟨_,o,q,_⟩:=I3.stack.mem (b:=b) hb;exact da (bq q)
  have nT:∀b o,h1.get? b=some o->(∀ws,o.data≠ .fields ws)->b≠T:=fun b o q nf y=>nf ts (by rw[y,hT]at q;cases q;exact wu)
  refine BN (base:=g9 s0.heap H0 (frs outer++[])) (L:=s0.heap.objs.size) (outer:=outer) (cls:=.ref C) (a0:=a0) (fl:=jt.frame.elim Value.none fun f=>rawInt f) I3.ok.frames rfl ?st f2 ?fr ?tr fun h4 fl4 up4=>?fin
  case st=>intro b o q;have l1:=low b o q;have l2:b≠s3.heap.objs.size:=da (cc l1 I3.sz);rw[pd b fun z=>by rw[z,hnT]at q;cases q];exact(sb.2 b l2).trans (f1 b o q)
  case fr=>exact qZ f3 fun b hb o q nf=>⟨o,(pd b (nT b o q nf)).trans ((sb.2 b (fr b hb)).trans q),rfl⟩
  case tr=>exact⟨oe,vs,T,_,_,(pd ae hTe.symm).trans he2,hc,hd,h1',hnT,hTe,Heap.get?_update_self _ yc (Obj.isFreed_of_fields (Obj.data_mapFields wu _)),Obj.data_mapFields wu _,by simp[sz]⟩
  case fin=>
   refine⟨ae,C,rfl,⟨⟨_,fl4⟩,fun b hb o q=>?_,os.trans I3.os,bare⟩,hE⟩;have wz:b∈frs (cxF P w K mg base N qual js f cd A outer s0 H0 E).stack:=by
    show b∈frs (_::outer)
    unfold frs;rw[fg];exact au _ hb
   obtain⟨sl1,q1⟩:=kA I3 hb (by intro z;exact nomatch z) q;obtain⟨so,q2⟩:=slot b wz _ q1;obtain⟨o3,q3,nf⟩:=(fl.2.2.1.mem (b:=b) wz).2;rw[q2]at q3;cases q3;obtain⟨Ak,q4⟩:=up1 b _ q2 nf;have q5:=(pd b (nT b _ q4 nf)).trans ((sb.2 b (fr b wz)).trans q4);obtain⟨sl4,q6⟩:=up4 b _ q5 nf;exact⟨sl4,q6⟩
 cases use<;>exact goal
end
section
variable {P:Program}{w:World}{K:W.Frag}{mg:Str->Option Value}{base:Heap}{N:List Str}{qual:Str}{js:Scope}{f:Addr}{cd:Value}{A:Around}{outer:List Env}{s0:Shared}{H0:Hp}{E:XK}
theorem z4{X:Cx}(hX:X=cxF P w K mg base N qual js f cd A outer s0 H0 E)(kn:HOk P w H0 s0.heap){jr:List (Addr×Obj)}{s:Shared}{σ:L2.St}{H:Hp}{Q:VK}{mf tg iter:Expr}{scope:Scope}{own:List (Str×Nat)}{pos ku:Pos}{wi:TI}{g:TG}{te:TE}{use:Option (Value->Sem Unit)}{Qf:Value->Shared->Prop}
  (hN:X.N.Nodup) (I:Inv X jr σ H s) (hi:L2.PI X tg iter wi) (ok:oV X.N X.env.scope scope own)
  (hg:∀(s:Shared)(H:Hp)(C:Addr)(cl:List (Str×Addr))(fp:List Addr),PG (uP X s H scope (compEnvC scope cl C X.env) fp fun C=>E (.ref C) none H0) tg g)
  (he:∀(s:Shared)(H:Hp)(C:Addr)(cl:List (Str×Addr))(fp:List Addr),HOk X.prog X.w H s.heap->PE (uP X s H scope (compEnvC scope cl C X.env) fp fun C=>E (.ref C) none H0) mf te) (hs:∀x,foldedSetIterable iter X.env x=pure x)
  (h:tLc wi g GG te (own.map (·.2)) σ H Q)
  (hRR:∀D C s' m H',Inv X jr σ H' s'->Q (.ref D) H'->s'.heap.Ns C m->mV X jr H' C->compPost (model X.prog X.w) X.A X.xe use Qf (.ref D) C (.ok .next) s'):
  wpAny (model X.prog X.w) X.A (comprehension (.ListComp mf [⟨tg,iter,[],0⟩] scope pos) scope X.env ku (newList []) false (eval iter X.env) use) Qf X.xe s:=by
 have lu:∀y∈scope.names,y.2=.free->∃c,X.env.cells.lookup y.1=some c:=fun y hy e=>by
  rcases ok.free y hy e with k|k
  ·exact I.ok.has _ (.inl k)
  ·exact I.ok.has _ (.inr k)
 refine wpAny_comprehension_free (use:=use) rfl hs (mS lu) ok.kind (fun y hy e=>by rw[ok.uniq y hy,e])
  (thn (hi jr s σ H _ I h) fun xv s1 hx=>thn hx fun itv s2 h2=>?_)
 obtain⟨it,fp,tn,J,H2,e,I2,T,yl,f2,q⟩:=h2;subst e;refine wpAny_newObj_type (qT ?_) (by show 0<=sizeLine;decide);generalize hD:s2.heap.objs.size=D;have hDn:H2 D=none:=I2.hok.fresh (ib hD);obtain⟨W,⟨m0,w0⟩,kr⟩:=q D hDn;generalize hs3:({s2 with heap:=s2.heap.push {cls:=.type "list",data:=.seq ([]:List Value).toArray}}:Shared)=s3;have I3:Inv X jr σ (upd H2 D (.lst [])) s3:=by rw[<- hs3];refine I2.laid (t':=s2.toks) (fun b o e=>aq _ e) (ib hD) ⟨cv _,[],0,.nil,?_⟩;rw[<- hD];exact bb _ rfl
 have h3:s3.heap=s2.heap.push {cls:=.type "list",data:=.seq ([]:List Value).toArray}:=by rw[<- hs3]
 have sz:∀b∈fp,b<s2.heap.objs.size:=fun b hb=>by obtain⟨o,e,_⟩:=T.obj _ _ yl b hb;exact bq e
 have f3:∀b∈fp,mV X jr (upd H2 D (.lst [])) b/\b<s3.heap.objs.size:=fun b hb=>by have jz:=sz b hb;refine⟨⟨?_,(f2 b hb).2⟩,by rw[h3,fx];exact ir jz⟩;rw[aC (by rw[<- hD];exact da jz)];exact(f2 b hb).1
 have Aj:tn 0 s3.heap:=T.keep _ _ _ yl fun b _ o e=>by rw[h3];exact aq _ e
 have I4':=rB I3 ok hN f3;have pg:=hg s3 (upd H2 D (.lst [])) s3.heap.objs.size (cellsFrom (s3.heap.objs.size+1) scope.names (bJ X.env.cells scope.names [])) fp;have pe:=he s3 (upd H2 D (.lst [])) s3.heap.objs.size (cellsFrom (s3.heap.objs.size+1) scope.names (bJ X.env.cells scope.names [])) fp I3.hok;show codeAny _ _ (.compStart (.ListComp mf [⟨tg,iter,[],0⟩] scope pos) 0 (.ref it) (.ref D) (compEnvC scope (cellsFrom (s3.heap.objs.size+1) scope.names (bJ X.env.cells scope.names [])) s3.heap.objs.size X.env)) (compPost (model X.prog X.w) X.A X.xe use Qf (.ref D) s3.heap.objs.size) {s3 with heap:=pushCells (s3.heap.push {cls:=.type "dict",data:=.dict #[]}) scope.names}
 have Br:∀b∈fp,(upd H2 D (.lst [])) b=none:=fun b hb=>(f3 b hb).1.1
 generalize nz:cellsFrom (s3.heap.objs.size+1) scope.names (bJ X.env.cells scope.names [])=cl at I4' pg pe ⊢;have pz:∀e s',(uP X s3 (upd H2 D (.lst [])) scope (compEnvC scope cl s3.heap.objs.size X.env) fp fun C=>E (.ref C) none H0).xe e s' ->
   notedBy (model X.prog X.w) X.A (compEnvC scope cl s3.heap.objs.size X.env) (fun e s'=>compPost (model X.prog X.w) X.A X.xe use Qf (.ref D) s3.heap.objs.size (.error e) s') e s':=fun e s' hx=>by
  subst hX;exact HR kn I3 (fun b hb=>(f3 b hb).1) hx
 generalize hce:compEnvC scope cl s3.heap.objs.size X.env=ce at I4' pg pe pz ⊢;have cL:ce.locals=s3.heap.objs.size:=by subst hce;rfl
 have I4:Inv (uP X s3 (upd H2 D (.lst [])) scope ce fp fun C=>E (.ref C) none H0) [] (wipe σ (own.map (·.2))) (upd H2 D (.lst [])) {s3 with heap:=pushCells (s3.heap.push {cls:=.type "dict",data:=.dict #[]}) scope.names}:=I4'.rE _;generalize hH3:upd H2 D (.lst [])=H3 at I3 I4 pg pe w0 Br f3 pz;generalize hs4:({s3 with heap:=pushCells (s3.heap.push {cls:=.type "dict",data:=.dict #[]}) scope.names}:Shared)=s4 at I4 ⊢;have Bi:tn 0 s4.heap:=T.keep _ _ _ Aj fun b _ o e=>by rw[<- hs4];exact pushCells_keeps _ _ _ _ (aq _ e)
 generalize hB:uP X s3 H3 scope ce fp (fun C=>E (.ref C) none H0)=B at I4 pg pe pz;have calm:B.calm=true:=by subst hB hX;rfl
 have mz:∀{σ':L2.St}{H':Hp}{s':Shared},Inv B [] σ' H' s'->(∀b∈fp,H' b=none)->∀b∈fp,mV B [] H' b:=fun{σ' H' s'} I' hn b hb=>by subst hB;exact⟨hn b hb,(I'.ok.exf b hb).1,I'.ok.C5 b hb,.inl hb,fun x c e=>(I'.ok.exf b hb).2 x c e,fun p hp=>absurd (show p∈([]:List (Addr×Obj))++[]from hp) (by simp)⟩
 have eP:B.prog=X.prog:=by subst hB;rfl
 have eW:B.w=X.w:=by subst hB;rfl
 have eK:B.K=X.K:=by subst hB;rfl
 have eA:B.A=X.A:=by subst hB;rfl
 have loop:codeAny (model X.prog X.w) X.A (.compLoop (.ListComp mf [⟨tg,iter,[],0⟩] scope pos) 0 (.ref it) (.ref D) ce) (compPost (model X.prog X.w) X.A X.xe use Qf (.ref D) s3.heap.objs.size) s4:=by
  refine oQ (fun n s'=>∃i H',Inv B [] (wipe σ (own.map (·.2))) H' s'/\tn i s'.heap/\(∀b∈fp,H' b=none)/\W i n H') ?_ m0 ⟨0,H3,I4,Bi,Br,w0⟩;rintro n s5 ⟨i,H5,I5,vt,n5,w5⟩;rcases kr i n H5 w5 with⟨stop,qq⟩|⟨go,Nx,hNx,step⟩
  ·have td:=T.done B eP eW eK calm i [] s5 _ H5 (fun _ _=>False) I5 (mz I5 n5) vt stop;rw[eA]at td;refine wL td fun r s6 ⟨hr,I6⟩=>?_
   subst hr;have I7:Inv X jr σ H5 s6:=by subst hB;exact I3.DV (ch:=fp) I6.os I6.base I6.hok I6.bare fun b hb=>⟨(f3 b hb).1.2.2.2.1,(f3 b hb).1.2.1,(f3 b hb).1.2.2.2.2.1,(f3 b hb).1.2.2.2.2.2⟩
   have nC:H5 s3.heap.objs.size=none:=by subst hB;have z:H5 ce.locals=none:=I6.free;rw[cL]at z;exact z
   obtain⟨m,hn⟩:∃m,s6.heap.Ns s3.heap.objs.size m:=by subst hB;obtain⟨m,hn,_⟩:=I6.loc;have hn:s6.heap.Ns ce.locals m:=hn;rw[cL]at hn;exact⟨m,hn⟩
   exact hRR D s3.heap.objs.size s6 m H5 I7 qq hn (I3.C1 (ax _) nC)
  ·have ti:=T.item B eP eW eK calm i [] s5 _ H5 (fun _ _=>False) I5 (mz I5 n5) vt go;rw[eA]at ti;refine wL ti fun r s6 ⟨u,hr,h6⟩=>?_
   subst hr;refine wL h6 fun _ s7 ⟨x,H7,I7,r7,y7,yk,n7⟩=>?_
   have I7':=I7.pinned (mz I7 n7) (T.obj _ _ yk);have pg':=pg _ s7 _ H7 x u _ I7' r7 (step x H7 y7);rw[eP,eW,eA]at pg';have ee:B.env=ce:=by subst hB;rfl
   rw[ee]at pg';refine wpAny_mono pg' (fun _ s8 ⟨σ8,H8,I8,By,q8⟩=>?_) pz;have fin:∀{s':Shared}{H':Hp},Inv B ([]++pI fp s7.heap) σ8 H' s'->Nx H'->∃m,m<n/\∃i H',Inv B [] (wipe σ (own.map (·.2))) H' s'/\tn i s'.heap/\(∀b∈fp,H' b=none)/\W i m H':=fun{s' H'} I' nx=>by
    obtain⟨m',hm,w'⟩:=hNx H' nx;have sq:∀b∈fp,∀o,s7.heap.get? b=some o->s'.heap.get? b=some o/\H' b=none:=fun b hb o e=>
     let z:=I'.pin (b,o) (bf _ (bf _ (jA hb e)))
     ⟨z.1,z.2.1⟩
    have hl:(wipe σ (own.map (·.2))).length=σ8.length:=by rw[<- By,gV]
    refine⟨m',hm,i+1,H',(I'.k7 (jr:=[])).weak hl (fun j v e=>?_),T.keep _ _ _ yk fun b hb o e=>(sq b hb o e).1,fun b hb=>?_,w'⟩
    ·rw[<- By]at e;exact(lD e).1
    ·obtain⟨o,e,_⟩:=T.obj _ _ yk b hb;exact(sq b hb o e).2
   refine ah ?_;have q8:(if true=true then te σ8 H8 fun y H4=>∃acc,H4 D=some (.lst acc)/\acc.length<sizeLine/\Nx (upd H4 D (.lst (acc++[y])))else Nx H8):=q8;simp only[if_true]at q8 ⊢;have pe':=pe _ s8 σ8 H8 _ I8 q8;rw[eP,eW,eA,ee]at pe';refine wpAny_mono pe' (fun z s10 ⟨yv,H10,I10,r10,acc,Ad,zb,nx⟩=>?_) pz;have ap:=JD (E:=notedBy (model X.prog X.w) X.A ce fun e s'=>compPost (model X.prog X.w) X.A X.xe use Qf (.ref D) s3.heap.objs.size (.error e) s') (Q:=fun _ s₅=>∃m,m<n/\∃i H',Inv B [] (wipe σ (own.map (·.2))) H' s₅/\tn i s₅.heap/\(∀b∈fp,H' b=none)/\W i m H') I10 Ad zb r10 fun s11 I11=>fin I11 nx
   rw[eP,eW,eA]at ap;exact ap
 exact codeAny_compStart_list loop (T.self X.A 0 _ _ _ Bi loop)
theorem MC(kn:HOk P w H0 s0.heap){mf tg iter:Expr}{scope:Scope}{own:List (Str×Nat)}{pos:Pos}{wi:TI}{g:TG}{te:TE}(hc:(cxF P w K mg base N qual js f cd A outer s0 H0 E).calm=true)(hN:N.Nodup)
  (hi:L2.PI (cxF P w K mg base N qual js f cd A outer s0 H0 E) tg iter wi) (ok:oV N js scope own)
  (hg:∀(s:Shared)(H:Hp)(C:Addr)(cl:List (Str×Addr))(fp:List Addr),PG (uP (cxF P w K mg base N qual js f cd A outer s0 H0 E) s H scope (compEnvC scope cl C (cxF P w K mg base N qual js f cd A outer s0 H0 E).env) fp fun C=>E (.ref C) none H0) tg g)
  (he:∀(s:Shared)(H:Hp)(C:Addr)(cl:List (Str×Addr))(fp:List Addr),HOk P w H s.heap->PE (uP (cxF P w K mg base N qual js f cd A outer s0 H0 E) s H scope (compEnvC scope cl C (cxF P w K mg base N qual js f cd A outer s0 H0 E).env) fp fun C=>E (.ref C) none H0) mf te)
  (hs:∀x,foldedSetIterable iter (cxF P w K mg base N qual js f cd A outer s0 H0 E).env x=pure x:=by intro _;rfl):
  PE (cxF P w K mg base N qual js f cd A outer s0 H0 E) (.ListComp mf [⟨tg,iter,[],0⟩] scope pos) (tLc wi g GG te (own.map (·.2))):=by
 intro jr s σ H Q I h;rw[eval_ListComp];refine z4 rfl kn hN I hi ok hg he hs h fun D C s' m H' I' q hn f=>⟨m,hn,fun xc sb=>?_⟩
 obtain⟨f0,f1,f2,f3,f4,f5⟩:=f;exact⟨.ref D,H',I'.turned (t':=s'.toks) (fun b o hb e=>(sb.2 b hb).trans e) f0 f1 f3 f4 f5,rfl,q⟩
theorem vD(kn:HOk P w H0 s0.heap){i:Nat}{y:Str}{py:Pos}{mf tg iter:Expr}{scope:Scope}{own:List (Str×Nat)}{pos sk:Pos}{wi:TI}{g:TG}{te:TE}(hc:(cxF P w K mg base N qual js f cd A outer s0 H0 E).calm=true)(hN:N.Nodup)(hy:N[i]? =some y)(uc:js.names.lookup y=some .local)
  (hsw:swapsWith (.ListComp mf [⟨tg,iter,[],0⟩] scope pos) (some (.Name y py)) sk.line (cxF P w K mg base N qual js f cd A outer s0 H0 E).env=pure true)
  (hi:L2.PI (cxF P w K mg base N qual js f cd A outer s0 H0 E) tg iter wi) (ok:oV N js scope own)
  (hg:∀(s:Shared)(H:Hp)(C:Addr)(cl:List (Str×Addr))(fp:List Addr),PG (uP (cxF P w K mg base N qual js f cd A outer s0 H0 E) s H scope (compEnvC scope cl C (cxF P w K mg base N qual js f cd A outer s0 H0 E).env) fp fun C=>E (.ref C) none H0) tg g)
  (he:∀(s:Shared)(H:Hp)(C:Addr)(cl:List (Str×Addr))(fp:List Addr),HOk P w H s.heap->PE (uP (cxF P w K mg base N qual js f cd A outer s0 H0 E) s H scope (compEnvC scope cl C (cxF P w K mg base N qual js f cd A outer s0 H0 E).env) fp fun C=>E (.ref C) none H0) mf te)
  (hs:∀x,foldedSetIterable iter (cxF P w K mg base N qual js f cd A outer s0 H0 E).env x=pure x:=by intro _;rfl):
  PS (cxF P w K mg base N qual js f cd A outer s0 H0 E) (.Assign [.Name y py] (.ListComp mf [⟨tg,iter,[],0⟩] scope pos) sk) (AX (tLc wi g GG te (own.map (·.2))) (hO i)):=by
 generalize hX:cxF P w K mg base N qual js f cd A outer s0 H0 E=X at*;have Dj:X.N.Nodup:=by subst hX;exact hN
 have Bx:X.N[i]? =some y:=by subst hX;exact hy
 have Bw:X.env.scope.names.lookup y=some .local:=by subst hX;exact uc
 have ok':oV X.N X.env.scope scope own:=by subst hX;exact ok
 intro jr s σ H D I h;rw[exec_Assign_Name_used _ _ _ _ hsw];refine aa (wpAny_standAt (aa ?_));show wpAny _ X.A (do let _<- comprehension (.ListComp mf [⟨tg,iter,[],0⟩] scope pos) scope X.env (firstIterPos [⟨tg,iter,[],0⟩] pos) (newList []) false (eval iter X.env) (some (assign (.Name y py) X.env))) _ _ s
 have h:tLc wi g GG te (own.map (·.2)) σ H (fun x H1=>hO i x σ H1 D.nx):=h;refine aa (thn (z4 (Qf:=fun _ s'=>SP X jr D .next s') hX.symm kn Dj I hi ok' hg (fun s H C cl fp hk=>he s H C cl fp (by subst hX;exact hk)) hs h fun L C s' m H' I' q hn f=>?_) fun _ s' hq=>ah (ah hq));show wpAny _ _ (assign (.Name y py) X.env (.ref L)) _ _ _
 refine wpAny_assign_Name (pA (v:=V.ref L) I' Dj Bx (.inl Bw) rfl (fun s2 I2 ⟨a,sb,ha⟩=>?_) (.inr Bw));obtain⟨f0,f1,f2,f3,f4,f5⟩:=f;have haC:C≠a:=by
  rcases ha with z|z
  ·rw[z];exact f1
  ·exact fun e=>f4 y a z e.symm
 refine⟨m,hn.sameBut sb haC,fun h3 sb3=>?_⟩;exact⟨_,H',I2.turned (t':=s2.toks) (fun b o hb e=>(sb3.2 b hb).trans e) f0 f1 f3 f4 f5,q⟩
end
theorem T2.upd{H:Hp}{v:V}{p:Int×Int}{D:Addr}{xs:List V}{o:HO}(h:T2 H v p)(hD:H D=some (.lst xs)):T2 (L2.upd H D o) v p:=by obtain⟨a,e,q⟩:=h;exact⟨a,e,by rw[aC (eJ q hD (by intro z;cases z))];exact q⟩
theorem T3.upd{H:Hp}{v:V}{p:Int×Int×Int}{D:Addr}{xs:List V}{o:HO}(h:T3 H v p)(hD:H D=some (.lst xs)):T3 (L2.upd H D o) v p:=by obtain⟨a,e,q⟩:=h;exact⟨a,e,by rw[aC (eJ q hD (by intro z;cases z))];exact q⟩
theorem LT.upd{H:Hp}{b D:Addr}{zs:List PI}{xs:List V}{o:HO}(h:LT H (.ref b) zs)(hD:H D=some (.lst xs))(n:b≠D):LT (L2.upd H D o) (.ref b) zs:=by obtain⟨a,ys,e,q,pr⟩:=h;cases e;exact⟨b,ys,rfl,by rw[aC n];exact q,aJ (fun _ _ z=>z.upd hD) pr⟩
theorem LLI.apart{H:Hp}{p:Addr}{xs:List V}(hp:H p=some (.lst xs)){v:V}(hv:v∈xs){row:List Int}(h:LI H v row):∃b,v=.ref b/\b≠p/\H b=some (.lst (row.map V.int)):=by obtain⟨b,rfl,q⟩:=h;refine⟨b,rfl,fun z=>?_,q⟩;rw[z,hp]at q;have q:=HO.lst.inj (Option.some.inj q);rw[q]at hv;obtain⟨n,_,e⟩:=ar.mp hv;cases e
theorem eY{α β:Type}{R:α->β->Prop}:∀{l:List α}{m:List β},Paired R l m->Paired R l.dropLast m.dropLast
 |_,_,.nil=>.nil
 |_,_,.cons _ .nil=>.nil
 |_,_,.cons r (.cons q t)=>.cons r (eY (.cons q t))
theorem lH{α β:Type}{R:α->β->Prop}:∀{l:List α}{m:List β},Paired R l m->Paired (fun a b=>a∈l/\b∈m/\R a b) l m
 |_,_,.nil=>.nil
 |_,_,.cons r t=>.cons ⟨by simp,by simp,r⟩ (aJ (fun _ _ ⟨h1,h2,h3⟩=>⟨au _ h1,au _ h2,h3⟩) (lH t))
theorem nR{α:Type}{a:α}:∀{l:List α},a∈l.dropLast->a∈l
 |[],h=>by cases h
 |[_],h=>by cases h
 |x::y::r,h=>by
  rcases ak.mp h with rfl|h
  ·simp
  ·exact au _ (nR h)
theorem tQ{K:W.Frag}{a:Addr}{xs:List V}{g:TG}{tb:TS}{D:Ends}{σ:L2.St}{H:Hp}(Pv:Nat->L2.St->Hp->Prop)(h0:Pv 0 σ H)(hl:∀i σ H,i<=xs.length->Pv i σ H->SqL K H a xs)
  (hs:∀i x σ H T,xs[i]? =some x->Pv i σ H->H T=none->g (.ref T) σ (upd H T (.tup [.int (i:Nat),x])) fun σ2 H2=>tb {D with nx:=Pv (i+1),ct:=Pv (i+1),bk:=D.nx} σ2 H2) (hd:∀σ H,Pv xs.length σ H->D.nx σ H):
  ∃W:Nat->Nat->L2.St->Hp->Prop,(∃m,W 0 m σ H)/\∀i m σ H,W i m σ H ->
   ((Ite K a).stop i H/\D.nx σ H)\/((Ite K a).go i H/\∃N:L2.St->Hp->Prop,(∀σ' H',N σ' H'->∃m',m'<m/\W (i+1) m' σ' H')/\∀x H',(Ite K a).yld i H x H'->g x σ H' fun σ2 H2=>tb {D with nx:=N,ct:=N,bk:=D.nx} σ2 H2):=by
 refine⟨fun i m σ H=>m=xs.length - i/\i<=xs.length/\Pv i σ H,⟨xs.length,by simp,cv _,h0⟩,?_⟩;rintro i m σ H ⟨rfl,hi,p⟩;have q:=hl i σ H hi p;by_cases jz:i<xs.length
 ·refine .inr ⟨⟨xs,xs[i],q,by simp[jz]⟩,Pv (i+1),fun σ' H' p'=>⟨xs.length - (i+1),by omega,rfl,jz,p'⟩,fun x H' y=>?_⟩;obtain⟨T,z,rfl,hT,rfl,y⟩:=y;exact hs i z σ H T (y xs q) p hT
 ·have e:i=xs.length:=by omega
  subst e;exact .inl ⟨⟨xs,q,ax _⟩,hd σ H p⟩
theorem oB{d:Addr}{od:Obj}{kvs:List (List Key×V)}{g:TG}{tb:TS}{D:Ends}{σ:L2.St}{H:Hp}(Pv:Nat->L2.St->Hp->Prop)(h0:Pv 0 σ H)(hl:∀i σ H,Pv i σ H->H d=some (.frz od (.dT kvs)))
  (hs:∀i k v q σ H,kvs[i]? =some (k,v)->H q=some (.tup (k.map kV))->Pv i σ H->g (.ref q) σ H fun σ2 H2=>tb {D with nx:=Pv (i+1),ct:=Pv (i+1),bk:=D.nx} σ2 H2) (hd:∀σ H,Pv kvs.length σ H->D.nx σ H):
  ∃W:Nat->Nat->L2.St->Hp->Prop,(∃m,W 0 m σ H)/\∀i m σ H,W i m σ H ->
   ((AD d od kvs).stop i H/\D.nx σ H)\/((AD d od kvs).go i H/\∃N:L2.St->Hp->Prop,(∀σ' H',N σ' H'->∃m',m'<m/\W (i+1) m' σ' H')/\∀x H',(AD d od kvs).yld i H x H'->g x σ H' fun σ2 H2=>tb {D with nx:=N,ct:=N,bk:=D.nx} σ2 H2):=by
 refine⟨fun i m σ H=>m=kvs.length - i/\i<=kvs.length/\Pv i σ H,⟨kvs.length,by simp,cv _,h0⟩,?_⟩;rintro i m σ H ⟨rfl,hi,p⟩;have q:=hl i σ H p;by_cases jz:i<kvs.length
 ·refine .inr ⟨⟨q,jz⟩,Pv (i+1),fun σ' H' p'=>⟨kvs.length - (i+1),by omega,rfl,jz,p'⟩,fun x H' y=>?_⟩;obtain⟨rfl,k,v,b,hk,rfl,hb⟩:=y;exact hs i k v b σ H' hk hb p
 ·have e:i=kvs.length:=by omega
  subst e;exact .inl ⟨⟨q,ax _⟩,hd σ H p⟩
theorem K9{d:Addr}{od:Obj}{kvs:List (List Key×V)}{g:TG}{tt:TT}{te:TE}{vs:List Nat}{σ:L2.St}{H1:Hp}{D:Addr}{Qd:Hp->Prop}(Pv:Nat->Hp->Prop)(h0:Pv 0 (upd H1 D (.lst [])))(hl:∀i H,Pv i H->H d=some (.frz od (.dT kvs)))
  (hs:∀i k v q H,kvs[i]? =some (k,v)->H q=some (.tup (k.map kV))->Pv i H->g (.ref q) (wipe σ vs) H fun σ2 H2=>wipe σ2 vs=wipe σ vs/\tt σ2 H2 fun b H3=>
   if b=true then te σ2 H3 fun y H4=>∃acc,H4 D=some (.lst acc)/\acc.length<sizeLine/\Pv (i+1) (upd H4 D (.lst (acc++[y])))else Pv (i+1) H3) (hd:∀H,Pv kvs.length H->Qd H):
  ∃W:Nat->Nat->Hp->Prop,(∃m,W 0 m (upd H1 D (.lst [])))/\∀i m H,W i m H ->
   ((AD d od kvs).stop i H/\Qd H)\/((AD d od kvs).go i H/\∃Nx:Hp->Prop,(∀H',Nx H'->∃m',m'<m/\W (i+1) m' H')/\∀x H',(AD d od kvs).yld i H x H'->g x (wipe σ vs) H' fun σ2 H2=>wipe σ2 vs=wipe σ vs/\tt σ2 H2 fun b H3=>
    if b=true then te σ2 H3 fun y H4=>∃acc,H4 D=some (.lst acc)/\acc.length<sizeLine/\Nx (upd H4 D (.lst (acc++[y])))else Nx H3):=by
 refine⟨fun i m H=>m=kvs.length - i/\i<=kvs.length/\Pv i H,⟨kvs.length,by simp,cv _,h0⟩,?_⟩;rintro i m H ⟨rfl,hi,p⟩;have q:=hl i H p;by_cases jz:i<kvs.length
 ·refine .inr ⟨⟨q,jz⟩,Pv (i+1),fun H' p'=>⟨kvs.length - (i+1),by omega,rfl,jz,p'⟩,fun x H' y=>?_⟩;obtain⟨rfl,k,v,b,hk,rfl,hb⟩:=y;exact hs i k v b H' hk hb p
 ·have e:i=kvs.length:=by omega
  subst e;exact .inl ⟨⟨q,ax _⟩,hd H p⟩
theorem a9.unlock{H H2:Hp}{d:Addr}{od:Obj}{u:HO}(h:H d=some u)(e:a9 (L2.upd H d (.frz od u)) H2):a9 H (L2.upd H2 d u):=fun b o q=>by
 by_cases hb:b=d
 ·subst hb;rw[a8];rw[h]at q;exact q
 ·rw[aC hb];exact e b o (by rw[aC hb];exact q)
theorem T2.rF{H:Hp}{v:V}{p:Int×Int}{D:Addr}{u o:HO}(h:T2 H v p)(hD:H D=some u)(hu:∀xs,u≠ .tup xs):T2 (L2.upd H D o) v p:=by obtain⟨a,e,q⟩:=h;exact⟨a,e,by rw[aC (eJ q hD (fun z=>hu _ z.symm))];exact q⟩
theorem T3.rF{H:Hp}{v:V}{p:Int×Int×Int}{D:Addr}{u o:HO}(h:T3 H v p)(hD:H D=some u)(hu:∀xs,u≠ .tup xs):T3 (L2.upd H D o) v p:=by obtain⟨a,e,q⟩:=h;exact⟨a,e,by rw[aC (eJ q hD (fun z=>hu _ z.symm))];exact q⟩
theorem JB{xs:List V}{k:Nat}{v:V}(hk:k<xs.length)(h:xs[if k=0 then xs.length - 1 else k - 1]? =some v):atI xs ((k:Int) - 1)=some v:=by
 by_cases h0:k=0
 ·subst h0;rw[ag rfl]at h;unfold atI ixN;rw[af (by omega),ag (by omega)];show xs[(((0:Nat):Int) - 1+(xs.length:Int)).toNat]? =some v
  rw[show(((0:Nat):Int) - 1+(xs.length:Int)).toNat=xs.length - 1 by omega];exact h
 ·rw[af h0]at h;exact aW (by omega) (by rw[show((k:Int) - 1).toNat=k - 1 by omega];exact h)
def CS(C:List (Nat×Nat)):List (PI×V):=C.map fun c=>(RM.iP c,.bl true)
theorem m4(C:List (Nat×Nat)):(CS C).map (·.1)=C.map RM.iP:=by simp[CS]
theorem fF{a b:Nat×Nat}(h:RM.iP a=RM.iP b):a=b:=by unfold RM.iP at h;have h1:=congrArg Prod.fst h;have h2:=congrArg Prod.snd h;simp at h1 h2;exact Prod.ext (by omega) (by omega)
theorem E5(C:List (Nat×Nat))(c:Nat×Nat)(h:c∉C):RM.dN (CS C) (RM.iP c) (.bl true)=CS (C++[c]):=by
 rw[RM.fV]
 ·simp[CS]
 ·rw[m4];intro z;obtain⟨d,hd,e⟩:=ar.mp z;exact h (fF e▸hd)
theorem qH(C:List (Nat×Nat)):(CS C).length=C.length:=by simp[CS]
theorem NI(C:List (Nat×Nat))(q:PI):(RM.aN (CS C) q).isSome=true↔q∈C.map RM.iP:=by rw[RM.aV,m4]
end L3
namespace L3
open PySem PySem.Spec PySem.Calls PyProof.Rows L2
structure jW(h:Heap)(d:Addr)(o:Obj)(es:Array DictEntry)(ep:Nat):Prop where
 at_:h.get? d=some o
 ex:o.ExactDict
 dat:o.data=.dict es ep
theorem jW.ty{s:Shared}{d:Addr}{o:Obj}{es:Array DictEntry}{ep:Nat}(e:jW s.heap d o es ep):s.TypeIs (.ref d) "dict" :=⟨o,e.at_,e.ex.1⟩
theorem jW.to{h h':Heap}{d:Addr}{o:Obj}{es:Array DictEntry}{ep:Nat}(e:jW h d o es ep)(k:∀q,h.get? d=some q->h'.get? d=some q):jW h' d o es ep:=⟨k _ e.at_,e.ex,e.dat⟩
section
variable {X:Cx}{jr:List (Addr×Obj)}{σ:L2.St}{H:Hp}{s:Shared}{a:Addr}{kvs:List (List Key×V)}
theorem oM(I:Inv X jr σ H s)(e:Rd H a (.dT kvs)):(a==sysModules)=false/\kvs.length<=sizeLine/\∃o es ep,jW s.heap a o es ep/\es.size=kvs.length/\
  ∀(i:Nat)(en:DictEntry),es[i]? =some en->∃k v q,kvs[i]? =some (k,v)/\en.key=.ref q/\H q=some (.tup (k.map kV))/\RelV v en.val:=by
 obtain⟨z,hs,xs,kt,o,es,ep,ho,hx,lg,hes,_,_⟩:=oN I.hok e;refine⟨hs,z,o,es,ep,⟨ho,hx,lg⟩,?_,fun i en qh=>?_⟩
 ·rw[size_of_entries hes,<- Paired.length kt]
 ·rw[entry_at hes i]at qh;cases hxs:xs[i]? with
  |none=>rw[hxs]at qh;cases qh
  |some x=>rw[hxs]at qh;obtain⟨⟨k,v⟩,hk,e1,e2,e3⟩:=iS kt hxs;cases qh;exact⟨k,v,x.2.1,hk,rfl,e2,e3⟩
end
section
variable {prog:Program}{w:World}{A:Around}{E:Value->Shared->Prop}{s:Shared}{d:Addr}{o:Obj}{es:Array DictEntry}{ep:Nat}
theorem BJ(hs:(d==sysModules)=false):MeetsIn prog w (Builtin.«dict.__len__» ⟨[.ref d],[]⟩) fun _ R s=>∃o es ep,jW s.heap d o es ep/\R (.ok (.ret (.int es.size s.toks))) {s with toks:=s.toks+1}:=
 .of_wp fun A R s q=>by
  obtain⟨o,es,ep,e,hR⟩:=q;show wpAny _ _ (dictSize d>>=fun _=>_) _ _ s
  delta dictSize
  exact aa (aa (wpAny_dictEntries e.at_ e.dat (ah (show wpAny _ _ (Builtin.Dict.pendingCount d>>=fun _=>_) _ _ s from aa (wpAny_pendingCount_other hs (wpAny_ret_mkInt (by rw[Nat.add_zero];exact hR)))))))
theorem EY{Q:Value->Shared->Prop}(hs:(d==sysModules)=false)(e:jW s.heap d o es ep)(hf:(es.size:Int)<2^63)(hQ:Q (.int es.size (s.toks+1)) {s with toks:=s.toks+1+1}):
  wpAny (model prog w) A (Builtin.«len» ⟨[.ref d],[]⟩) (fun fin s'=>∃r,fin=.done (.ret r)/\Q r s') E s:=by
 delta Builtin.«len»
 refine aa (m:=oneArg "len" _) (ah (aa (m:=callSpecial? (.ref d) (Str.ofString "__len__")) (wpAny_callSpecial?_slot (name:=Str.ofString "__len__") e.ty F.slot_dict_len (call_meetsIn F.slot_dict_len e.ty F.entry_dict_len (F.args_dict_len_1 _) (BJ hs) ⟨o,es,ep,e,?_⟩))));show wpAny _ _ _ _ _ {s with toks:=s.toks+1}
 refine aa (wpAny_holding (ah (aa (wpAny_letGo ?_))));have n1:¬(((es.size:Nat):Int)<0):=by omega
 have n2:¬(((es.size:Nat):Int)>=2^63):=by omega
 show wpAny _ _ (if((es.size:Nat):Int)<0 then _ else if((es.size:Nat):Int)>=2^63 then _ else _) _ _ _
 rw[af n1,af n2];exact aa (wpAny_mkInt (ah ⟨_,rfl,hQ⟩))
theorem LQ(hh:A.handled=none)(I:Addr)(jv:d≠I)(hx:o.ExactDict)(lg:o.data=.dict es ep):Walks prog w A I [I,d] [I] es.size (fun i v=>∃en,es[i]? =some en/\v=en.key) (fun i h=>h.IsKeyIter I d i es.size ep/\jW h d o es ep) where
 sub:=fun b hb=>by rw[iw]at hb;rw[hb];exact bh
 frame:=fun _ _ _ st k=>⟨st.1.at fun q e=>k I bh q e,st.2.to fun q e=>k d (au _ bh) q e⟩
 item:=fun i s Q E hi st hQ=>by
  have he:es[i]? =some es[i]:=gc hi;refine mB st.1 st.2.at_ lg rfl he fun h' it' sb=>?_
  exact hQ _ h' s.toks ⟨_,he,rfl⟩ ⟨it',st.2.to fun q e=>(sb.2 d jv).trans e⟩ fun b q hb e=>(sb.2 b (fun z=>hb (z▸bh))).trans e
 done:=fun s Q E st hQ=>j9 hh st.1 st.2.at_ lg rfl (ax _) fun h' eb=>hQ h' s.toks fun b q hb e=>eb b q (fun z=>hb (z▸bh)) e
 self:=fun _ _ _ _ st hQ=>wpAny_pyIter_keyiter st.1 hQ
theorem NY(hs:(d==sysModules)=false)(hx:o.ExactDict)(lg:o.data=.dict es ep):W.KdlSrc prog w "dict" d d es.size (fun i v=>∃en,es[i]? =some en/\v=en.key) (fun h=>jW h d o es ep) where
 type:=fun _ e=>e.ty
 there:=fun _ e=>⟨bq e.at_,bq e.at_⟩
 keep:=fun _ _ e k=>e.to fun q z=>k d (.inl rfl) q z
 notList:=by decide
 notTuple:=by decide
 hint:=fun _ _ _ _ e hq=>W.kdl_hint_dict e.ty hq
 iter:=fun A s hh e=>⟨_,_,fun _ _ hq=>pR hs e.at_ e.ex e.dat hq,LQ hh _ (da (bq e.at_)) hx lg,⟨⟨_,bb _ rfl,rfl,rfl⟩,e.to fun q z=>aq _ z⟩⟩
end
noncomputable def lA(H:Hp)(qs:List V)(kvs:List (List Key×V)):Prop:=Paired (fun v (kv:List Key×V)=>∃q,v=.ref q/\H q=some (.tup (kv.1.map kV))) qs kvs
theorem DD{H:Hp}{kvs:List (List Key×V)}:∀{us:List Value},us.length=kvs.length->(∀(j:Nat)(u:Value),us[j]? =some u->∃k v q,kvs[j]? =some (k,v)/\u=.ref q/\H q=some (.tup (k.map kV)))->∃qs,Vals qs us/\lA H qs kvs:=by
 induction kvs with
 |nil=>intro us hl _;exact⟨[],by rw[fu hl];exact .nil,.nil⟩
 |cons kv r ih=>
  intro us hl hu;match us,hl with
  |u::us,hl=>
   obtain⟨k,v,q,e1,e2,e3⟩:=hu 0 u rfl;obtain⟨qs,h1,h2⟩:=ih (us:=us) (by simpa using hl) fun j x hx=>by simpa using hu (j+1) x (by simpa using hx)
   have e1:kv=(k,v):=by simpa using e1
   exact⟨.ref q::qs,.cons e2 h1,.cons ⟨q,rfl,by rw[e1];exact e3⟩ h2⟩
section
variable {X:Cx}
theorem lY:lC X (.builtin "len") (fun xs H Q=>∃a kvs,xs=[V.ref a]/\Rd H a (.dT kvs)/\Q (.int kvs.length) H):=by intro jr s σ H xs us Q I r h;obtain⟨a,kvs,rfl,ha,q⟩:=h;obtain⟨u,rfl,ru⟩:=vals1 r;cases ru;obtain⟨hs,hz,o,es,ep,e,sz,_⟩:=oM I ha;have hn:=tH;exact Calls.call_function_entry kind_len plain_len entry_len (args_len1 _) (EY hs e (by rw[sz];omega) ⟨.int kvs.length,H,I.tok _,⟨_,by rw[sz]⟩,q⟩)
theorem CG(hc:X.calm=true):lC X (.type "list") (fun xs H Q=>∃a kvs,xs=[V.ref a]/\Rd H a (.dT kvs)/\∀l qs,H l=none->lA H qs kvs->Q (.ref l) (upd H l (.lst qs))):=by
 intro jr s σ H xs us Q I r h;obtain⟨a,kvs,rfl,ha,q⟩:=h;obtain⟨u,rfl,ru⟩:=vals1 r;cases ru;obtain⟨hs,hz,o,es,ep,e,sz,en⟩:=oM I ha;refine W.kdl_call (NY hs e.ex e.dat) (I.ok.hd hc) e (by rw[sz];exact hz) fun h' tk acc c kp hl it=>?_
 obtain⟨qs,v1,v2⟩:=DD (H:=H) (kvs:=kvs) (us:=acc.toList) (by rw[dq,it.1,sz]) fun j x hx=>by obtain⟨n,hn,e2⟩:=it.2 j x (by rw[<- ik];exact hx);obtain⟨k,v,p,e3,e4,e5,_⟩:=en j n hn;exact⟨k,v,p,e3,e2.trans e4,e5⟩
 have kc:qs.length<=sizeLine:=by rw[pairs_len v2];exact hz
 exact⟨.ref s.heap.objs.size,_,I.laid (a:=s.heap.objs.size) (o:=.lst qs) kp (ax _) ⟨kc,acc.toList,c,v1,by rw[Array.toArray_toList];exact hl⟩,rfl,q _ qs (I.hok.fresh (ax _)) v2⟩
end
end L3
namespace L3
open PySem PySem.Spec PyProof.Rows L2
theorem AG(C:List (Nat×Nat))(q:PI):(RM.aN (CS C) q).isSome=decide (q∈RM.iW C):=by rw[di,NI,decide_eq_true_iff];rfl
theorem j4{i:Nat}{x:V}(h:([.int 0,.int 1,.int 2,.int 3]:List V)[i]? =some x):i<4/\x=.int (i:Nat):=by
 have hi:i<4:=(ao.mp h).1;refine⟨hi,?_⟩;have cs:i=0\/i=1\/i=2\/i=3:=by omega
 rcases cs with rfl|rfl|rfl|rfl<;>(cases h;rfl)
theorem not_true{b:Bool}(h:¬b=true):b=false:=by simpa using h
def nS(H:Hp)(p:Addr):Nat:=match H p with|some (.lst xs)=>xs.length|_=>0
def m5(H:Hp)(p:Addr):Nat:=match H p with|some (.dT kvs)=>kvs.length|_=>0
theorem lO{H:Hp}{p:Addr}{xs:List V}(h:H p=some (.lst xs)):nS H p=xs.length:=by unfold nS;rw[h]
theorem DA{H:Hp}{p:Addr}{kvs:List (List Key×V)}(h:H p=some (.dT kvs)):m5 H p=kvs.length:=by unfold m5;rw[h]
theorem yZ{H:Hp}{p:Addr}{kvs:List (PI×V)}(h:D2 H p kvs):m5 H p=kvs.length:=by rw[DA h,fE]
theorem IE{H:Hp}{p:Addr}{kvs:List (PI3×V)}(h:D3 H p kvs):m5 H p=kvs.length:=by rw[DA h,fE]
theorem FT(xs:List V):FU xs none (some 1)=xs.take 1:=by
 unfold FU;cases xs with
 |nil=>rfl
 |cons x r=>
  have e:HT.sIx (x::r).length (x::r).length (some 1)=1:=by simp[HT.sIx]
  have e0:HT.sIx (x::r).length 0 none=0:=by simp[HT.sIx]
  rw[e,e0];rfl
theorem z8{H:Hp}{qs:List V}{kvs:List (PI×V)}(h:lA H qs (kvF k2 kvs)):Paired (T2 H) qs (kvs.map (·.1)):=by
 unfold lA kvF at h;induction kvs generalizing qs with
 |nil=>cases h;exact .nil
 |cons x r ih=>
  rw[bp]at h;cases h with
  |cons h t=>exact .cons h (ih t)
theorem tI{kvs:List (PI×V)}{i:Nat}{k:List Key}{v:V}(h:(kvF k2 kvs)[i]? =some (k,v)):∃p,kvs[i]? =some (p,v)/\k=k2 p:=by
 unfold kvF at h;rw[bc]at h;cases e:kvs[i]? with
 |none=>rw[e]at h;cases h
 |some x=>rw[e]at h;cases h;exact⟨x.1,rfl,rfl⟩
theorem IG{kvs:List (PI3×V)}{i:Nat}{k:List Key}{v:V}(h:(kvF k3 kvs)[i]? =some (k,v)):∃p,kvs[i]? =some (p,v)/\k=k3 p:=by
 unfold kvF at h;rw[bc]at h;cases e:kvs[i]? with
 |none=>rw[e]at h;cases h
 |some x=>rw[e]at h;cases h;exact⟨x.1,rfl,rfl⟩
def IV{κ:Type}(l:List (κ×Int)):List (κ×V):=l.map fun x=>(x.1,V.int x.2)
theorem xX{κ:Type}(l:List (κ×Int)):(IV l).map (·.1)=l.map (·.1):=by simp[IV]
theorem fJ{κ:Type}(l:List (κ×Int)):(IV l).length=l.length:=by simp[IV]
theorem f9{κ:Type}[DecidableEq κ](k:κ):∀l:List (κ×Int),RM.aN (IV l) k=(RM.aN l k).map V.int
 |[]=>rfl
 |x::r=>by
  show RM.aN ((x.1,V.int x.2)::IV r) k=_
  rw[RM.cK,RM.cK,f9 k r];by_cases e:x.1=k
  ·rw[ag e,ag e];rfl
  ·rw[af e,af e]
theorem qG{κ:Type}[DecidableEq κ](k:κ)(v:Int)(l:List (κ×Int)):RM.dN (IV l) k (.int v)=IV (RM.dN l k v):=by
 unfold RM.dN;have e:((IV l).any fun x=>decide (x.1=k))=l.any fun x=>decide (x.1=k):=by unfold IV;rw[any_map];rfl
 rw[e];split
 ·unfold IV;rw[gb,gb];apply fi;intro x _;simp only[Function.comp];split<;>rfl
 ·simp[IV]
theorem AE{κ:Type}[DecidableEq κ](k:κ)(l:List (κ×Int)):(RM.aN (IV l) k).isSome=(RM.aN l k).isSome:=by rw[f9];cases RM.aN l k<;>rfl
theorem a9.both{H H1:Hp}{c:Addr}{x:HO}(e:a9 H H1):a9 (L2.upd H c x) (L2.upd H1 c x):=fun b o h=>by
 by_cases hb:b=c
 ·subst hb;rw[a8]at h ⊢;exact h
 ·rw[aC hb]at h ⊢;exact e b o h
theorem gI{H:Hp}{c h:Addr}{o:HO}{u:HO}(hc:H c=some u)(hh:H h=none):(L2.upd H c o) h=none:=by rw[aC (aI hc hh).symm];exact hh
def But(a:Addr)(H H':Hp):Prop:=∀b u,b≠a->H b=some u->H' b=some u
theorem But.refl(a:Addr)(H:Hp):But a H H:=fun _ _ _ h=>h
theorem But.trans{a:Addr}{H H1 H2:Hp}(x:But a H H1)(y:But a H1 H2):But a H H2:=fun b u n h=>y b u n (x b u n h)
theorem a9.but{a:Addr}{H H':Hp}(e:a9 H H'):But a H H':=fun b u _ h=>e b u h
theorem But.here{a:Addr}{H H1:Hp}{o:HO}(x:But a H H1):But a H (L2.upd H1 a o):=fun b u n h=>by rw[aC n];exact x b u n h
theorem But.put{a x:Addr}{H H1:Hp}{o:HO}(e:But a H H1)(h:H x=none):But a H (L2.upd H1 x o):=fun b u n q=>by rw[aC (aI q h)];exact e b u n q
theorem T2.but{a:Addr}{H H':Hp}{v:V}{p:PI}{u:HO}(h:T2 H v p)(e:But a H H')(ha:H a=some u)(hu:∀xs,u≠ .tup xs):T2 H' v p:=by obtain⟨b,rfl,q⟩:=h;exact⟨b,rfl,e b _ (eJ q ha (fun z=>hu _ z.symm)) q⟩
theorem But.same{a:Addr}{H0 H H':Hp}(e:But a H H')(s:a9 H0 H)(ha:H0 a=none):a9 H0 H':=fun b u q=>e b u (aI q ha) (s b u q)
theorem rO{p:Prop}{i:Decidable p}(h:(!@decide p i)=true):¬p:=fun z=>by rw[decide_eq_true z]at h;cases h
theorem nQ{p:Prop}{i:Decidable p}(h:¬(!@decide p i)=true):p:=by
 by_cases z:p
 ·exact z
 ·rw[decide_eq_false z]at h;exact absurd rfl h
def KS{κ:Type}(l:List κ):List (κ×V):=l.map fun p=>(p,V.bl true)
theorem xW{κ:Type}(l:List κ):(KS l).map (·.1)=l:=by simp[KS,Function.comp_def]
theorem CL{κ:Type}(l:List κ):(KS l).length=l.length:=by simp[KS]
theorem JG{κ:Type}[DecidableEq κ](l:List κ)(k:κ):(RM.aN (KS l) k).isSome=decide (k∈l):=by rw[di,RM.aV,xW,decide_eq_true_iff]
theorem LF{κ:Type}[DecidableEq κ]{l:List κ}{k:κ}(h:k∉l):RM.dN (KS l) k (.bl true)=KS (l++[k]):=by rw[RM.fV _ (by rw[xW];exact h)];simp[KS]
def ixs(l:List Int):List (Int ⊕ List Nat):=l.map Sum.inl
def leI(a b:List Int):Prop:=lexLt itemOrd (ixs b) (ixs a)=false
abbrev eG:Nat->Bool:=fun _=>false
theorem m7:∀{ks:List Int}{us:List Value}(i:Nat),Vals (ks.map V.int) us->tupItems eG i us=some (ixs ks)
 |[],us,i,r=>by rw[jd]at r;cases r;rfl
 |k::ks,us,i,r=>by
  rw[bp]at r;cases r with
  |cons h t=>
   obtain⟨tk,rfl⟩:=h;show(if eG i=true then none else(tupItems eG (i+1) _).map (Sum.inl k::·))=_
   rw[af (show¬eG i=true from bo),m7 (i+1) t];rfl
section
variable {X:Cx}{jr:List (Addr×Obj)}{σ:L2.St}{H:Hp}{s:Shared}
theorem MP(I:Inv X jr σ H s){b:Addr}{ks:List Int}(h:H b=some (.tup (ks.map V.int))):G.tupKeyC s.heap eG (.ref b)=some (ixs ks):=by
 obtain⟨its,rv,⟨o,ho,hc,n,hd⟩,_⟩:=I.tuple (SqT.of (K:=X.K) h);have e1:G.isTupObj s.heap (.ref b)=true:=by
  show(match s.heap.get? b with|some o=>(match o.cls with| .type n=>n== "tuple" |_=>false)|none=>false)=true
  rw[ho];show(match o.cls with| .type n=>n== "tuple" |_=>false)=true
  rw[hc];rfl
 have e2:tupKey s.heap eG (.ref b)=some (ixs ks):=by
  show(match s.heap.get? b with|some o=>(match o.data with| .seq xs _=>tupItems eG 0 xs.toList|_=>none)|none=>none)=_
  rw[ho];show(match o.data with| .seq xs _=>tupItems eG 0 xs.toList|_=>none)=_
  rw[hd];exact m7 0 rv
 unfold G.tupKeyC;rw[ag e1,e2]
theorem LR(I:Inv X jr σ H s){b:Addr}{ks:List Int}(h:H b=some (.tup (ks.map V.int)))(jv:ks≠[]):∃f,TupOf s.heap eG (.ref b) f:=by
 obtain⟨its,rv,⟨o,ho,hc,n,hd⟩,_⟩:=I.tuple (SqT.of (K:=X.K) h);cases ks with
 |nil=>exact absurd rfl jv
 |cons k ks=>
  rw[bp]at rv;cases rv with
  |cons r t=>obtain⟨tk,rfl⟩:=r;exact⟨.int k tk,b,o,_,n,rfl,ho,hc,hd,rfl,fun _=>⟨k,tk,rfl⟩,fun z=>nomatch z⟩
theorem CO(I:Inv X jr σ H s){kf:Addr->List Int}:∀{bs as:List Addr},Paired (fun b a=>H b=some (.tup ((kf a).map V.int))) bs as->(∀a∈as,kf a≠[])->∃fs,TupsOf s.heap eG (bs.map Value.ref) fs/\fs.length=bs.length
 |_,_,.nil,_=>⟨[],.nil,rfl⟩
 |_,_,.cons h t,jv=>by
  obtain⟨fs,h1,h2⟩:=CO I t fun a ha=>jv a (au _ ha)
  obtain⟨f,hf⟩:=LR I h (jv _ bh);exact⟨f::fs,.cons hf h1,by rw[br,br,h2]⟩
end
def rr(p:Addr×Addr):Keyed:=(.ref p.1,.ref p.2)
def adr:Value->Addr
 | .ref a=>a
 |_=>0
def un(p:Keyed):Addr×Addr:=(adr p.1,adr p.2)
theorem rR:∀(bs as:List Addr),(bs.map Value.ref).zip (as.map Value.ref)=(bs.zip as).map rr
 |[],as=>rfl
 |b::bs,[]=>rfl
 |b::bs,a::as=>by
  show(Value.ref b,Value.ref a)::(bs.map Value.ref).zip (as.map Value.ref)=rr (b,a)::(bs.zip as).map rr
  rw[rR bs as];rfl
theorem vI{α β:Type}{R:α->β->Prop}:∀{l:List α}{m:List β},Paired R l m->∀p∈l.zip m,R p.1 p.2
 |_,_,.nil,p,h=>by cases h
 |_,_,.cons r t,p,h=>by
  rcases ak.mp h with rfl|h
  ·exact r
  ·exact vI t p h
theorem CM{α β:Type}:∀{l:List α}{m:List β},l.length=m.length->(l.zip m).map (·.2)=m
 |[],[],_=>rfl
 |a::l,b::m,h=>by
  show b::(l.zip m).map (·.2)=b::m
  rw[CM (by simpa using h)]
theorem GR{h:Heap}{kf:Addr->List Int}{bs as:List Addr}{xs:Array Keyed}(hl:bs.length=as.length)(hk:∀p∈bs.zip as,G.tupKeyC h eG (.ref p.1)=some (ixs (kf p.2)))
  (hp:xs.Perm ((bs.map Value.ref).toArray.zip (as.map Value.ref).toArray)) (hs:SortedToK (G.tupKindC h eG) xs xs.size):
  ∃out:List Addr,(xs.map (·.2)).toList=out.map Value.ref/\out.Perm as/\out.Pairwise fun a b=>leI (kf a) (kf b):=by
 have hp2:xs.toList.Perm ((bs.zip as).map rr):=by have:=Array.perm_iff_toList_perm.mp hp;rw[ksk_zip,List.toList_toArray,rR]at this;exact this
 have e0:xs.toList=(xs.toList.map un).map rr:=by
  rw[gb]
  conv=>lhs;rw[<- map_id xs.toList]
  apply fi;intro p hpm;obtain⟨q,_,rfl⟩:=ar.mp (hp2.mem_iff.mp hpm);rfl
 have hp3:(xs.toList.map un).Perm (bs.zip as):=by
  have:=hp2.map un;rw[gb]at this;have e:(bs.zip as).map (un∘rr)=bs.zip as:=by
   conv=>rhs;rw[<- map_id (bs.zip as)]
   rfl
  rw[e]at this;exact this
 refine⟨(xs.toList.map un).map (·.2),?_,?_,?_⟩
 ·rw[Array.toList_map]
  conv=>lhs;rw[e0]
  rw[gb,gb,gb,gb];rfl
 ·have:=hp3.map (·.2);rw[CM hl]at this;exact this
 ·rw[jg,List.pairwise_iff_getElem];intro i j hi hj hij;have qp:i<xs.size:=by simpa using hi
  have vd:j<xs.size:=by simpa using hj
  have q:=hs i j (le_of_lt hij) vd;have kk:∀(n:Nat)(hn:n<xs.size)(As:n<(xs.toList.map un).length),KK (G.tupKindC h eG) xs n=ixs (kf ((xs.toList.map un)[n].2)):=by
   intro n hn As;have hm:(xs.toList.map un)[n]∈bs.zip as:=hp3.mem_iff.mp (List.getElem_mem As);have vc:=hk _ hm;have ex:xs[n]=rr ((xs.toList.map un)[n]):=by
    have h1:xs.toList[n]'(by simpa using hn)=rr ((xs.toList.map un)[n]):=by
     have:xs.toList[n]? =((xs.toList.map un).map rr)[n]? :=by rw[<- e0]
     rw[bj (by simpa using hn),bc,bj As]at this;exact Option.some.inj this
    rw[<- h1];simp
   show(match xs[n]? with|some p=>((G.tupKindC h eG).keyOf p.1).getD (G.tupKindC h eG).dflt|none=>(G.tupKindC h eG).dflt)=_
   rw[gc hn,ex];show(G.tupKeyC h eG (.ref _)).getD []=_
   rw[vc];rfl
  rw[kk i qp hi,kk j vd hj]at q;exact q
section
variable {X:Cx}{jr:List (Addr×Obj)}{σ:L2.St}{H:Hp}{s:Shared}{k:Nat}{f:Addr}{fd:FuncData}{par:Str}{sp:Sp}
theorem M7{Q:VK}{us:List Value}{vs:List V}(F:bN X.prog X.w X.K X.mg X.base CX0 k f fd [par] sp)(hr:d4 k X.A.in1.in1)(hb:Binds X.K fd [par] [])(I:Inv X jr σ H s)(r:Vals vs us)(h:sp vs H Q E0):
  wpAny (model X.prog X.w) X.A.in1.in1 (call (.ref f) us) (EP X jr σ Q) (fun _ _=>False) s:=by
 have hl:(us++[]).length=[par].length:=by rw[df,<- r.length];exact F.len _ _ _ _ h
 refine wpAny_call (codeAny_mono (F.run X.A.in1.in1 X.stack s H ⟨us,[]⟩ (us++[]) vs Q E0 hr I.J1.in1.in1 (hb s us I.kIn hl) (by rw[df];exact r) h) fun o s' hq=>?_);cases o with
 |error e=>exact hq.elim
 |ok fl=>
  cases fl with
  |ret u=>exact I.after hq
  |next=>exact hq.elim
  |brk=>exact hq.elim
  |cont=>exact hq.elim
theorem GF{L kS:Addr}{od:Obj}{e1:Nat}{ks:List V}{out:List Addr}{st:SortSt}{P:PySem.Fin->Shared->Prop}(I:Inv X jr σ H s)(hL:H L=some (.frz od (.lst [])))(hn:∀o' u',X.H_0 L≠some (.frz o' u'))(ho:od=seqObj "list" #[] e1)
  (hK:H kS=some (.lst ks)) (jv:kS≠L) (eo:((arrOf st).map (·.2)).toList=out.map Value.ref) (hz:out.length<=sizeLine) (hf:failedOf st=none)
  (h:∀s',Inv X jr σ (upd (upd (upd H kS (.lst [])) L (.lst [])) L (.lst (out.map V.ref))) s'->P (.done (.ret .none)) s'):wpAny (model X.prog X.w) X.A.in1.in1 (ksk_tail L false e1 (.ref kS) st) P X.xe s:=by
 obtain⟨zk,itk,nk,rk,lk,ek⟩:=I.yW hK;have I1:=I.EW (t':=s.toks) (its':=[]) (f:=fun _=>#[]) hK ek rfl .nil (cv _);have hL1:(upd H kS (.lst [])) L=some (.frz od (.lst [])):=by rw[aC jv.symm];exact hL
 have eL:(s.heap.update kS (Obj.mapSeq fun _=>#[])).get? L=some (seqObj "list" #[] e1):=by rw[<- ho];exact(I1.hok L _ hL1).1
 have I2:=I1.unlock hL1 hn;have eo2:(arrOf st).map (·.2)=(out.map Value.ref).toArray:=by rw[<- eo,Array.toArray_toList]
 have rv:∀l:List Addr,Vals (l.map V.ref) (l.map Value.ref):=fun l=>by
  induction l with
  |nil=>exact .nil
  |cons a l ih=>exact .cons rfl ih
 have I3:=I2.EW (t':=s.toks) (its:=[]) (its':=out.map Value.ref) (f:=fun _=>if false=true then((arrOf st).map (·.2)).reverse else(arrOf st).map (·.2)) a8 eL (by rw[af bo];exact eo2) (rv out) (by rw[ai];exact hz);unfold ksk_tail;dsimp only;refine aa (listUpdate_at ek rfl ?_ (by rw[bg,<- lk];exact zk) (cv _));refine aa (wpAny_letGo (aa (seqEpoch_at eL rfl ?_)));refine aa (listUpdate_at eL rfl ?_ (cv _) (by rw[af bo,eo2,bg,ai];omega));rw[hf];simp only[bne_self_eq_false,iu,if_false];exact ah (h _ I3)
end
section
variable {X:Cx}{jr:List (Addr×Obj)}{σ:L2.St}{H:Hp}{s:Shared}{k:Nat}{f:Addr}{fd:FuncData}{par:Str}{sp:Sp}{kf:Addr->List Int}
theorem uT:∀l:List Addr,Vals (l.map V.ref) (l.map Value.ref)
 |[]=>.nil
 |_::l=>.cons rfl (uT l)
theorem KZ{L kS:Addr}{od:Obj}{e1:Nat}{bs as:List Addr}{P:PySem.Fin->Shared->Prop}(I:Inv X jr σ H s)(hL:H L=some (.frz od (.lst [])))(hn:∀o' u',X.H_0 L≠some (.frz o' u'))(ho:od=seqObj "list" #[] e1)
  (hK:H kS=some (.lst (bs.map V.ref))) (jv:kS≠L) (hp:Paired (fun b a=>H b=some (.tup ((kf a).map V.int))) bs as) (hk:∀a∈as,kf a≠[]) (hz:as.length<=sizeLine)
  (h:∀(out:List Addr)(s':Shared),out.Perm as->(out.Pairwise fun a b=>leI (kf a) (kf b))->Inv X jr σ (upd (upd (upd H kS (.lst [])) L (.lst [])) L (.lst (out.map V.ref))) s'->P (.done (.ret .none)) s'):
  wpAny (model X.prog X.w) X.A.in1.in1 (ksk_end L false (as.map Value.ref).toArray e1 (.ref kS) (bs.map Value.ref).toArray) P X.xe s:=by
 have hl:=pairs_len hp;have oh:∀p∈bs.zip as,G.tupKeyC s.heap eG (.ref p.1)=some (ixs (kf p.2)):=fun p hm=>MP I (vI hp p hm)
 have zs:((bs.map Value.ref).toArray.zip (as.map Value.ref).toArray).size=as.length:=by rw[Array.size_zip,bg,bg,ai,ai,hl,Nat.min_self]
 have fin:∀st:SortSt,(arrOf st).Perm ((bs.map Value.ref).toArray.zip (as.map Value.ref).toArray)->SortedToK (G.tupKindC s.heap eG) (arrOf st) (arrOf st).size->failedOf st=none->wpAny (model X.prog X.w) X.A.in1.in1 (ksk_tail L false e1 (.ref kS) st) P X.xe s:=by intro st h1 h2 h3;obtain⟨out,e,pm,pw⟩:=GR hl oh h1 h2;exact GF I hL hn ho hK jv e (by rw[pm.length_eq];exact hz) h3 fun s' I'=>h out s' pm pw I'
 unfold ksk_end;dsimp only;simp only[iu,if_false];by_cases h2:(as.map Value.ref).toArray.size<2
 ·rw[ag h2,ag h2];refine aa (ah ?_);rw[StateT.run_pure];refine aa (ah (fin (SortSt.mk' general' ((bs.map Value.ref).toArray.zip (as.map Value.ref).toArray) #[] 7 none) (Array.Perm.refl _) ?_ rfl));intro i j hij hj;have hj2:j<((bs.map Value.ref).toArray.zip (as.map Value.ref).toArray).size:=hj;rw[zs]at hj2;rw[bg,ai]at h2;have e:i=j:=by omega
  rw[e];exact KeyOrd.kle_refl _
 ·rw[af h2,af h2];rw[bg,ai]at h2;obtain⟨fs,ht,zx⟩:=CO I hp hk;refine aa (tup_kind (by omega) ht ?_);refine aa (wpAny_mono (G.wpS_sortRunsSt (κ:=G.tupKindC s.heap eG) (kd:=tuples' true) (a₀:=(bs.map Value.ref).toArray.zip (as.map Value.ref).toArray) (st:=SortSt.mk' (tuples' true) ((bs.map Value.ref).toArray.zip (as.map Value.ref).toArray) #[] 7 none)
   (Q:=fun _ st=>(arrOf st).Perm ((bs.map Value.ref).toArray.zip (as.map Value.ref).toArray)/\SortedToK (G.tupKindC s.heap eG) (arrOf st) (arrOf st).size/\failedOf st=none)
   (G.tupC_ltAt true (G.KeepsTups.refl _)) (fun p hm=>?_) ⟨Array.Perm.refl _,rfl,rfl⟩ rfl (Stable.refl _) (by rw[zs];omega) fun st a1 a2 a3 _=>⟨a1,by rw[a1.size_eq];exact a3,a2⟩) ?_ fun _ _ e=>e)
  ·rw[ksk_zip,List.toList_toArray,rR]at hm;obtain⟨q,hq,rfl⟩:=ar.mp hm;exact⟨_,oh q hq⟩
  ·rintro⟨⟨⟩,st⟩ s' ⟨rfl,h1,h3,h4⟩;exact fin st h1 h3 h4
theorem GS{L kS:Addr}{od:Obj}{e1:Nat}{as:List Addr}{P:PySem.Fin->Shared->Prop}{H0:Hp}(F:bN X.prog X.w X.K X.mg X.base CX0 k f fd [par] sp)(hr:d4 k X.A.in1.in1)(hb:Binds X.K fd [par] [])(I:Inv X jr σ H s)
  (hL:H0 L=some (.frz od (.lst []))) (hn:∀o' u',X.H_0 L≠some (.frz o' u')) (ho:od=seqObj "list" #[] e1) (ze:a9 H0 H) (hK0:H0 kS=none) (hK:H kS=some (.lst [])) (hk:∀a∈as,kf a≠[]) (hz:as.length<=sizeLine)
  (kr:∀a∈as,∀H2,a9 H0 H2->sp [.ref a] H2 (fun r H3=>a9 H2 H3/\∃b,r=.ref b/\H3 b=some (.tup ((kf a).map V.int))) E0)
  (h:∀(out:List Addr)(H':Hp)(s':Shared),out.Perm as->(out.Pairwise fun a b=>leI (kf a) (kf b))->(∀b u,b≠L->H0 b=some u->H' b=some u)->H' L=some (.lst (out.map V.ref))->Inv X jr σ H' s'->P (.done (.ret .none)) s'):
  wpAny (model X.prog X.w) X.A.in1.in1 (ksk_rest L (.ref f) false (as.map Value.ref).toArray e1 (.ref kS)) P X.xe s:=by
 have jv:kS≠L:=(aI hL hK0).symm;unfold ksk_rest;refine aa (wpAny_rule ?_);rw[List.forIn_toArray];refine aa (ksk_fold (fun i s'=>∃(H':Hp)(bs:List Addr),Inv X jr σ H' s'/\a9 H0 H'/\H' kS=some (.lst (bs.map V.ref))/\Paired (fun b a=>H' b=some (.tup ((kf a).map V.int))) bs (as.take i)) (as.map Value.ref) 0 s ⟨H,[],I,ze,hK,.nil⟩ ?_ ?_)
 ·rintro j x s' hx ⟨H',bs,I',s2,h2,pr⟩;rw[Nat.zero_add]at pr ⊢;rw[bc]at hx;obtain⟨a,ha,rfl⟩:∃a,as[j]? =some a/\x=.ref a:=by
   cases e:as[j]? with
   |none=>rw[e]at hx;cases hx
   |some a=>rw[e]at hx;exact⟨a,rfl,(Option.some.inj hx).symm⟩
  have hj:j<as.length:=(ao.mp ha).1;refine aa (wpAny_attempt (wpAny_mono (M7 F hr hb I' (vs:=[.ref a]) (.cons rfl .nil) (kr a (az ha) H' s2)) (fun v s3 q=>?_) fun _ _ z=>z.elim));obtain⟨v',H3,I3,rel,s3',b,rfl,hb3⟩:=q;cases rel;have h3:=s3' _ _ h2;obtain⟨zk,itk,nk,rk,lk,ek⟩:=I3.yW h3;have lb:=pairs_len pr;rw[bz]at lb;rw[ai]at lk;have eik:=j5 rk;dsimp only;refine aa (listUpdate_at ek rfl ?_ (by rw[bg];omega) (by rw[Array.size_push,bg];omega));have I4:=I3.EW (t':=s3.toks) (its:=itk) (its':=itk++[.ref b]) (f:=(·.push (.ref b))) (ys:=(bs++[b]).map V.ref) h3 ek (by simp) (by rw[cj];exact rk.append (.cons rfl .nil)) (by rw[ai,aj];simp;omega);refine ah ⟨rfl,_,bs++[b],I4,a9.put (a9.trans s2 s3') hK0,a8,?_⟩;have xn:∀(b':Addr)(xs:List V),H3 b'=some (.tup xs)->(upd H3 kS (.lst ((bs++[b]).map V.ref))) b'=some (.tup xs):=fun b' xs e=>by rw[aC (eJ e h3 (by intro z;cases z))];exact e
  rw[RM.take_snoc ha];exact aZ (R:=fun b' a'=>(upd H3 kS (.lst ((bs++[b]).map V.ref))) b'=some (.tup ((kf a').map V.int))) (xn _ _ hb3) (aJ (fun b' a' e=>xn _ _ (s3' _ _ e)) pr)
 ·rintro s' ⟨H',bs,I',s2,h2,pr⟩;rw[Nat.zero_add,ai,bu (ax _)]at pr;obtain⟨zk,itk,nk,rk,lk,ek⟩:=I'.yW h2;have eik:=j5 rk;subst eik;refine aa (listItems_at ek rfl ?_);refine KZ I' (s2 _ _ hL) hn ho h2 jv pr hk hz fun out s3 pm pw I3=>h out _ s3 pm pw (fun b u nb e=>?_) a8 I3
  rw[aC nb,aC nb,aC (aI e hK0)];exact s2 _ _ e
theorem GK{L:Addr}{as:List Addr}{P:PySem.Fin->Shared->Prop}(F:bN X.prog X.w X.K X.mg X.base CX0 k f fd [par] sp)(hr:d4 k X.A.in1.in1)(hb:Binds X.K fd [par] [])(I:Inv X jr σ H s)
  (hL:H L=some (.lst (as.map V.ref))) (hk:∀a∈as,kf a≠[])
  (kr:∀a∈as,∀H2,But L H H2->sp [.ref a] H2 (fun r H3=>a9 H2 H3/\∃b,r=.ref b/\H3 b=some (.tup ((kf a).map V.int))) E0)
  (h:∀(out:List Addr)(H':Hp)(s':Shared),out.Perm as->(out.Pairwise fun a b=>leI (kf a) (kf b))->But L H H'->H' L=some (.lst (out.map V.ref))->Inv X jr σ H' s'->P (.done (.ret .none)) s'):
  wpAny (model X.prog X.w) X.A.in1.in1 (ksk_tree L (.ref f) false) P X.xe s:=by
 obtain⟨z,its,n,r,hl,e⟩:=I.yW hL;have ei:=j5 r;subst ei;rw[ai]at z;have I1:=I.EW (t':=s.toks) (its':=[]) (f:=fun _=>#[]) hL e rfl .nil (cv _);obtain⟨e1,he1⟩:∃e1,(s.heap.update L (Obj.mapSeq fun _=>#[])).get? L=some (seqObj "list" #[] e1):=⟨_,get?_update_seq e fun _=>#[]⟩
 have hn:=I1.vL a8 trivial;obtain⟨od,I2⟩:=I1.lock a8 trivial;have eod:od=seqObj "list" #[] e1:=by have q:=(I2.hok L _ a8).1;rw[he1]at q;exact(Option.some.inj q).symm
 have b2:But L H (upd (upd H L (.lst [])) L (.frz od (.lst []))):=((But.refl L H).here).here;have hL2:(upd (upd H L (.lst [])) L (.frz od (.lst []))) L=some (.frz od (.lst [])):=a8;generalize (upd (upd H L (.lst [])) L (.frz od (.lst [])))=H2 at I2 b2 hL2;unfold ksk_tree;refine aa (listItems_at e rfl ?_);refine aa (listUpdate_at e rfl ?_ (by rw[bg,ai];exact z) (cv _));refine aa (seqEpoch_at he1 rfl ?_);refine aa (wpAny_newTuple ?_ (by rw[List.toList_toArray,ai];exact z));have I3:Inv X jr σ H2 {s with heap:=(s.heap.update L (Obj.mapSeq fun _=>#[])).push {cls:=.type "tuple",data:=.seq (as.map Value.ref).toArray.toList.toArray}}:=I2.kept (t':=s.toks) fun b u q=>aq _ q
 refine aa (wpAny_newList ?_ (cv _));refine wpAny_holding ?_;have fr:=I3.fresh;have I4:=I3.MJ (t':=s.toks) (ys:=[]) (its:=[]) .nil (cv _);refine GS F hr hb I4 hL2 hn eod (a9.upd fr) fr a8 hk z (fun a ha H3 s3=>kr a ha H3 (b2.trans (a9.but s3))) fun out H' s' pm pw bt yd I'=>h out H' s' pm pw (b2.trans bt) yd I'
end
section
variable {prog:Program}{w:World}{A:Around}{E:Value->Shared->Prop}{s:Shared}{d:Addr}{o:Obj}{es:Array DictEntry}{ep:Nat}
theorem J9{Q:List Value->Shared->Prop}(hs:(d==sysModules)=false)(hh:A.handled=none)(e:jW s.heap d o es ep)(hz:es.size<=sizeLine)
  (h:∀(vs:List Value) h' tk,vs.length=es.size->(∀(j:Nat)(v:Value),vs[j]? =some v->∃en,es[j]? =some en/\v=en.key)->(∀b q,s.heap.get? b=some q->h'.get? b=some q)->Q vs {s with heap:=h',toks:=tk}):wpAny (model prog w) A (collect (.ref d)) Q E s:=by
 have hd:d<s.heap.objs.size:=bq e.at_
 delta collect
 refine aa (wpAny_runValue (codeAny_builtin entry_proto_collect' ?_));show wpAny _ _ (newList []>>=fun l=>again (.builtin "list.__iadd__" ⟨[l,.ref d],[]⟩)) _ _ s
 refine aa (wpAny_newList (ah ⟨Code.quiet_builtin _ (by decide+kernel),codeAny_builtin entry_list_iadd' ?_⟩) (cv _));have e2:jW (s.heap.push {cls:=.type "list",data:=.seq #[]}) d o es ep:=e.to fun q z=>aq _ z
 have hS:(s.heap.push {cls:=.type "list",data:=.seq #[]}).get? s.heap.objs.size=some {cls:=.type "list",data:=.seq #[] 0}:=bb _ rfl;rw[Around.under_plainId (show plainId "list.__iadd__" =true by decide+kernel) _];show wpAny _ _ (Builtin.List.listExtendWith (.ref s.heap.objs.size) (.ref d) (.ref s.heap.objs.size)) _ _ {s with heap:=s.heap.push {cls:=.type "list",data:=.seq #[]}}
 refine W.kdl_extend (R:=fun r s'=>match r with| .ok (.ret v)=>wpAny (model prog w) A (match v with| .ref a=>(do let o<- load a;match o.data with| .seq xs _=>pure xs.toList|_=>unsupported "internal:collect")|_=>unsupported "internal:collect") Q E s'| .ok _=>False| .error e=>E e s') (s:={s with heap:=s.heap.push {cls:=.type "list",data:=.seq #[]}}) (NY hs e.ex e.dat) hh e2 s.heap.objs.size (jj hd) (jj hd) (.ref s.heap.objs.size) 0 hS (fun h' tk acc c kp hl it=>?_) hz;show wpAny (model prog w) A (load s.heap.objs.size>>= _) Q E _
 refine aa (wpAny_load hl ?_);refine ah (h acc.toList h' tk (by rw[dq];exact it.1) (fun j v z=>it.2 j v (by rw[<- ik];exact z)) fun b q z=>?_);exact kp b q (da (bq z)) (aq _ z)
end
section
variable {X:Cx}{jr:List (Addr×Obj)}{σ:L2.St}{H:Hp}{s:Shared}{k:Nat}{f:Addr}{fd:FuncData}{par:Str}{sp:Sp}{kf:Addr->List Int}
theorem sG{l:Addr}{as:List Addr}{Q:VK}(F:bN X.prog X.w X.K X.mg X.base CX0 k f fd [par] sp)(hr:d4 k X.A.in1.in1)(hb:Binds X.K fd [par] [])(I:Inv X jr σ H s)(hz:as.length<=sizeLine)
  (col:∀Q':List Value->Shared->Prop,(∀h' tk,(∀b q,s.heap.get? b=some q->h'.get? b=some q)->Q' (as.map Value.ref) {s with heap:=h',toks:=tk})->wpAny (model X.prog X.w) X.A.in1 (collect (.ref l)) Q' X.xe s)
  (hk:∀a∈as,kf a≠[]) (kr:∀a∈as,∀H2,a9 H H2->sp [.ref a] H2 (fun r H3=>a9 H2 H3/\∃b,r=.ref b/\H3 b=some (.tup ((kf a).map V.int))) E0)
  (h:∀(L:Addr)(out:List Addr)(H':Hp),H L=none->out.Perm as->(out.Pairwise fun a b=>leI (kf a) (kf b))->a9 H H'->H' L=some (.lst (out.map V.ref))->Q (.ref L) H'):
  wpAny (model X.prog X.w) X.A (call (.builtin "sorted") [.ref l] [(Str.ofString "key",.ref f)]) (EP X jr σ Q) X.xe s:=by
 refine call_function_entry_kw kind_sorted plain_sorted entry_sorted (ksk_s1 _ _) ?_
 delta Builtin.«sorted»
 refine aa (m:=checkCount "sorted" 1 1 _) (ah (aa (col _ fun h1 Bg k1=>?_)));refine aa (wpAny_newList ?_ (by rw[ai];exact hz));have I1:Inv X jr σ H {s with heap:=h1,toks:=Bg}:=I.kept k1;have fr:=I1.fresh;have I2:=I1.MJ (t':=Bg) (uT as) (by rw[ai];exact hz);have Ca:({s with heap:=h1.push {cls:=.type "list",data:=.seq (as.map Value.ref).toArray},toks:=Bg}:Shared).TypeIs (.ref h1.objs.size) "list" :=⟨_,bb _ rfl,rfl⟩;refine aa (wpAny_holding (wpAny_call_entry_kw slot_list_sort Ca entry_list_sort ?_ (ksk_l1 _ _)));show wpAny (model X.prog X.w) X.A.in1.in1 (Builtin.«list.sort» ⟨[.ref h1.objs.size],[(Str.ofString "key",.ref f)]⟩) _ _ _
 rw[ksk_t1];refine GK F hr hb I2 a8 hk (fun a ha H2 b2=>kr a ha H2 (But.same b2 (a9.upd fr) fr)) fun out H' s' pm pw bt hL I'=>?_
 exact⟨_,rfl,ah ⟨_,rfl,.ref h1.objs.size,H',I',rfl,h _ out H' fr pm pw (But.same bt (a9.upd fr) fr) hL⟩⟩
end
noncomputable def NP(K:W.Frag)(sp:Sp)(t:TA):TE:=fun σ H Q=>t σ H fun vs H1=>∃(l:Addr)(as:List Addr)(kf:Addr->List Int),vs=[.ref l]/\SqL K H1 l (as.map V.ref)/\(∀a∈as,kf a≠[])/\
 (∀a∈as,∀H2,a9 H1 H2->sp [.ref a] H2 (fun r H3=>a9 H2 H3/\∃b,r=.ref b/\H3 b=some (.tup ((kf a).map V.int))) E0)/\
 ∀(L:Addr)(out:List Addr)(H':Hp),H1 L=none->out.Perm as->(out.Pairwise fun a b=>leI (kf a) (kf b))->a9 H1 H'->H' L=some (.lst (out.map V.ref))->Q (.ref L) H'
noncomputable def LW(sp:Sp)(t:TA):TE:=fun σ H Q=>t σ H fun vs H1=>∃(d:Addr)(kvs:List (List Key×V)),vs=[.ref d]/\Rd H1 d (.dT kvs)/\∀as:List Addr,lA H1 (as.map V.ref) kvs->∃kf:Addr->List Int,(∀a∈as,kf a≠[])/\
 (∀a∈as,∀H2,a9 H1 H2->sp [.ref a] H2 (fun r H3=>a9 H2 H3/\∃b,r=.ref b/\H3 b=some (.tup ((kf a).map V.int))) E0)/\
 ∀(L:Addr)(out:List Addr)(H':Hp),H1 L=none->out.Perm as->(out.Pairwise fun a b=>leI (kf a) (kf b))->a9 H1 H'->H' L=some (.lst (out.map V.ref))->Q (.ref L) H'
theorem vO{H:Hp}:∀{qs:List V}{kvs:List (List Key×V)},lA H qs kvs->∃as:List Addr,qs=as.map V.ref
 |_,_,.nil=>⟨[],rfl⟩
 |_,_,.cons ⟨q,e,_⟩ t=>by obtain⟨as,rfl⟩:=vO t;exact⟨q::as,by rw[e];rfl⟩
section
variable {X:Cx}{k:Nat}{y par:Str}{sp:Sp}{e:Expr}{ta:TA}{p p2 p3 pos:Pos}
theorem vG{Qs:VK->List V->Hp->Prop}(hg:Gl X "sorted")(hm:X.mg "sorted" =none)(hy:Gl X y){f:Addr}(Ct:X.mg y=some (.ref f))(ha:PA X [e] ta)(Df:(y==("__debug__" : Str))=false)
  (run:∀(jr:List (Addr×Obj))(s:Shared)(σ:L2.St)(H:Hp)(vs:List V)(us:List Value)(Q:VK),Inv X jr σ H s->Vals vs us->Qs Q vs H->wpAny (model X.prog X.w) X.A (call (.builtin "sorted") us [(Str.ofString "key",.ref f)]) (EP X jr σ Q) X.xe s)
  (h1:backTo pos (starEach [e] X.env)=(false,eval e X.env)::backTo pos (starEach [] X.env)) (h2:(backTo pos (starEach [e] X.env)).any (·.1)=false):
  PE X (.Call (.Name "sorted" p) [e] [⟨some "key",.Name y p2,p3⟩] pos) (fun σ H Q=>ta σ H (Qs Q)):=by
 intro jr s σ H Q I h;refine wpAny_Call_Name_kw (pP I hg hm (show bootBuiltins "sorted" =some (.builtin "sorted") by rfl) ?_);refine callWith_kw (thn (ha pos jr s σ H (Qs Q) I h) fun us s1 ⟨vs,H1,I1,r,q⟩=>?_) h1 h2;refine kws_cons (jB I1 hy Ct (kws_nil ?_) Df);exact run jr _ σ H1 vs us Q I1 r q
theorem HB(D:aS X.prog X.w X.K X.mg X.base CX0 k y [par] sp)(hr:d4 (k+2) X.A)(hg:Gl X "sorted")(hm:X.mg "sorted" =none)(hy:Gl X y)(ha:PA X [e] ta)(Df:(y==("__debug__" : Str))=false:=by decide)
  (h1:backTo pos (starEach [e] X.env)=(false,eval e X.env)::backTo pos (starEach [] X.env):=by rfl) (h2:(backTo pos (starEach [e] X.env)).any (·.1)=false:=by rfl):
  PE X (.Call (.Name "sorted" p) [e] [⟨some "key",.Name y p2,p3⟩] pos) (NP X.K sp ta):=by
 obtain⟨f,fd,F,Ct,hkf,hb⟩:=D.ex;refine vG (Qs:=fun Q vs H1=>∃(l:Addr)(as:List Addr)(kf:Addr->List Int),vs=[.ref l]/\SqL X.K H1 l (as.map V.ref)/\(∀a∈as,kf a≠[])/\(∀a∈as,∀H2,a9 H1 H2->sp [.ref a] H2 (fun r H3=>a9 H2 H3/\∃b,r=.ref b/\H3 b=some (.tup ((kf a).map V.int))) E0)/\
  ∀(L:Addr)(out:List Addr)(H':Hp),H1 L=none->out.Perm as->(out.Pairwise fun a b=>leI (kf a) (kf b))->a9 H1 H'->H' L=some (.lst (out.map V.ref))->Q (.ref L) H') hg hm hy Ct ha Df (fun jr s σ H vs us Q I r q=>?_) h1 h2
 obtain⟨l,as,kf,rfl,hs,hk,kr,fin⟩:=q;obtain⟨u,rfl,ru⟩:=vals1 r;cases ru;obtain⟨its,rv,pl,hz⟩:=I.list hs;have ei:=j5 rv;subst ei;rw[ai]at hz;refine sG F (hr.in1.in1) hb I hz (fun Q' q=>collect_list pl.isList (q _ s.toks fun b o z=>?_) (by rw[ai];exact hz)) hk kr fin;rw[Heap.get?_update_ne _ _ _ _ (da (bq z))];exact aq _ z
theorem HC(hc:X.calm=true)(D:aS X.prog X.w X.K X.mg X.base CX0 k y [par] sp)(hr:d4 (k+2) X.A)(hg:Gl X "sorted")(hm:X.mg "sorted" =none)(hy:Gl X y)(ha:PA X [e] ta)(Df:(y==("__debug__" : Str))=false:=by decide)
  (h1:backTo pos (starEach [e] X.env)=(false,eval e X.env)::backTo pos (starEach [] X.env):=by rfl) (h2:(backTo pos (starEach [e] X.env)).any (·.1)=false:=by rfl):
  PE X (.Call (.Name "sorted" p) [e] [⟨some "key",.Name y p2,p3⟩] pos) (LW sp ta):=by
 obtain⟨f,fd,F,Ct,hkf,hb⟩:=D.ex;refine vG (Qs:=fun Q vs H1=>∃(d:Addr)(kvs:List (List Key×V)),vs=[.ref d]/\Rd H1 d (.dT kvs)/\∀as:List Addr,lA H1 (as.map V.ref) kvs->∃kf:Addr->List Int,(∀a∈as,kf a≠[])/\(∀a∈as,∀H2,a9 H1 H2->sp [.ref a] H2 (fun r H3=>a9 H2 H3/\∃b,r=.ref b/\H3 b=some (.tup ((kf a).map V.int))) E0)/\
  ∀(L:Addr)(out:List Addr)(H':Hp),H1 L=none->out.Perm as->(out.Pairwise fun a b=>leI (kf a) (kf b))->a9 H1 H'->H' L=some (.lst (out.map V.ref))->Q (.ref L) H') hg hm hy Ct ha Df (fun jr s σ H vs us Q I r q=>?_) h1 h2
 obtain⟨d,kvs,rfl,hd,q⟩:=q;obtain⟨u,rfl,ru⟩:=vals1 r;cases ru;obtain⟨hs,hz,o,es,ep,en,sz,qh⟩:=oM I hd;obtain⟨qs,rq⟩:∃qs:List V,Vals qs (es.toList.map (·.key))/\lA H qs kvs:=DD (by rw[ai,dq,sz]) fun j u hu=>by
  rw[bc,ik]at hu;cases e:es[j]? with
  |none=>rw[e]at hu;cases hu
  |some n=>rw[e]at hu;obtain⟨k,v,q,a1,a2,a3,_⟩:=qh j n e;exact⟨k,v,q,a1,by rw[<- a2];exact(Option.some.inj hu).symm,a3⟩
 obtain⟨as,rfl⟩:=vO rq.2;obtain⟨kf,hk,kr,fin⟩:=q as rq.2;have ei:=j5 rq.1;have xr:as.length=es.size:=by have:=congrArg List.length ei;rw[ai,ai,dq]at this;exact this.symm
 refine sG F (hr.in1.in1) hb I (by rw[xr,sz];exact hz) (fun Q' q=>J9 hs (I.ok.hd hc) en (by rw[sz];exact hz) fun vs h' tk hl hv kp=>?_) hk kr fin;have ev:vs=as.map Value.ref:=by
  rw[<- ei];apply List.ext_getElem?;intro j;cases e:vs[j]? with
  |none=>have:=jn.mp e;rw[jn.mpr (by rw[ai,dq,<- hl];exact this)]
  |some v=>obtain⟨n,hn,rfl⟩:=hv j v e;rw[bc,ik,hn];rfl
 rw[ev];exact q h' tk kp
end
noncomputable def pairOf(H:Hp)(a:Addr):PI:=match H a with|some (.tup [.int x,.int y])=>(x,y)|_=>(0,0)
def iA(H:Hp)(a:Addr):List Int:=[(pairOf H a).2,(pairOf H a).1]
theorem vJ{H:Hp}{a:Addr}{p:PI}(h:H a=some (.tup [.int p.1,.int p.2])):pairOf H a=p:=by unfold pairOf;rw[h]
theorem K8{H:Hp}{a b:Addr}(h:leI (iA H a) (iA H b)):RM.g8 (pairOf H a) (pairOf H b):=by unfold leI iA ixs at h;generalize pairOf H a=p at h ⊢;generalize pairOf H b=q at h ⊢;unfold RM.g8;simp[PyProof.Rows.lexLt,itemLt]at h;omega
theorem sY{H:Hp}:∀{as:List Addr}{ps:List PI},Paired (T2 H) (as.map V.ref) ps->ps=as.map (pairOf H)
 |[],ps,h=>by cases h;rfl
 |a::as,ps,h=>by
  rw[bp]at h;cases h with
  |cons t r=>obtain⟨b,e,hb⟩:=t;cases e;rw[bp,vJ hb,<- sY r]
theorem sP{H:Hp}:∀{as:List Addr},(∀a∈as,T2 H (.ref a) (pairOf H a))->Paired (T2 H) (as.map V.ref) (as.map (pairOf H))
 |[],_=>.nil
 |a::as,h=>.cons (h a bh) (sP fun b hb=>h b (au _ hb))
theorem yO{H:Hp}{as:List Addr}{ps:List PI}(h:Paired (T2 H) (as.map V.ref) ps):∀a∈as,T2 H (.ref a) (pairOf H a):=by
 induction as generalizing ps with
 |nil=>intro a ha;cases ha
 |cons b as ih=>
  rw[bp]at h;cases h with
  |cons t r=>
   intro a ha;rcases ak.mp ha with rfl|ha
   ·obtain⟨c,e,hc⟩:=t;cases e;exact⟨a,rfl,by rw[vJ hc];exact hc⟩
   ·exact ih r a ha
theorem qL{H:Hp}{as out:List Addr}{ps:List PI}(h:Paired (T2 H) (as.map V.ref) ps)(hp:out.Perm as)(hs:out.Pairwise fun a b=>leI (iA H a) (iA H b)):
  ∃ys,Paired (T2 H) (out.map V.ref) ys/\ys.Perm ps/\ys.Pairwise RM.g8:=by
 have ht:=yO h;refine⟨out.map (pairOf H),sP fun a ha=>ht a (hp.mem_iff.mp ha),?_,?_⟩
 ·rw[sY h];exact hp.map _
 ·rw[jg];exact hs.imp fun z=>K8 z
def dP(p:PI):PyData:=.tuple [.int p.1,.int p.2]
def dW(w:List PI):PyData:=.list (w.map dP)
def dWs(ws:List (List PI)):PyData:=.list (ws.map dW)
theorem N6{K:W.Frag}{H:Hp}{v:V}{p:PI}(h:T2 H v p):Dp K H v (dP p):=by obtain⟨a,rfl,ha⟩:=h;exact .tup (SqT.of ha) (.cons (.int _) (.cons (.int _) .nil))
theorem C8{K:W.Frag}{H:Hp}{α:Type}{R:V->α->Prop}{f:α->PyData}(hf:∀v a,R v a->Dp K H v (f a)):∀{xs:List V}{ys:List α},Paired R xs ys->u9 K H xs (ys.map f)
 |_,_,.nil=>.nil
 |_,_,.cons r t=>.cons (hf _ _ r) (C8 hf t)
theorem X4{K:W.Frag}{H:Hp}{v:V}{w:List PI}(h:LT H v w):Dp K H v (dW w):=by obtain⟨a,xs,rfl,ha,pr⟩:=h;exact .lst (SqL.of ha) (C8 (fun _ _ t=>N6 t) pr)
theorem LO{K:W.Frag}{H:Hp}{v:V}{ws:List (List PI)}(h:LLT H v ws):Dp K H v (dWs ws):=by obtain⟨a,xs,rfl,ha,pr⟩:=h;exact .lst (SqL.of ha) (C8 (fun _ _ t=>X4 t) pr)
theorem mR{α:Type}[DecidableEq α]{f:α->PyData}(hf:∀a b,PyData.eqv (f a) (f b)=decide (a=b)):∀xs ys:List α,PyData.eqvAll (xs.map f) (ys.map f)=decide (xs=ys)
 |[],[]=>by simp[PyData.eqvAll]
 |[],_::_=>by simp[PyData.eqvAll]
 |_::_,[]=>by simp[PyData.eqvAll]
 |x::xs,y::ys=>by rw[bp,bp,PyData.eqvAll,hf,mR hf xs ys];rw[di];simp
theorem LN(a b:PI):PyData.eqv (dP a) (dP b)=decide (a=b):=by unfold dP;simp only[PyData.eqv,PyData.eqvAll,Bool.and_true];rw[di];simp[Prod.ext_iff]
theorem SD(a b:List PI):PyData.eqv (dW a) (dW b)=decide (a=b):=by unfold dW;rw[PyData.eqv];exact mR LN a b
theorem MW(a b:List (List PI)):PyData.eqv (dWs a) (dWs b)=decide (a=b):=by unfold dWs;rw[PyData.eqv];exact mR SD a b
theorem xB{α:Type}{f:α->PyData}(hf:∀a,PyData.canLay0 (f a)=true):∀xs:List α,PyData.canLayAll0 (xs.map f)=true
 |[]=>by simp[PyData.canLayAll0]
 |x::xs=>by rw[bp,PyData.canLayAll0,hf,xB hf xs];rfl
theorem qA{α:Type}{f:α->PyData}{n:Nat}(hf:∀a,PyData.depth (f a)<=n):∀xs:List α,PyData.depthAll (xs.map f)<=n
 |[]=>by simp[PyData.depthAll]
 |x::xs=>by rw[bp,PyData.depthAll];have h1:=hf x;have h2:=qA hf xs;omega
theorem uY(ws:List (List PI)):SeqAt.shaped (dWs ws)=true:=by
 have l1:∀p,PyData.canLay0 (dP p)=true:=fun p=>by simp[dP,PyData.canLay0,PyData.canLayAll0]
 have l2:∀w,PyData.canLay0 (dW w)=true:=fun w=>by unfold dW;rw[PyData.canLay0];exact xB l1 w
 have d1:∀p,PyData.depth (dP p)<=1:=fun p=>by simp[dP,PyData.depth,PyData.depthAll]
 have d2:∀w,PyData.depth (dW w)<=2:=fun w=>by unfold dW;rw[PyData.depth];have:=qA d1 w;omega
 unfold SeqAt.shaped dWs;rw[PyData.canLay0,xB l2 ws,PyData.depth];have:=qA d2 ws;simp;omega
end L3
namespace L3
open PySem PySem.Spec PySem.Calls PyProof.Rows L2
section
variable {prog:Program}{w:World}{A:Around}{E:Value->Shared->Prop}{s:Shared}{d:Addr}{o:Obj}{es:Array DictEntry}{ep:Nat}
theorem wZ(hs:(d==sysModules)=false):MeetsIn prog w (Builtin.«dict.items» ⟨[.ref d],[]⟩) (fun _ R s=>(∃o es ep,jW s.heap d o es ep)/\R (.ok (.ret (.ref s.heap.objs.size))) {s with heap:=s.heap.push {cls:=.type "dict_items",data:=.fields #[.ref d]}}):=
 .of_wp fun A R s q=>by
  obtain⟨⟨o,es,ep,e⟩,hR⟩:=q
  delta Builtin.«dict.items»
  refine aa (show wpAny _ _ (Builtin.Dict.noArgs _ _) _ _ s from ?_)
  delta Builtin.Dict.noArgs
  refine aa (wpAny_notOrdered_dict e.ty (show wpAny _ _ (pure d) _ _ s from ah (show wpAny _ _ (Builtin.Dict.showsAll d>>=fun _=>_) _ _ s from ?_)))
  delta Builtin.Dict.showsAll
  rw[af (show¬(d==sysModules)=true by rw[hs];exact bo)];exact aa (ah (aa (wpAny_newObj_type (ah ⟨_,rfl,hR⟩))))
theorem z9{v:Addr}{Q:Value->Shared->Prop}(hv:s.heap.IsItemsView v d)(e:jW s.heap d o es ep)
  (hQ:Q (.ref s.heap.objs.size) {s with heap:=s.heap.push {cls:=.type "dict_itemiterator",data:=.fields #[.none,.bool false,.ref d,.int 0 0,.int es.size 0,.int ep 0,.none,.none]}}):wpAny (model prog w) A (pyIter (.ref v)) Q E s:=by
 obtain⟨vo,v1,v2,v3⟩:=id hv;refine wpAny_pyIter_slot hv.typeIs F.slot_dict_items_iter (wpAny_call_entry F.slot_dict_items_iter hv.typeIs F.entry_dict_items_iter (show wpAny _ _ (Builtin.«dict_items.__iter__» _) _ _ _ from ?_) (F.args_dict_items_iter_1 _))
 delta Builtin.«dict_items.__iter__»
 refine aa (ah (aa (show wpAny _ _ (Builtin.Dict_items.dictOf _) _ _ _ from ?_)))
 delta Builtin.Dict_items.dictOf
 refine aa (wpAny_field v1 v3 (x:=.ref d) rfl (ah (aa (show wpAny _ _ (Builtin.Dict_items.newIterator _ _) _ _ _ from ?_))))
 delta Builtin.Dict_items.newIterator
 refine aa (wpAny_dictEntries e.at_ e.dat (aa (wpAny_dictEpoch e.at_ e.dat ?_)));have own:Builtin.Dict_items.ownsTuple "dict_itemiterator" =true:=by rfl
 simp only[own,if_true];refine wpAny_newObj_type (ah ⟨_,rfl,"dict_itemiterator",_,⟨_,bb _ rfl,rfl⟩,F.slot_dict_itemiterator_next.lookup,(by simpa[rawInt,Builtin.Dict_items.ownedTupleFields]using hQ)⟩) ?_;simp only[sizeOk,Builtin.Dict_items.ownedTupleFields,bg,aj,br,fh,sizeLine_eq]<;>omega
theorem BF{it:Addr}{i:Nat}{en:DictEntry}{k0 v0:Value}{Q:Option Value->Shared->Prop}(km:IsItemIter s.heap it d i es.size ep k0 v0)(e:jW s.heap d o es ep)(hx:es[i]? =some en)
  (hQ:∀h',IsItemIterOut h' it d (i+1) es.size ep en.key en.val s.heap.objs.size->h'.get? s.heap.objs.size=some {cls:=.type "tuple",data:=.seq #[en.key,en.val]}->h'.objs.size=s.heap.objs.size+1->(∀b q,b≠it->s.heap.get? b=some q->h'.get? b=some q)->Q (some (.ref s.heap.objs.size)) {s with heap:=h'}):
  wpAny (model prog w) A (pyNext (.ref it)) Q E s:=by
 obtain⟨g0,gn,dr,tk,os⟩:=s;have ty:Shared.TypeIs ⟨g0,gn,dr,tk,os⟩ (.ref it) "dict_itemiterator" :=⟨_,km,rfl⟩
 delta pyNext
 refine aa (wpAny_attempt (wpAny_callSpecial?_slot (name:=Str.ofString "__next__") ty F.slot_dict_itemiterator_next (wpAny_call_entry F.slot_dict_itemiterator_next ty F.entry_dict_itemiterator_next ?_ (F.args_dict_itemiterator_next_1 _))));refine aa (ah (aa (aa ?_)));first|refine aa (wpAny_typeNameOfWhole_itemiter ty (ah (aa (wpAny_fieldsOf km rfl ?_))))|refine aa (wpAny_typeNameOf_itemiter ty (ah (aa (wpAny_fieldsOf km rfl ?_))))
 have own:Builtin.Dict_items.ownsTuple "dict_itemiterator" =true:=by rfl
 simp only[own,if_true];show wpAny _ _ (if(Value.ref d==Value.none)=true then _ else _) _ _ ⟨g0,gn,dr,tk,os⟩
 have nn:¬((Value.ref d==Value.none)=true):=bo;rw[af nn];refine aa (ah (aa (wpAny_dictEntries e.at_ e.dat ?_)));rw[af (show¬ _ by simp)];refine aa (ah (aa (wpAny_dictEpoch e.at_ e.dat ?_)));rw[af (show¬ _ by simp)];obtain⟨lt,qh⟩:=gr.mp hx;have i0:¬((i:Int)<0):=by omega
 refine ah ?_;simp only[i0,if_false,jq,gc lt,qh];refine aa ?_;first|refine aa (wpAny_typeNameOfWhole_itemiter ty (ah (aa (wpAny_isOneOf_itemiter ty ?_))))|refine aa (wpAny_typeNameOf_itemiter ty (ah (aa (wpAny_isOneOf_itemiter ty ?_))))
 show wpAny _ _ (setField (.ref it) 3 (rawInt ((i:Int)+1))>>=fun _=>_) _ _ ⟨g0,gn,dr,tk,os⟩
 refine aa (wpAny_setField_rec km (by simp) fun g1 a1 b1=>?_);replace b1:Heap.SameBut it g0 g1:=b1;replace a1:IsItemIter g1 it d (i+1) es.size ep k0 v0:=by
  have ei:((i+1:Nat):Int)=(i:Int)+1:=by omega
  show _=_
  rw[ei];simpa[rawInt]using a1
 have ty1:Shared.TypeIs ⟨g1,gn,dr,tk,os⟩ (.ref it) "dict_itemiterator" :=⟨_,a1,rfl⟩;refine aa (wpAny_holding (aa (wpAny_isOneOf_itemiter ty1 (aa (wpAny_isOneOf_itemiter ty1 ?_)))));show wpAny _ _ (Builtin.Dict_items.pairFromOwner (.ref it) 6 en.key en.val) _ _ ⟨g1,gn,dr,tk,os⟩
 delta Builtin.Dict_items.pairFromOwner
 refine aa (wpAny_newTuple ?_);have a2:IsItemIter (g1.push {cls:=.type "tuple",data:=.seq #[en.key,en.val]}) it d (i+1) es.size ep k0 v0:=aq _ a1;have z1:g1.objs.size=g0.objs.size:=b1.1;have il:it<g0.objs.size:=bq km;have t2:(g1.push {cls:=.type "tuple",data:=.seq #[en.key,en.val]}).get? g0.objs.size=some {cls:=.type "tuple",data:=.seq #[en.key,en.val]}:=by rw[<- z1];exact bb _ rfl
 have z2:(g1.push {cls:=.type "tuple",data:=.seq #[en.key,en.val]}).objs.size=g0.objs.size+1:=by rw[fx,z1]
 have k2:∀b q,b≠it->g0.get? b=some q->(g1.push {cls:=.type "tuple",data:=.seq #[en.key,en.val]}).get? b=some q:=fun b q hb z=>aq _ (b1.extBut b q hb z)
 show wpAny _ _ (Builtin.Dict_items.ownedTupleIsFree (.ref it)>>=fun _=>_) _ _ ⟨g1.push {cls:=.type "tuple",data:=.seq #[en.key,en.val]},gn,dr,tk,os⟩
 rw[z1];generalize (g1.push {cls:=.type "tuple",data:=.seq #[en.key,en.val]})=g2 at a2 t2 z2 k2 ⊢;refine aa (show wpAny _ _ (Builtin.Dict_items.ownedTupleIsFree _) _ _ _ from ?_)
 delta Builtin.Dict_items.ownedTupleIsFree
 refine aa (wpAny_field a2 rfl (x:=.none) rfl (ah ?_));simp only[if_true];refine aa (wpAny_field a2 rfl (x:=k0) rfl (aa (wpAny_field a2 rfl (x:=v0) rfl ?_)));refine aa (wpAny_setField_rec a2 (by simp) fun g3 a3 b3=>?_);replace b3:Heap.SameBut it g2 g3:=b3;replace a3:IsItemIter g3 it d (i+1) es.size ep en.key v0:=a3;refine aa (wpAny_setField_rec a3 (by simp) fun g4 a4 b4=>?_);replace b4:Heap.SameBut it g3 g4:=b4;replace a4:IsItemIter g4 it d (i+1) es.size ep en.key en.val:=a4;refine aa (wpAny_setField_rec a4 (by simp) fun g5 a5 b5=>?_);replace b5:Heap.SameBut it g4 g5:=b5;replace a5:IsItemIterOut g5 it d (i+1) es.size ep en.key en.val g0.objs.size:=a5;refine aa (wpAny_setField_rec a5 (by simp) fun g6 a6 b6=>?_);replace b6:Heap.SameBut it g5 g6:=b6;replace a6:IsItemIterOut g6 it d (i+1) es.size ep en.key en.val g0.objs.size:=a6;have kp:∀b q,b≠it->g2.get? b=some q->g6.get? b=some q:=fun b q hb z=>b6.extBut b q hb (b5.extBut b q hb (b4.extBut b q hb (b3.extBut b q hb z)))
 refine aa (wpAny_letGo (ah (ah ⟨_,rfl,ah (hQ g6 a6 (kp _ _ (jj il) t2) ?_ fun b q hb z=>kp b q hb (k2 b q hb z))⟩)));show g6.objs.size=g0.objs.size+1
 rw[b6.1,b5.1,b4.1,b3.1,z2]
end
section
variable {prog:Program}{w:World}{A:Around}{E:Value->Shared->Prop}{s:Shared}{d:Addr}{o:Obj}{es:Array DictEntry}{ep:Nat}
theorem BP{it:Addr}{i:Nat}{k0 v0:Value}{Q:Option Value->Shared->Prop}(hh:A.handled=none)(km:IsItemIter s.heap it d i es.size ep k0 v0)(e:jW s.heap d o es ep)(zw:es.size<=i)
  (hQ:∀h',Heap.ExtBut it s.heap h'->Q none {s with heap:=h'}):wpAny (model prog w) A (pyNext (.ref it)) Q E s:=by
 have ty:s.TypeIs (.ref it) "dict_itemiterator" :=⟨_,km,rfl⟩
 delta pyNext
 refine aa (wpAny_attempt (wpAny_callSpecial?_slot (name:=Str.ofString "__next__") ty F.slot_dict_itemiterator_next (wpAny_call_entry F.slot_dict_itemiterator_next ty F.entry_dict_itemiterator_next ?_ (F.args_dict_itemiterator_next_1 _))));refine aa (ah (aa (aa ?_)));first|refine aa (wpAny_typeNameOfWhole_itemiter ty (ah (aa (wpAny_fieldsOf km rfl ?_))))|refine aa (wpAny_typeNameOf_itemiter ty (ah (aa (wpAny_fieldsOf km rfl ?_))))
 have own:Builtin.Dict_items.ownsTuple "dict_itemiterator" =true:=by rfl
 simp only[own,if_true];show wpAny _ _ (if(Value.ref d==Value.none)=true then _ else _) _ _ s
 have nn:¬((Value.ref d==Value.none)=true):=bo;rw[af nn];refine aa (ah (aa (wpAny_dictEntries e.at_ e.dat ?_)));rw[af (show¬ _ by simp)];refine aa (ah (aa (wpAny_dictEpoch e.at_ e.dat ?_)));rw[af (show¬ _ by simp)];have i0:¬((i:Int)<0):=by omega
 refine ah ?_;simp only[i0,if_false,jq,getElem?_eq_none zw];refine aa ?_;first|refine aa (wpAny_typeNameOfWhole_itemiter ty (ah (show wpAny _ _ (setField (.ref it) 2 .none>>=fun _=>_) _ _ s from aa (wpAny_setField km rfl (by simp) ?_))))|refine aa (wpAny_typeNameOf_itemiter ty (ah (show wpAny _ _ (setField (.ref it) 2 .none>>=fun _=>_) _ _ s from aa (wpAny_setField km rfl (by simp) ?_))))
 show wpAny _ _ (newExc (.type "StopIteration") []>>= _) _ _ _
 refine aa ?_;simp only[newExc,newTuple];refine aa (wpAny_newObj_type ?_ (by size_fits));refine aa (m:=firstArgMember _ _) (wpAny_of_eq (a:=Value.none) (by first|rfl|(simp only[firstArgMember];rfl)) ?_);refine wpAny_newObj_type ?_ (by size_fits);simp only[raiseNew];refine aa (wpAny_handled ?_);rw[show A.in1.handled=none from hh];refine aa (ah (wpAny_throw ?_));refine aa (wpAny_isInstance (T:= "StopIteration") (b:=true) ⟨_,bb _ rfl,rfl⟩ isSubtype_stop ?_);exact ah (hQ _ (((Heap.SameBut.update ..).extBut.push _).push _))
end
noncomputable def JH(d:Addr)(o:Obj)(kvs:List (List Key×V)):It:=
 ⟨fun i H=>H d=some (.frz o (.dT kvs))/\i<kvs.length,fun i H x H'=>∃T k v q,kvs[i]? =some (k,v)/\H q=some (.tup (k.map kV))/\x=.ref T/\H T=none/\H'=upd H T (.tup [.ref q,v]),fun i H=>H d=some (.frz o (.dT kvs))/\kvs.length<=i⟩
section
variable {P:Program}{w:World}{K:W.Frag}{d:Addr}{o:Obj}{es:Array DictEntry}{ep:Nat}
theorem zY{X:Cx}{jr:List (Addr×Obj)}{σ:L2.St}{H:Hp}{s:Shared}{kvs:List (List Key×V)}(I:Inv X jr σ H s)(h:H d=some (.frz o (.dT kvs)))(qo:o.data=.dict es ep):jW s.heap d o es ep/\es.size=kvs.length/\∀(i:Nat)(en:DictEntry),es[i]? =some en->∃k v q,kvs[i]? =some (k,v)/\en.key=.ref q/\H q=some (.tup (k.map kV))/\RelV v en.val:=by
 obtain⟨_,_,o',uo,ur,e,sz,en⟩:=oM I (.inr ⟨o,h⟩);have e0:=(I.hok d _ h).1;have eo:o'=o:=by have:=e.at_;rw[e0]at this;exact(Option.some.inj this).symm
 subst eo;obtain⟨rfl,rfl⟩:=oO qo e.dat;exact⟨e,sz,en⟩
theorem y8{kvs:List (List Key×V)}{qk:List Expr}{kk:Nat}{oa:Pos}(it:Addr)(qo:o.data=.dict es ep):Turn P w K (.Tuple qk kk oa) (JH d o kvs) [it] it (fun i h=>∃k0 v0,IsItemIter h it d i kvs.length ep k0 v0) where
 mem:=by simp
 obj:=fun i h st b hb=>by
  have e:b=it:=by simpa using hb
  subst e;obtain⟨_,_,e⟩:=st;exact⟨_,e,fun v z=>nomatch z⟩
 keep:=fun i h h' st k=>let⟨k0,v0,e⟩:=st;⟨k0,v0,k it (by simp) _ e⟩
 item:=by
  intro X hP hw hK hc i jr s σ H E I hf st hg;subst hP hw hK;obtain⟨hd,hi⟩:=hg;obtain⟨e,sz,Bb⟩:=zY I hd qo;obtain⟨k0,v0,he⟩:=st;rw[<- sz]at he hi;obtain⟨k,v,q,zt,oh,hq,rv⟩:=Bb i es[i] (gc hi);have jz:it<s.heap.objs.size:=bq he;refine BF he e (gc hi) fun h' ho hT hz hk=>?_
  refine⟨_,rfl,wpAny_letOwnedTupleGo_items (s:={s with heap:=h'}) ho fun xc De sb=>?_⟩;have yc:xc.get? s.heap.objs.size=some {cls:=.type "tuple",data:=.seq #[es[i].key,es[i].val]}:=(sb.2 _ (jj jz)).trans hT;have new:d9 X.prog X.w (upd H s.heap.objs.size (.tup [.ref q,v])) xc s.heap.objs.size (.tup [.ref q,v]):=⟨by show 2<=sizeLine;decide,[es[i].key,es[i].val],.cons oh (.cons rv .nil),⟨_,yc,rfl,_,rfl⟩⟩;have I1:Inv X jr σ (upd H s.heap.objs.size (.tup [.ref q,v])) {s with heap:=xc}:=I.uV (t':=s.toks) (ch:=[it]) (fun b ob hb z=>(sb.2 b (by simpa using hb)).trans (hk b ob (by simpa using hb) z)) hf (ax _) new;refine⟨.ref s.heap.objs.size,_,I1,rfl,⟨_,k,v,q,zt,hq,rfl,I.hok.fresh (ax _),rfl⟩,⟨_,_,by rw[<- sz];exact De⟩,fun b hb=>?_⟩;have eb:b=it:=by simpa using hb
  rw[eb,aC (da jz)];exact(hf it (by simp)).1
 done:=by intro X hP hw hK hc i jr s σ H E I hf st hg;subst hP hw hK;obtain⟨hd,hi⟩:=hg;obtain⟨f0,f1,f2,f3,f4,f5⟩:=hf it (by simp);obtain⟨e,sz,Bb⟩:=zY I hd qo;obtain⟨k0,v0,he⟩:=st;rw[<- sz]at he hi;exact BP (I.ok.hd hc) he e hi fun h' eb=>⟨rfl,I.turned (t':=s.toks) (fun b ob hb z=>eb b ob hb z) f0 f1 f3 f4 f5⟩
 self:=fun A i s Q E st h=>let⟨_,_,e⟩:=st;W.kcp_self e h
end
noncomputable def KI(td:TE):TI:=fun σ H R=>td σ H fun x H1=>∃d o kvs,x=.ref d/\H1 d=some (.frz o (.dT kvs))/\R (JH d o kvs) H1
section
variable {X:Cx}{e:Expr}{td:TE}{lh jy:Pos}
theorem vF{qk:List Expr}{kk:Nat}{oa:Pos}(he:PE X e td)(nj:attributeBase e "items" X.env (eval e X.env)=eval e X.env:=by rfl)(qc:(lh.endLine==jy.line)=true:=by rfl):L2.PI X (.Tuple qk kk oa) (.Call (.Attribute e "items" lh) [] [] jy) (KI td):=by
 intro jr s σ H R I h;refine wpAny_Call_method (T:= "dict") (id:= "dict.items") nj rfl qc F.plainAttrs_dict F.slot_dict_items F.type_dict_items (thn (he jr s σ H _ I h) fun u s1 ⟨x,H1,I1,rx,d,o,kvs,ex,hd,q⟩=>?_);subst ex;obtain rfl:u=Value.ref d:=rx;obtain⟨hs,_,o',es,ep,en,sz,_⟩:=oM I1 (.inr ⟨o,hd⟩);have eo:o'=o:=by have:=en.at_;rw[(I1.hok d _ hd).1]at this;exact(Option.some.inj this).symm
 subst eo;refine⟨en.ty,fun b z=>by cases z;exact⟨o',en.at_,en.ex.2.1⟩,?_⟩;have I2:Inv X jr σ H1 {s1 with heap:=s1.heap.push {cls:=.type "dict_items",data:=.fields #[.ref d]}}:=I1.kept (t':=s1.toks) fun b ob q=>aq _ q
 have en2:jW (s1.heap.push {cls:=.type "dict_items",data:=.fields #[.ref d]}) d o' es ep:=en.to fun q z=>aq _ z
 have fin:wpAny (model X.prog X.w) X.A (pyIter (.ref s1.heap.objs.size)) (PIE X jr σ (.Tuple qk kk oa) R) X.xe {s1 with heap:=s1.heap.push {cls:=.type "dict_items",data:=.fields #[.ref d]}}:=by refine z9 ⟨_,bb _ rfl,rfl,rfl⟩ en2 (B6 (tk:=s1.toks) I2 _ (y8 _ en.dat) ⟨.none,.none,?_⟩ q);rw[<- sz];exact bb _ rfl
 show wpAny _ _ (callWith jy (.builtin "dict.items") [.ref d] [] []) _ X.xe s1
 exact method_meetsIn F.slot_dict_items F.entry_dict_items rfl (PySem.evalArgs_none ⟨rfl,en.ty,F.args_dict_items_1 _,_,wZ hs,⟨o',es,ep,en⟩,fin⟩)
end
theorem vS{d:Addr}{od:Obj}{kvs:List (List Key×V)}{g:TG}{tb:TS}{D:Ends}{σ:L2.St}{H:Hp}(Pv:Nat->L2.St->Hp->Prop)(h0:Pv 0 σ H)(hl:∀i σ H,Pv i σ H->H d=some (.frz od (.dT kvs)))
  (hs:∀i k v q T σ H,kvs[i]? =some (k,v)->H q=some (.tup (k.map kV))->H T=none->Pv i σ H->g (.ref T) σ (upd H T (.tup [.ref q,v])) fun σ2 H2=>tb {D with nx:=Pv (i+1),ct:=Pv (i+1),bk:=D.nx} σ2 H2) (hd:∀σ H,Pv kvs.length σ H->D.nx σ H):
  ∃W:Nat->Nat->L2.St->Hp->Prop,(∃m,W 0 m σ H)/\∀i m σ H,W i m σ H ->
   ((JH d od kvs).stop i H/\D.nx σ H)\/((JH d od kvs).go i H/\∃N:L2.St->Hp->Prop,(∀σ' H',N σ' H'->∃m',m'<m/\W (i+1) m' σ' H')/\∀x H',(JH d od kvs).yld i H x H'->g x σ H' fun σ2 H2=>tb {D with nx:=N,ct:=N,bk:=D.nx} σ2 H2):=by
 refine⟨fun i m σ H=>m=kvs.length - i/\i<=kvs.length/\Pv i σ H,⟨kvs.length,by simp,cv _,h0⟩,?_⟩;rintro i m σ H ⟨rfl,hi,p⟩;have q:=hl i σ H p;by_cases jz:i<kvs.length
 ·refine .inr ⟨⟨q,jz⟩,Pv (i+1),fun σ' H' p'=>⟨kvs.length - (i+1),by omega,rfl,jz,p'⟩,fun x H' y=>?_⟩;obtain⟨T,k,v,b,hk,hb,rfl,hT,rfl⟩:=y;exact hs i k v b T σ H hk hb hT p
 ·have e:i=kvs.length:=by omega
  subst e;exact .inl ⟨⟨q,ax _⟩,hd σ H p⟩
section
variable {prog:Program}{w:World}{A:Around}{E:Value->Shared->Prop}
abbrev TK(prog:Program)(w:World):HeapKind prog w (List Key):=tupleKind (cD prog w)
theorem xD{h0 h:Heap}{ks:List Key}{a:Addr}(k:∀b q,h0.get? b=some q->h.get? b=some q)(x:(TK prog w).is h0 ks a):(TK prog w).is h ks a:=by obtain⟨o,its,n,ho,r⟩:=x;exact⟨o,its,n,k _ _ ho,r⟩
theorem tW{h h':Heap}{S:Addr}{acc:List (List Key×Addr×Value)}(m:h.DictOfH (TK prog w) S acc)(hS:∀q,h.get? S=some q->h'.get? S=some q)(hk:∀x∈acc,(TK prog w).is h' x.1 x.2.1):h'.DictOfH (TK prog w) S acc:=by obtain⟨o,es,ep,a1,a2,a3,a4,_,a6⟩:=m;exact⟨o,es,ep,hS _ a1,a2,a3,a4,hk,a6⟩
noncomputable def CW(acc rest:List (List Key×Addr×Value)):List (List Key×Addr×Value):=rest.foldl (fun a q=>storedH a q.1 q.2.1 q.2.2) acc
theorem AY(acc:List (List Key×Addr×Value))(k:List Key)(a:Addr)(v:Value):(storedH acc k a v).length<=acc.length+1:=by unfold storedH;split<;>simp
theorem LL{R:Result->Shared->Prop}{S I l:Addr}{items:Array Value}{res:Value}{h0:Heap}(hh:A.handled=none)(hu:A.in1.units<cLine)(hIS:S≠I)(rh:h0.IsList l items)(hS0:∀b q,h0.get? b=some q->b≠S)(hI0:∀b q,h0.get? b=some q->b≠I):
  ∀(rest:List (List Key×Addr×Value))(i:Nat)(acc:List (List Key×Addr×Value))(ix:Int)(t:Tok)(s:Shared),items.size=i+rest.length->acc.length+rest.length<=sizeLine->(∀x∈acc,(TK prog w).is h0 x.1 x.2.1) ->
   (∀(j:Nat)(q:List Key×Addr×Value),rest[j]? =some q->∃b:Addr,items[i+j]? =some (.ref b)/\IsTup h0 b #[.ref q.2.1,q.2.2]/\(TK prog w).is h0 q.1 q.2.1) ->
   (∀b q,h0.get? b=some q->s.heap.get? b=some q)->s.heap.IsListIter I l i->s.heap.DictOfH (TK prog w) S acc ->
   (∀h' tk,h'.DictOfH (TK prog w) S (CW acc rest)->(∀b q,h0.get? b=some q->h'.get? b=some q)->R (.ok (.ret res)) {s with heap:=h',toks:=tk}) ->
   codeAny (model prog w) A (.builtin "dict.update.loop" ⟨[.ref S,.ref I,.int ix t,res],[]⟩) R s
 |[],i,acc,ix,t,s,hsz,hln,hacc,ht,k0,km,hm,hR=>by
  have hl:s.heap.IsList l items:=rh.at fun q z=>k0 _ _ z
  refine codeAny_builtin xZ ?_;rw[Around.under_plainId k8 _];show wpAny _ A.in1 (pyNext (.ref I)>>= _) _ _ s
  refine aa (wpAny_pyNext_list_end (A:=A.in1) hh km hl (by first|exact getElem?_eq_none (ib hsz)|(simp at hsz;simp;omega)) fun h' he=>?_);show wpAny _ A.in1 (Builtin.Dict.addKeywords S []>>= _) _ _ _
  have k1:∀b q,h0.get? b=some q->h'.get? b=some q:=fun b q z=>he b q (hI0 b q z) (k0 b q z)
  exact aa (ah (ah (hR h' s.toks (tW hm (fun q z=>he S q hIS z) fun x hx=>xD k1 (hacc x hx)) k1)))
 |q::rest,i,acc,ix,t,s,hsz,hln,hacc,ht,k0,km,hm,hR=>by
  obtain⟨b,hb,htup,hk⟩:=ht 0 q rfl;have hl:s.heap.IsList l items:=rh.at fun q z=>k0 _ _ z
  rw[br]at hsz hln;refine codeAny_builtin xZ ?_;rw[Around.under_plainId k8 _];show wpAny _ A.in1 (pyNext (.ref I)>>= _) _ _ s
  refine aa (wpAny_pyNext_list_item (x:=.ref b) km hl (by simpa using hb) fun h1 hit1 hs1=>?_);have k1:∀b q,h0.get? b=some q->h1.get? b=some q:=fun b q z=>(hs1.2 b (hI0 b q z)).trans (k0 b q z)
  have hm1:h1.DictOfH (TK prog w) S acc:=tW hm (fun q z=>(hs1.2 S hIS).trans z) fun x hx=>xD k1 (hacc x hx)
  obtain⟨o,ho,hc,n,hd⟩:=id htup;have ho1:=k1 _ _ ho;show wpAny _ A.in1 (holding [Value.ref b] _>>= _) _ _ _
  refine aa (wpAny_holding (aa (wpAny_tryCatch ?_)));unfold Builtin.Dict.pairItems;refine aa (wpAny_typeOf (T:= "tuple") ⟨o,ho1,hc⟩ ?_);rw[ag (by first|decide|rfl|simp)];refine aa (wpAny_seqItems ho1 hd (ah ?_));show wpAny _ A.in1 (holding [Value.ref q.2.1,q.2.2] (dictSet S (.ref q.2.1) q.2.2)) _ _ _
  refine wpAny_holding (wpAny_dictSet_heap (knd:=TK prog w) (k:=q.1) hu (xD k1 hk) hm1 (fun h2 hm2 ug=>?_) (by omega));have k2:∀b q,h0.get? b=some q->h2.get? b=some q:=fun b q z=>(ug.2 b (hS0 b q z)).trans (k1 b q z)
  refine ah ⟨plainId_quiet k8 _,LL (items:=items) hh hu hIS rh hS0 hI0 rest (i+1) (storedH acc q.1 q.2.1 q.2.2) (ix+1) 0 _ (show items.size=i+1+rest.length by omega) ?_ (fun x hx=>?_) (fun j q' e=>?_) k2 ?_ hm2 fun h' tk wy k=>hR h' tk wy k⟩
  ·have z:=AY acc q.1 q.2.1 q.2.2;omega
  ·unfold storedH at hx;split at hx
   ·obtain⟨y,hy,rfl⟩:=ar.mp hx;unfold putAt;split
    ·exact hacc y hy
    ·exact hacc y hy
   ·rcases aw.mp hx with hx|hx
    ·exact hacc x hx
    ·rw[iw.mp hx];exact hk
  ·obtain⟨b',a1,a2,a3⟩:=ht (j+1) q' (by simpa using e);exact⟨b',by rw[show i+1+j=i+(j+1) by omega];exact a1,a2,a3⟩
  ·exact hit1.at fun o' e=>(ug.2 I (Ne.symm hIS)).trans e
theorem A3{s:Shared}{l:Addr}{ol:Obj}{items:Array Value}{n:Nat}{prs:List (List Key×Addr×Value)}{Q:Value->Shared->Prop}(hh:A.handled=none)(hu:A.in1.in1.units<cLine)(hl:s.heap.get? l=some ol)(hc:ol.cls=.type "list")(hd:ol.dict=none)
  (lg:ol.data=.seq items n) (hsz:items.size=prs.length) (hln:prs.length<=sizeLine)
  (ht:∀(j:Nat)(q:List Key×Addr×Value),prs[j]? =some q->∃b:Addr,items[j]? =some (.ref b)/\IsTup s.heap b #[.ref q.2.1,q.2.2]/\(TK prog w).is s.heap q.1 q.2.1)
  (h:∀h' tk,h'.DictOfH (TK prog w) s.heap.objs.size (CW [] prs)->(∀b o,s.heap.get? b=some o->h'.get? b=some o)->Q (.ref s.heap.objs.size) {s with heap:=h',toks:=tk}):
  wpAny (model prog w) A (call (.type "dict") [.ref l]) Q E s:=by
 refine callType_codes (Q₁:=fun obj s₁=>obj=.ref s.heap.objs.size/\s₁={s with heap:=s.heap.push {cls:=.type "dict",data:=.dict #[]}}) PySem.F.kt_called_dict (PySem.F.kt_typeCall_dict_1 _) PySem.F.entry_dict_init (kt_code_dict_new _ ⟨rfl,rfl⟩) ?_;rintro obj s₁ ⟨rfl,rfl⟩;have uh:(s.heap.push {cls:=.type "dict",data:=.dict #[]}).DictOfH (TK prog w) s.heap.objs.size []:=Heap.DictOfH.new s.heap;have k0:∀b o,s.heap.get? b=some o->(s.heap.push {cls:=.type "dict",data:=.dict #[]}).get? b=some o:=fun b o e=>aq _ e
 refine⟨uh.typeIs,PySem.F.args_dict_init_2 _ _,?_⟩;unfold Builtin.«dict.__init__»;refine aa ?_;unfold Builtin.Dict.selfAndRest;refine aa (wpAny_notOrdered_dict uh.typeIs ?_);show wpAny _ _ (pure (s.heap.objs.size,[Value.ref l])) _ _ _
 refine ah ?_;show wpAny _ _ (Builtin.Dict.updateFrom "dict.__init__" s.heap.objs.size (.ref l) [] .none) _ _ _
 unfold Builtin.Dict.updateFrom;refine aa (wpAny_typeOf (T:= "list") ⟨ol,k0 _ _ hl,hc⟩ ?_);rw[ag (by first|decide|rfl|simp)];refine aa (EU (k0 _ _ hl) hc lg hd hh fun h1 Bg hk1=>?_);rw[ag (show(none:Option Value).isNone=true from rfl)];refine aa (wpAny_rule ?_);have hl1:h1.IsList l items:=⟨ol,hk1 _ _ (k0 _ _ hl),hc,n,lg⟩;have hS1:s.heap.objs.size<h1.objs.size:=by have e:(s.heap.push {cls:=.type "dict",data:=.dict #[]}).get? s.heap.objs.size=some {cls:=.type "dict",data:=.dict #[]}:=bb _ rfl;exact bq (hk1 _ _ e)
 refine aa (wpAny_pyIter_list hl1 ?_);have k2:∀b o,h1.get? b=some o->(h1.push {cls:=.type "list_iterator",data:=.fields #[.ref l,.int 0 0]}).get? b=some o:=fun b o e=>aq _ e
 have kk:∀b o,s.heap.get? b=some o->(h1.push {cls:=.type "list_iterator",data:=.fields #[.ref l,.int 0 0]}).get? b=some o:=fun b o e=>k2 _ _ (hk1 _ _ (k0 _ _ e))
 have key:=LL (prog:=prog) (w:=w) (A:=A.in1) (R:=wants (fun r s₂=>r=.none/\Q (.ref s.heap.objs.size) s₂) E) (S:=s.heap.objs.size) (I:=h1.objs.size) (l:=l) (items:=items) (res:=Value.none) (h0:=s.heap) hh hu (da hS1)
  ⟨ol,hl,hc,n,lg⟩ (fun b q z=>da (bq z)) (fun b q z=>da (Nat.lt_trans (bq z) hS1)) prs 0 [] 0 0
  {s with heap:=h1.push {cls:=.type "list_iterator",data:=.fields #[.ref l,.int 0 0]},toks:=Bg} (by rw[hsz,Nat.zero_add]) (by rw[fh,Nat.zero_add];exact hln) (fun x hx=>nomatch hx)
  (fun j q e=>by rw[Nat.zero_add];exact ht j q e) kk ⟨_,bb _ rfl,rfl,rfl⟩ (tW uh (fun q z=>k2 _ _ (hk1 _ _ z)) fun x hx=>nomatch hx)
  (fun h' tk wy k=>⟨rfl,h h' tk wy k⟩)
 first
  |exact ah ⟨plainId_quiet k8 _,key⟩
  |exact aa (ah (ah ⟨plainId_quiet k8 _,key⟩))
end
noncomputable def kB(kvs more:List (List Key×V)):List (List Key×V):=more.foldl (fun acc kv=>putK acc kv.1 kv.2) kvs
theorem DZ{H:Hp}:∀{more:List (List Key×V)}{prs:List (List Key×Addr×Value)}{kvs:List (List Key×V)}{acc:List (List Key×Addr×Value)},KT H more prs->KT H kvs acc->KT H (kB kvs more) (CW acc prs)
 |_,_,_,_,.nil,r=>r
 |kv::_,q::_,kvs,acc,.cons ⟨e1,e2,e3⟩ t,r=>by
  show KT H (kB (putK kvs kv.1 kv.2) _) (CW (storedH acc q.1 q.2.1 q.2.2) _)
  refine DZ t ?_;have:=r.put kv.1 e2 e3;rw[e1]at this ⊢;exact this
theorem vC:∀(more kvs:List (List Key×V)),(kB kvs more).length<=kvs.length+more.length
 |[],kvs=>by simp[kB]
 |kv::r,kvs=>by
  have h1:=vC r (putK kvs kv.1 kv.2);have h2:=kH kvs kv.1 kv.2;show(kB (putK kvs kv.1 kv.2) r).length<=_
  rw[br];omega
section
variable {X:Cx}
theorem CH(Dh:X.calm=true)(hu:X.A.units+2<cLine):lC X (.type "dict") (fun xs H Q=>∃(a:Addr)(ps:List Addr)(kvs:List (List Key×V)),xs=[.ref a]/\SqL X.K H a (ps.map V.ref)/\Paired (fun p (kv:List Key×V)=>∃q,H p=some (.tup [.ref q,kv.2])/\H q=some (.tup (kv.1.map kV))) ps kvs/\
  ∀p,H p=none->Q (.ref p) (upd H p (.dT (kB [] kvs)))):=by
 intro jr s σ H xs us Q I r h;obtain⟨a,ps,kvs,ex,hq,hp,h⟩:=h;subst ex;obtain⟨u,eu,rx⟩:=vals1 r;subst eu;cases rx;obtain⟨its,rv,pl,hz⟩:=I.list hq;have ei:=j5 rv;subst ei;rw[ai]at hz;have hpr:∀{ps:List Addr}{kvs:List (List Key×V)},Paired (fun p (kv:List Key×V)=>∃q,H p=some (.tup [.ref q,kv.2])/\H q=some (.tup (kv.1.map kV))) ps kvs ->
   ∃prs:List (List Key×Addr×Value),KT H kvs prs/\prs.length=ps.length/\∀(j:Nat)(q:List Key×Addr×Value),prs[j]? =some q->∃b,ps[j]? =some b/\IsTup s.heap b #[.ref q.2.1,q.2.2]/\(TK X.prog X.w).is s.heap q.1 q.2.1:=by
  intro ps kvs hp;induction hp with
  |nil=>exact⟨[],.nil,rfl,fun j q e=>by simp at e⟩
  | @cons p kv ps kvs hq t ih=>
   obtain⟨prs,r1,r2,r3⟩:=ih;obtain⟨b,hb1,Ay⟩:=hq;obtain⟨its,rv,ht,_⟩:=I.tuple (SqT.of (K:=X.K) hb1);obtain⟨u,y,ei,ru,ry⟩:=vals2 rv;subst ei;cases (show u=Value.ref b from ru);refine⟨(kv.1,b,y)::prs,.cons ⟨rfl,Ay,ry⟩ r1,by rw[br,br,r2],fun j q e=>?_⟩;cases j with
   |zero=>have e':(kv.1,b,y)=q:=Option.some.inj e;subst e';exact⟨p,rfl,ht,kJ I.hok Ay⟩
   |succ j=>obtain⟨c,e1,e2,e3⟩:=r3 j q (by simpa using e);exact⟨c,by simpa using e1,e2,e3⟩
 obtain⟨prs,rel,hl,hpr⟩:=hpr hp;obtain⟨o,n,ho,hc,hd,lg⟩:=pl;refine A3 (prs:=prs) (I.ok.hd Dh) hu ho hc hd lg (by simp[hl]) (by rw[hl];exact hz) (fun j q' e=>?_) fun h' tk wy k=>?_
 ·obtain⟨b,e1,e2,e3⟩:=hpr j q' e;exact⟨b,by simp[e1],e2,e3⟩
 ·have hm:(s.heap.objs.size==sysModules)=false:=beq_eq_false_iff_ne.mpr (jj I.big);have kc:(kB [] kvs).length<=sizeLine:=by have h1:=vC kvs [];have h2:=pairs_len hp;rw[fh]at h1;omega
  have kt:=DZ rel (.nil:KT H [] []);obtain⟨q,es,ep,pf,h2,h3,h4,_,h5⟩:=wy;refine⟨.ref s.heap.objs.size,_,I.laid (a:=s.heap.objs.size) (o:=.dT (kB [] kvs)) k (ax _) ⟨kc,hm,_,kt.keeps fun c ys ec=>?_,q,es,ep,pf,h2,h3,h4,h5⟩,rfl,h _ (I.hok.fresh (ax _))⟩;rw[aC (aI ec (I.hok.fresh (ax _)))];exact ec
end
end L3
namespace L3
open PySem PySem.Spec PyProof.Rows L2
theorem MQ{A:Around}{k:Nat}(hr:d4 k A):A.units+2<cLine:=gh (Nat.add_le_add_left (by decide:2<=64) _) hr.units
theorem CQ{H:Hp}:∀{xs:List V}{ps:List PI},Paired (T2 H) xs ps->∃as:List Addr,xs=as.map V.ref
 |_,_,.nil=>⟨[],rfl⟩
 |_,_,.cons ⟨a,e,_⟩ t=>by obtain⟨as,rfl⟩:=CQ t;exact⟨a::as,by rw[e];rfl⟩
theorem uL{α:Type}{l:List α}{i:Nat}{x:α}(h:l[i]? =some x):i<l.length:=(ao.mp h).1
theorem yK{κ:Type}[DecidableEq κ]{kf:κ->List Key}(hk:∀p q,kf p=kf q->p=q):∀(more kvs:List (κ×V)),kB (kvF kf kvs) (kvF kf more)=kvF kf (RM.cT kvs more)
 |[],kvs=>rfl
 |x::r,kvs=>by
  show kB (putK (kvF kf kvs) (kf x.1) x.2) (kvF kf r)=kvF kf (RM.cT (RM.dN kvs x.1 x.2) r)
  rw[B3 hk,yK hk r]
theorem EO{L:List PI}(h:L.Nodup):kB [] (kvF k2 (KS L))=kvF k2 (KS L):=by have e:=yK (kf:=k2) (fun _ _=>BO) (KS L) [];rw[RM.qD (KS L) [] (by rw[xW];exact h) (by intro k _ z;cases z),nil_append]at e;exact e
def cnt(σ:L2.St)(i:Nat):Nat:=match σ[i]? with|some (some (.int k))=>k.toNat|_=>0
theorem T2.SG{a:Addr}{H H':Hp}{v:V}{p:PI}{kvs:List (PI×V)}(h:T2 H v p)(e:But a H H')(ha:D2 H a kvs):T2 H' v p:=h.but e ha (by intro _ z;cases z)
theorem KA{α:Type}{ws:List α}{q:α}{n:Nat}(hn:ws.length=n)(hq:ws[n - 1]? =some q):ws=ws.dropLast++[q]:=by
 subst hn;have jv:ws≠[]:=by intro z;rw[z]at hq;cases hq
 have e:=(jb jv).symm;rw[List.getLast_eq_getElem]at e;have e2:=(ao.mp hq).2;rw[e2]at e;exact e
noncomputable def LS(H:Hp)(a:Addr)(ts:List PI3):Prop:=∃xs,H a=some (.lst xs)/\Paired (T3 H) xs ts
noncomputable def LLS(H:Hp)(a:Addr)(Fs:List (List PI3)):Prop:=∃bs:List Addr,H a=some (.lst (bs.map V.ref))/\Paired (LS H) bs Fs
theorem LS.mono{H H':Hp}{a:Addr}{ts:List PI3}(e:a9 H H')(h:LS H a ts):LS H' a ts:=let⟨xs,h1,h2⟩:=h;⟨xs,e _ _ h1,aJ (fun _ _ q=>q.mono e) h2⟩
theorem LLS.mono{H H':Hp}{a:Addr}{Fs:List (List PI3)}(e:a9 H H')(h:LLS H a Fs):LLS H' a Fs:=let⟨bs,h1,h2⟩:=h;⟨bs,e _ _ h1,aJ (fun _ _ q=>LS.mono e q) h2⟩
theorem LS.upd{H:Hp}{b D:Addr}{ts:List PI3}{xs:List V}{o:HO}(h:LS H b ts)(hD:H D=some (.lst xs))(n:b≠D):LS (L2.upd H D o) b ts:=by obtain⟨ys,q,pr⟩:=h;exact⟨ys,by rw[aC n];exact q,aJ (fun _ _ z=>z.upd hD) pr⟩
theorem qQ{α β:Type}{R:α->β->Prop}:∀{l:List α}{m:List β}{b:β},Paired R l (m++[b])->∃l' a,l=l'++[a]/\Paired R l' m/\R a b
 |_,[],_,.cons r .nil=>⟨[],_,rfl,.nil,r⟩
 |_,_::m,_,.cons r t=>by obtain⟨l',a,e,h1,h2⟩:=qQ (m:=m) t;exact⟨_::l',a,by rw[e];rfl,.cons r h1,h2⟩
end L3
namespace L3
open PySem PySem.Spec PySem.Calls PyProof.Rows L2
section
variable {M:Model}{A:Around}{E:Value->Shared->Prop}
variable {nm q nm' q':Str}{C N C' N':Addr}{bs bm bs' bm':List Value}{hdct xw:Bool}{sn sn':List Str}{sub Bh:List Value}{ab ab':Bool}{col Dx:Option Bool}{dd Af:Option Addr}{k0 k1 k2 k3 k5 l0 l1 l2 l3 l5:Option Value}{me sv:String}
theorem uH{h:Heap}{g:Array GenState}{d:Drawn}{t:Nat}{os:OsState}{e:Addr}{oe:Obj}{Q:Bool->Shared->Prop}
  (hC:h.get? C=some (excClassObj nm q C N bs bm hdct sn sub ab col dd k0 k1 k2 k3 k5 me)) (hD:h.get? C'=some (excClassObj nm' q' C' N' bs' bm' xw sn' Bh ab' Dx Af l0 l1 l2 l3 l5 sv))
  (he:h.get? e=some oe) (qi:oe.cls=.ref C) (nj:bm'.contains (.type "BaseException")=true) (hno:(Value.ref C::bm).contains (.ref C')=false) (hq:Q false ⟨h,g,d,t,os⟩):wpAny M A (excMatches (.ref e) (.ref C')) Q E ⟨h,g,d,t,os⟩:=by
 have hcB:(Value.ref C'::bm').contains (.type "BaseException")=true:=by rw[List.contains_cons,nj,Bool.or_true]
 have f:=tc_notTuple;unfold excMatches
 repeat (first|(with_reducible refine wpAny_loadPart_at he ?_;rw[qi])|with_reducible refine wpAny_loadPart_at hD ?_|(with_reducible refine wpAny_isSubtype_exc hD ?_;rw[hcB])|(with_reducible refine wpAny_isSubtype_exc hC ?_;rw[hno])|wp_step)
 exact hq
end
noncomputable def cxL(P:Program)(w:World)(K:W.Frag)(mg:Str->Option Value)(base:Heap)(N:List Str)(qual:Str)(scope:Scope)(f:Addr)(cd:Value)(cl:List (Str×Addr))(A:Around)(outer:List Env)(s:Shared)(H:Hp)(E:XK):Cx where
 prog:=P
 w:=w
 K:=K
 mg:=mg
 base:=base
 A:=A.deeper (W.envX qual scope s.heap.objs.size f cd cl)
 N:=N
 s_0:=s
 H_0:=H
 env:=W.envX qual scope s.heap.objs.size f cd cl
 outer:=outer
 stack:=W.envX qual scope s.heap.objs.size f cd cl::outer
 ex:=[]
 calm:=true
 fn:=fun _=>false
 pn:=[]
 xe:=fun e s'=>wpAny (model P w) (A.deeper (W.envX qual scope s.heap.objs.size f cd cl)) (leaving (W.envX qual scope s.heap.objs.size f cd cl) e) (fun _ yo=>CXf outer H s E e yo) (fun e' yo=>CXf outer H s E e' yo) s'
section
variable {P:Program}{w:World}{K:W.Frag}{mg:Str->Option Value}{base:Heap}{N:List Str}{qual:Str}{scope:Scope}{f:Addr}{cd:Value}{cl:List (Str×Addr)}{A:Around}{outer:List Env}{s:Shared}{H:Hp}{E:XK}
theorem O4(kn:HOk P w H s.heap):Passes CXf (cxL P w K mg base N qual scope f cd cl A outer s H E) (fun c _ _=>E c none H):=by
 intro jr σ H1 s1 e s' I h;obtain⟨ae,C,rfl,⟨⟨a0,fl⟩,sl,os,bare⟩,hE⟩:=h;have Ae:Heap.FlyingW (g9 s.heap H (frs outer++[])) (cxL P w K mg base N qual scope f cd cl A outer s H E).stack ae (.ref C) a0 s'.heap:=
  W.flyingW_base (fun b o q=>by
   obtain⟨z1,z2,z3,_⟩:=stays I kn (ex:=[]) (fun _ z=>z) q;exact gJ z1 z2 (by rw[nP];exact z3)) fl
 refine wpAny_leaves_onW (L:=s.heap.objs.size) (outer:=outer) I.ok.frames rfl Ae fun h2 fl3 up=>?_
 refine⟨ae,C,rfl,⟨⟨_,fl3⟩,fun b hb o q=>?_,os.trans I.os,bare⟩,hE⟩;have wz:b∈frs (cxL P w K mg base N qual scope f cd cl A outer s H E).stack:=by
  show b∈frs (_::outer)
  unfold frs;rw[fg];exact au _ hb
 obtain⟨sl1,q1⟩:=kA I hb (by intro z;exact nomatch z) q;obtain⟨so,q2⟩:=sl b wz _ q1;obtain⟨o3,q3,nf⟩:=(fl.2.2.1.mem (b:=b) wz).2;rw[q2]at q3;cases q3;obtain⟨Ak,q4⟩:=up b _ q2 nf;exact⟨Ak,q4⟩
theorem KC{k:Nat}{name:Str}{params:Arguments}{body:Expr}{pm Bd:Value}{c':Addr}{Q:VK}{te:TE}{vs:List V}(hr:d4 (k+1) A)(e0:oU P w K mg base A outer s H)
  (ho:s.heap.get? f=some (W.kla_obj name qual params body scope cl pm c' Bd)) (om:s.heap.CodeRec (.ref c') qual) (qj:bindArgs (W.kla_fn name qual params body scope cl pm (.ref c') Bd) ⟨[],[]⟩=pure [])
  (hk:scope.kind=.function) (hco:scope.isCoroutine=false) (hgen:scope.isGenerator=false) (hnc:∀x∈scope.names,x.2≠ .cell) (hnl:∀x,scope.names.lookup x≠some .local) (hN:vs.length=N.length)
  (inj:∀x y c,cl.lookup x=some c->cl.lookup y=some c->x=y) (has:∀x,scope.names.lookup x=some .free->∃c,cl.lookup x=some c)
  (nz:∀x c,cl.lookup x=some c->H c=none/\∃v,s.heap.IsCell c v) (hv:∀(i:Nat)(x:Str)(v:V),N[i]? =some x->vs[i]? =some v->scope.names.lookup x=some .free->∃c u,cl.lookup x=some c/\RelV v u/\s.heap.IsCell c (some u))
  (Ci:d4 k (A.deeper (W.envX qual scope s.heap.objs.size f (.ref c') cl))->HOk P w H s.heap->PE (cxL P w K mg base N qual scope f (.ref c') cl A outer s H E) body te) (hq:te (vs.map some) H Q):
  codeAny (model P w) A (.call (.ref f) ⟨[],[]⟩) (CR CXf outer P w H s Q E) s:=by
 have yw:s.heap.NoLimit:=e0.mod.nolimit.keeps fun b o e=>(e0.bs b o e).1
 refine W.kla_callFunE hr.depth ho rfl hco hgen rfl om ?_;rw[qj];refine ah (wpAny_newFunctionEnv hnc (fun x hx=>nomatch hx) (fun h1 hns hsb=>?_) hk);have kp:∀b o,s.heap.get? b=some o->h1.get? b=some o:=fun b o e=>(hsb.2 b (da (bq e))).trans (aq _ e)
 refine⟨yw.keeps kp,?_⟩;show codeAny _ _ (.expr body (W.envX qual scope s.heap.objs.size f (.ref c') cl)) _ _
 have cat:∀{c:Addr}{v:Option Value},s.heap.IsCell c v->h1.IsCell c v:=fun⟨o,e,d⟩=>⟨o,kp _ _ e,d⟩
 have I:Inv (cxL P w K mg base N qual scope f (.ref c') cl A outer s H E) [] (vs.map some) H {s with heap:=h1,toks:=s.toks+([]:List (Str×Value)).length}:=by
  refine⟨⟨e0.mod,hk,rfl,rfl,ax _,inj,fun x hx=>?_,fun x c hx=>(nomatch hx),fun _=>hr.hd,Around.frames_deeper e0.frames,.inr ⟨rfl,rfl⟩,fun b z=>(nomatch z),e0.bs,e0.bsz,fun b _ _ z=>(nomatch z),fun b z=>(nomatch z),e0.kL,e0.frf⟩,
   rfl,e0.bare,Un.kept kp,⟨_,hns,fun i x v h1 h2 h3=>?_⟩,fun x c e=>?_,e0.hok.fresh (ax _),fun x c e=>(nz x c e).1,fun p hp=>(nomatch hp),e0.hok.kept kp,by rw[ai];exact hN⟩
  ·rcases hx with hx|hx
   ·exact absurd rfl (hnc _ (PySem.mem_of_lookup (show scope.names.lookup x=some .cell from hx)))
   ·exact has x hx
  ·have e2:vs[i]? =some v:=by
    rw[bc]at h2;cases e:vs[i]? with
    |none=>rw[e]at h2;cases h2
    |some z=>rw[e]at h2;cases h2;rfl
   rcases h3 with h3|h3|h3
   ·exact absurd h3 (hnl x)
   ·exact absurd rfl (hnc _ (PySem.mem_of_lookup (show scope.names.lookup x=some .cell from h3)))
   ·obtain⟨c,u,a1,a2,a3⟩:=hv i x v h1 e2 h3;exact⟨u,a2,.inr ⟨.inr h3,c,a1,cat a3⟩⟩
  ·obtain⟨v,hcv⟩:=(nz x c e).2;exact⟨v,cat hcv⟩
 refine W.kla_codeExpr (wpAny_mono (Ci (hr.deeper _) e0.hok [] _ (vs.map some) H Q I hq) (fun u s' h=>?_) fun e s' h=>h);obtain⟨v,H',J,rv,q⟩:=h;exact⟨v,H',J.os,J.bare,J.base,J.hok,rv,q⟩
end
def Flat(H:Hp):Prop:=∀b,H b=none\/∃o u,H b=some (.frz o u)
def cxE(X:Cx)(xe:Value->Shared->Prop):Cx:={X with xe:=xe}
noncomputable def cxM(X:Cx)(e:Value)(xe:Value->Shared->Prop):Cx:={X with A:=X.A.mark (some e),calm:=false,xe:=xe}
section
variable {X:Cx}{jr:List (Addr×Obj)}{σ:L2.St}{H:Hp}{s:Shared}{e:Value}{xe:Value->Shared->Prop}
theorem KG(I:Inv X jr σ H s):Inv (cxE X xe) jr σ H s:=by obtain⟨⟨o1,o2,o3,o4,o5,o6,o7,o8,o9,Bl,o11,o12,o13,o14,o15,o16,o17,o18⟩,i1,i2,i3,i4,i5,i6,i7,i8,i9,yz⟩:=I;exact⟨⟨o1,o2,o3,o4,o5,o6,o7,o8,o9,Bl,o11,o12,o13,o14,o15,o16,o17,o18⟩,i1,i2,i3,i4,i5,i6,i7,i8,i9,yz⟩
theorem BS(I:Inv (cxE X xe) jr σ H s):Inv X jr σ H s:=by obtain⟨⟨o1,o2,o3,o4,o5,o6,o7,o8,o9,Bl,o11,o12,o13,o14,o15,o16,o17,o18⟩,i1,i2,i3,i4,i5,i6,i7,i8,i9,yz⟩:=I;exact⟨⟨o1,o2,o3,o4,o5,o6,o7,o8,o9,Bl,o11,o12,o13,o14,o15,o16,o17,o18⟩,i1,i2,i3,i4,i5,i6,i7,i8,i9,yz⟩
theorem DF(I:Inv X jr σ H s):Inv (cxM X e xe) jr σ H s:=by obtain⟨⟨o1,o2,o3,o4,o5,o6,o7,o8,o9,Bl,o11,o12,o13,o14,o15,o16,o17,o18⟩,i1,i2,i3,i4,i5,i6,i7,i8,i9,yz⟩:=I;exact⟨⟨o1,o2,o3,o4,o5,o6,o7,o8,fun z=>(nomatch z),Bl,o11,o12,o13,o14,o15,o16,o17,o18⟩,i1,i2,i3,i4,i5,i6,i7,i8,i9,yz⟩
theorem BR(ok:X.Ok)(I:Inv (cxM X e xe) jr σ H s):Inv X jr σ H s:=by obtain⟨_,i1,i2,i3,i4,i5,i6,i7,i8,i9,yz⟩:=I;exact⟨ok,i1,i2,i3,i4,i5,i6,i7,i8,i9,yz⟩
theorem zC(I:Inv X jr σ H s)(fl:Flat H){C ae:Addr}{a0:Value}{s2:Shared}(hf:Heap.FlyingW (g9 s.heap H (frs X.stack++[])) X.stack ae (.ref C) a0 s2.heap)
  (sl:∀b∈frs X.stack,∀o,s.heap.get? b=some o->∃sl,s2.heap.get? b=some {o with slots:=sl}) (os:s2.os=s.os) (bare:AllBare s2.gens):Inv X jr σ H s2:=by
 have st:∀b o,s.heap.get? b=some o->b∉frs X.stack->s2.heap.get? b=some o:=fun b o e hb=>hf.1 b o (gJ e (by rcases fl b with q|⟨o,u,q⟩<;>rw[q]<;>rfl) (by rw[nP];exact hb))
 have un:Un (frs X.stack) [] H H s.heap s2.heap:=
  ⟨fun b o e _ hb _=>st b o e hb,fun b o e _ hb _=>sl b hb o e,fun _ _ _ n _=>n,fun b o e _=>by
   by_cases hb:b∈frs X.stack
   ·obtain⟨sl,q⟩:=sl b hb o e;exact⟨_,q⟩
   ·exact⟨_,st b o e hb⟩,fun _ _ q=>q,fun _ _ _ q=>q,fun _ ps q=>⟨#[],by rw[q];simp⟩⟩
 refine I.DV os un (fun a o e=>?_) bare (fun b z=>(nomatch z));have na:a∉frs X.stack:=fun z=>by have:=I.wN a z;rw[this]at e;cases e
 refine(I.hok a o e).n9 (fun b u hb q=>?_) (fun b z=>z) (fun b xs z=>z);rcases hb with rfl|hb
 ·exact st b u q na
 ·rcases fl b with z|⟨_,_,z⟩<;>rw[z]at hb<;>cases hb
theorem sI{h:Heap}{l:List Env}{base h1 h2:Heap}(fr:h1.FunFrames base l)(sl:∀b∈frs l,∀o,h.get? b=some o->∃sl,h1.get? b=some {o with slots:=sl})(up:h1.UpToSlots h2):
  ∀b∈frs l,∀o,h.get? b=some o->∃sl,h2.get? b=some {o with slots:=sl}:=fun b hb o q=>by
 obtain⟨so,q2⟩:=sl b hb o q;obtain⟨o3,q3,nf⟩:=(fr.mem (b:=b) hb).2;rw[q2]at q3;cases q3;obtain⟨Ak,q4⟩:=up b _ q2 nf;exact⟨Ak,q4⟩
end
structure HD where
 x:Str
 C:Addr
 k:Int
 np:Pos
 p1:Pos
 p2:Pos
 p3:Pos
 p4:Pos
 pos:Pos
noncomputable def HD.st(d:HD):Stmt:=.Return (some (.List [.UnaryOp .USub (.Constant (.int d.k) 0 d.p1) d.p2] d.p3)) d.p4
def HD.h(d:HD):ExceptHandler:=.ExceptHandler (some (.Name d.x d.np)) none [d.st] d.pos
noncomputable def gU(base:Heap)(C:Addr):Prop:=∃(nm q:Str)(N:Addr)(bs bm:List Value)(hdct:Bool)(sn:List Str)(sub:List Value)(ab:Bool)(col:Option Bool)(dd:Option Addr)(k0 k1 k2 k3 k5:Option Value)(me:String),
 base.get? C=some (excClassObj nm q C N bs bm hdct sn sub ab col dd k0 k1 k2 k3 k5 me)/\bm.contains (.type "BaseException")=true/\∀D,bm.contains (.ref D)=false
structure X8(X:Cx)(d:HD):Prop where
 bound:X.mg d.x=some (.ref d.C)
 gl:Gl X d.x
 cl:gU X.base d.C
 nd:(d.x==("__debug__" : Str))=false
section
variable {X:Cx}{jr:List (Addr×Obj)}{σ:L2.St}{H:Hp}{s:Shared}{e C:Addr}{Q:Flow->Shared->Prop}{E:Value->Shared->Prop}
theorem qX(I:Inv X jr σ H s)(hx:gU X.base C)(he:∃oe,s.heap.get? e=some oe/\oe.cls=.ref C):
  ∀(l:List HD),(∀d∈l,X8 X d)->(∃d∈l,d.C=C) ->
   (∀d∈l,d.C=C->∀E',wpAny (model X.prog X.w) (X.A.mark (some (.ref e))) (setFlight (.ref e) none) (fun _ s1=>wpAny (model X.prog X.w) (X.A.mark (some (.ref e))) (execs [d.st] X.env) Q E' s1) E' s) ->
   wpAny (model X.prog X.w) X.A (handleBy (.ref e) X.env (l.map HD.h)) Q E s
 |[],_,vj,_=>by obtain⟨d,hd,_⟩:=vj;exact(nomatch hd)
 |d::r,hok,vj,km=>by
  have ih:=qX I hx he r (fun d hd=>hok d (au _ hd));obtain⟨oe,wq,qi⟩:=he;have D:=hok d bh;obtain⟨nm,q,N,bs,bm,hdct,sn,sub,ab,col,dd,k0,k1,k2,k3,k5,me,hC,hb,hn⟩:=hx;obtain⟨nm',q',N',bs',bm',xw,sn',Bh,ab',Dx,Af,l0,l1,l2,l3,l5,sv,hC',uk,rg⟩:=D.cl;refine wpAny_handleBy_cons (codeAny_handlers_test (jB (DF (e:=.ref e) (xe:=fun _ _=>False) I) D.gl D.bound ?_ D.nd)) (by intro q;cases q);by_cases hdc:d.C=C
  ·have hC2:=I.bk _ _ hC';have xy:oe.cls=.ref d.C:=by rw[qi,hdc]
   exact wpAny_excMatches_sub_self (h:=s.heap) (g:=s.gens) hC2 wq xy uk (codeAny_handlers_suite (km d bh hdc _))
  ·refine uH (h:=s.heap) (g:=s.gens) (I.bk _ _ hC) (I.bk _ _ hC') wq qi uk ?_ ?_
   ·rw[List.contains_cons,hn];simp[hdc]
   ·refine ih ?_ fun d hd=>km d (au _ hd)
    obtain⟨d2,h2,h3⟩:=vj;rcases ak.mp h2 with rfl|h2
    ·exact absurd h3 hdc
    ·exact⟨d2,h2,h3⟩
end
section
variable {P:Program}{w:World}{K:W.Frag}{mg:Str->Option Value}{base:Heap}
theorem L9{k:Nat}{f fl:Addr}{name qual:Str}{params:Arguments}{body:List Stmt}{scope:Scope}{dV kV md pm jx ct oc:Value}{an od:Option Addr}{mw:Array (Option Value)}{A:Around}{outer:List Env}{s:Shared}{H:Hp}{Q:VK}{E:XK}{l:List HD}{d0:HD}{r0:List HD}{p1 p2 p3 p4:Pos}
  (lk:K.lookup f=some ⟨oc,od,.func (W.fnOf name qual params body scope dV kV md pm an jx ct),mw⟩) (om:W.codeIn K jx qual=true) (S:aM ["tell"] ["tell"] scope) (zr:scope.names.lookup ("tell" : Str)=some NameKind.local)
  (lz:body=[.Try [.Return (some (.Call (.Name "tell" p1) [] [] p2)) p3] (l.map HD.h) [] [] p4]) (hl:l=d0::r0)
  (hr:d4 (k+1) A) (e0:oU P w K mg base A outer s H) (hb:BindsTo s (W.fnOf name qual params body scope dV kV md pm an jx ct) ⟨[.ref fl],[]⟩ ([("tell" : Str)].zip [.ref fl])) (flat:Flat H)
  (hd:∀d∈l,mg d.x=some (.ref d.C)/\scope.names.lookup d.x=some .globalImplicit/\gU base d.C/\(d.x==("__debug__" : Str))=false)
  (zx:W.FnAt fl s.heap) (hH:H fl=none) (hno:fl∉frs outer)
  (Di:∀(A1:Around)(qv:List Env)(s1:Shared),d4 k A1->oU P w K mg base A1 qv s1 H->(∀b o,s.heap.get? b=some o->H b=none->b∉frs outer->s1.heap.get? b=some o) ->
   codeAny (model P w) A1 (.call (.ref fl) ⟨[],[]⟩) (CR CXf qv P w H s1 Q (fun c _ _=>∃C,c=.ref C/\(∃d∈l,d.C=C)/\∀d∈l,d.C=C->∀p,H p=none->Q (.ref p) (upd H p (.lst [.int (-d.k)])))) s1):
  codeAny (model P w) A (.call (.ref f) ⟨[.ref fl],[]⟩) (CR CXf outer P w H s Q E) s:=by
 have KX:K.In s.heap:=e0.mod.kin.keeps fun b o e=>(e0.bs b o e).1
 have yw:s.heap.NoLimit:=e0.mod.nolimit.keeps fun b o e=>(e0.bs b o e).1
 have qg:∀y∈[("tell" : Str)].zip [Value.ref fl],scope.names.lookup y.1=some .local\/(scope.names.lookup y.1=some .cell/\((cellsFrom (s.heap.objs.size+1) scope.names []).lookup y.1).isSome=true):=fun⟨n,v⟩ hy=>by
  rcases S.par n (of_mem_zip hy).1 with q|q
  ·exact .inl q
  ·exact .inr ⟨q,W.cellsFrom_some _ _ _ (.inl q)⟩
 refine codeAny_call_function hr.depth (KX _ _ lk) rfl S.co S.gen rfl (W.codeRec_of KX om) (hb _ _ _ _ ?_);refine wpAny_newFunctionEnv_cells S.kind qg fun env he s1 x=>?_
 subst he;refine⟨yw.keeps x.toInCall.keep,codeAny_func ?_⟩;have I:Inv (cxF P w K mg base ["tell"] qual scope f jx A outer s H E) [] (start ["tell"] [.ref fl]) H s1:=pS S hr.hd e0 rfl (.cons rfl .nil) x;have zg:=hr.deeper (envOfC qual scope s.heap.objs.size f jx);let X:=cxF P w K mg base ["tell"] qual scope f jx A outer s H E
 have main:wpAny (model P w) X.A (execs body X.env) (SP X [] {nx:=fun _ _=>False,rt:=Q}) X.xe s1:=by
  rw[lz,hl];have after:∀(f:Flow)(s1:Shared),SP X [] {nx:=fun _ _=>False,rt:=Q} f s1->(match f with| .next=>wpAny (model P w) X.A (execs [] X.env) (SP X [] {nx:=fun _ _=>False,rt:=Q}) X.xe s1|f=>SP X [] {nx:=fun _ _=>False,rt:=Q} f s1):=fun f s1 q=>by
   cases f with
   |next=>exact wpAny_execs_nil q
   |ret v=>exact q
   |brk=>exact q
   |cont=>exact q
  refine wpAny_execs_cons (wpAny_mono (wpAny_Try_except (Q:=SP X [] {nx:=fun _ _=>False,rt:=Q}) ?_) after fun _ _ q=>q);have hv:∀E',wpAny (model P w) X.A (eval (.Name "tell" p1) X.env) (EP (cxE X E') [] (start ["tell"] [.ref fl]) (fun v H'=>v=V.ref fl/\H'=H)) E' s1:=fun E'=>
   GZ (X:=cxE X E') (i:=0) rfl (.inl zr) (by decide) (by decide) [] s1 _ H (fun v H'=>v=V.ref fl/\H'=H) (KG I) ⟨.ref fl,rfl,rfl,rfl⟩
  refine wpAny_execs_cons (wpAny_Return_some (wpAny_Call_Name_kw (thn (hv _) fun u s2 hu=>?_)));obtain⟨v,H',J,rv,rfl,rfl⟩:=hu;obtain rfl:u=.ref fl:=rv;have J:=BS J;have kp:∀b o,s.heap.get? b=some o->H' b=none->b∉frs outer->s2.heap.get? b=some o:=fun b o e1 e2 e3=>J.base.keep b o e1 e2 e3 (by intro z;exact(nomatch z))
  have fn2:W.FnAt fl s2.heap:=by obtain⟨a1,a2,a3,a4,a5⟩:=zx;exact⟨a1,a2,a3,a4,kp _ _ a5 hH hno⟩
  refine W.callWith_F0 fn2 (wpAny_call (codeAny_mono (Di _ _ s2 zg J.J1 kp) fun r s' hq=>?_));cases r with
  |ok f1=>
   cases f1 with
   |ret u=>obtain⟨v,H3,J3,rv3,q3⟩:=J.after hq;exact⟨v,_,H3,J3,rv3,q3⟩
   |next=>exact False.elim hq
   |brk=>exact False.elim hq
   |cont=>exact False.elim hq
  |error e=>
   obtain⟨ae,C,rfl,⟨⟨a0,fly⟩,sl,os,bare⟩,C2,xy,vj,hE⟩:=hq;cases xy;refine wpAny_looks_onW J.ok.frames rfl fly fun h4 wt up4=>?_
   refine wpAny_landsW wt fun h5 xf up5=>?_
   have sl4:=sI fly.2.2.1 sl up4;have sl5:=sI wt.2.2.1 sl4 up5;have J5:Inv (cxF P w K mg base ["tell"] qual scope f jx A outer s H' E) [] _ H' {s' with heap:=h5}:=zC J flat xf sl5 os bare;have hx:gU base C:=by obtain⟨d,h1,rfl⟩:=vj;exact(hd d h1).2.2.1
   have Dd:∃oe,h5.get? ae=some oe/\oe.cls=.ref C:=by obtain⟨oe,ws,a1,a2,_⟩:=xf.first;exact⟨oe,a1,a2⟩
   rw[<- bp (f:=HD.h),<- hl];refine qX (X:=cxF P w K mg base ["tell"] qual scope f jx A outer s H' E) J5 hx Dd l (fun d h1=>⟨(hd d h1).1,(hd d h1).2.1,(hd d h1).2.2.1,(hd d h1).2.2.2⟩) vj fun d h1 h2 E'=>?_
   refine lands_againW xf fun h6 fly6 up6=>?_
   have sl6:=sI xf.2.2.1 sl5 up6;have J6:Inv (cxF P w K mg base ["tell"] qual scope f jx A outer s H' E) [] _ H' {s' with heap:=h6}:=zC J flat fly6 sl6 os bare;have hrun:=aE (X:=cxM (cxF P w K mg base ["tell"] qual scope f jx A outer s H' E) (.ref ae) fun _ _=>False) (aT (pos:=d.p4) (fB (pos:=d.p3) (a7 (LJ (pos:=d.p2) GC (aL (i:=d.k) (j:=0) (pos:=d.p1))) aD)))
    [] _ _ H' {nx:=fun _ _=>False,rt:=Q} (DF J6) ⟨d.k,rfl,(by show 1<=sizeLine;decide),fun p hp=>hE d h1 h2 p hp⟩
   refine wpAny_mono hrun (fun f s3 q=>?_) fun _ _ q=>q.elim
   cases f with
   |next=>obtain⟨_,_,_,q⟩:=q;exact q.elim
   |brk=>obtain⟨_,_,_,q⟩:=q;exact q.elim
   |cont=>obtain⟨_,_,_,q⟩:=q;exact q.elim
   |ret u=>obtain⟨v,σ',H3,J3,rv3,q3⟩:=q;exact⟨v,σ',H3,BR J6.ok J3,rv3,q3⟩
 refine wpAny_mono main (fun fl s' hs=>?_) fun e s' hs=>hs
 cases fl with
 |ret u=>obtain⟨v,σ',H',J,rv,q⟩:=hs;exact⟨v,H',J.os,J.bare,J.base,J.hok,rv,q⟩
 |next=>obtain⟨_,_,_,q⟩:=hs;exact False.elim q
 |brk=>obtain⟨_,_,_,q⟩:=hs;exact False.elim q
 |cont=>obtain⟨_,_,_,q⟩:=hs;exact False.elim q
end
noncomputable def NK(mg:Str->Option Value)(h:Heap):Prop:=∃bm ob,mg "__builtins__" =some (.ref bm)/\bm≠builtinsNs/\bm≠mainGlobals/\h.get? bm=some ob/\ob.cls=.type "module" /\ob.dict=some builtinsNs/\ob.data=.plain
noncomputable def XA(l:List HD)(H:Hp)(Q:VK):XK:=fun c _ _=>∃C,c=.ref C/\(∃d∈l,d.C=C)/\∀d∈l,d.C=C->∀p,H p=none->Q (.ref p) (upd H p (.lst [.int (-d.k)]))
def hT(H:Hp)(T:Addr)(ps:Array Value):Hp:=upd H T (.frz (W.tabObj ps) (.tbl ps))
noncomputable def SX(T:Addr)(l:List HD)(pos:Pos)(teL:XK->Hp->TE):TE:=fun σ H Q=>∃(vs:List V)(ps:Array Value),σ=vs.map some/\H T=some (.tbl ps)/\TriplesOk ps.toList/\codeAmong pos ps.toList=none/\
 (∀b,b≠T->H b=none\/∃o u,H b=some (.frz o u))/\∀more,teL (XA l (hT H T (ps++more)) (fun v H3=>H3 T=some (.frz (W.tabObj (ps++more)) (.tbl (ps++more)))->Q v (upd H3 T (.tbl (ps++more))))) (hT H T (ps++more)) (vs.map some) (hT H T (ps++more))
  (fun v H3=>H3 T=some (.frz (W.tabObj (ps++more)) (.tbl (ps++more)))->Q v (upd H3 T (.tbl (ps++more))))
section
variable {X:Cx}
theorem NF{cells:List (Str×Addr)}{names:List (Str×NameKind)}(hf:∀y∈names,y.2=.free->∃c,cells.lookup y.1=some c){x:Str}{c:Addr}(h:(bJ cells names []).lookup x=some c):(x,NameKind.free)∈names/\cells.lookup x=some c:=by
 rcases fU (PySem.mem_of_lookup h)with h|⟨h1,h2⟩
 ·exact(nomatch h)
 ·obtain⟨c2,h3⟩:=hf _ h1 rfl;have h3:cells.lookup x=some c2:=h3;rw[h3]at h2;exact⟨h1,by rw[h3,h2];rfl⟩
theorem DU{cells:List (Str×Addr)}{names:List (Str×NameKind)}{x:Str}(h:names.lookup x=some .free):∃c,(bJ cells names []).lookup x=some c:=mem_lookup (hZ (PySem.mem_of_lookup h))
theorem MD{k:Nat}{x:Str}{f:Addr}{name qual:Str}{params:Arguments}{body:List Stmt}{scope:Scope}{dV kV md pm jx ct oc:Value}{an od:Option Addr}{mw:Array (Option Value)}{l:List HD}{d0:HD}{r0:List HD}{p1 p2 p3 p4 p Bj pos:Pos}
  {kg:Arguments}{mj:Expr}{ju:Scope}{c T:Addr}{teL:XK->Hp->TE}
  (hm:X.mg x=some (.ref f)) (lk:X.K.lookup f=some ⟨oc,od,.func (W.fnOf name qual params body scope dV kV md pm an jx ct),mw⟩) (om:W.codeIn X.K jx qual=true) (hkp:W.keepIn X.K (.ref f)=true)
  (hb:Binds X.K (W.fnOf name qual params body scope dV kV md pm an jx ct) ["tell"] []) (S:aM ["tell"] ["tell"] scope) (zr:scope.names.lookup ("tell" : Str)=some NameKind.local)
  (lz:body=[.Try [.Return (some (.Call (.Name "tell" p1) [] [] p2)) p3] (l.map HD.h) [] [] p4]) (hl:l=d0::r0)
  (hd:∀d∈l,X.mg d.x=some (.ref d.C)/\scope.names.lookup d.x=some .globalImplicit/\gU X.base d.C/\(d.x==("__debug__" : Str))=false)
  (hg:Gl X x) (uj:(x==("__debug__" : Str))=false) (hr:d4 (k+2) X.A) (Cy:∀y,X.fn y=true)
  (Dg:X.env.code=.ref c) (hC:W.CodeHd X.base c T) (hbm:NK X.mg X.base)
  (hdef:defaultsOf kg X.env=([],[])) (qj:∀(cl:List (Str×Addr))(pm cd ct:Value),bindArgs (W.kla_fn "<lambda>" (X.env.qual++ "<lambda>") kg mj ju cl pm cd ct) ⟨[],[]⟩=pure [])
  (hkL:ju.kind=.function) (hcoL:ju.isCoroutine=false) (Cw:ju.isGenerator=false) (hncL:∀y∈ju.names,y.2≠ .cell) (hnlL:∀y,ju.names.lookup y≠some .local)
  (wm:∀y∈ju.names,y.2=.free->X.env.kindOf y.1=some .cell)
  (Ci:∀(fl c':Addr)(cl:List (Str×Addr))(A:Around)(outer:List Env)(s:Shared)(H:Hp)(E:XK),d4 k (A.deeper (W.envX (X.env.qual++ "<lambda>") ju s.heap.objs.size fl (.ref c') cl))->HOk X.prog X.w H s.heap ->
   PE (cxL X.prog X.w X.K X.mg X.base X.N (X.env.qual++ "<lambda>") ju fl (.ref c') cl A outer s H E) mj (teL E H))
  (wd:starEach [.Lambda kg mj ju pos] X.env=(false,eval (.Lambda kg mj ju pos) X.env)::starEach [] X.env:=by rfl):
  PE X (.Call (.Name x p) [.Lambda kg mj ju pos] [] Bj) (SX T l pos teL):=by
 intro jr s σ H Q I h;obtain⟨vs,ps,rfl,xa,htri,hnf,Cz,hL⟩:=h;have lu:∀y∈ju.names,y.2=.free->∃c,X.env.cells.lookup y.1=some c:=fun y hy e=>I.ok.has _ (.inl (wm y hy e))
 have yi:X.base.get? T=none:=by
  cases q:X.base.get? T with
  |none=>rfl
  |some o=>have:=(I.bs T o q).2;rw[xa]at this;cases this
 have hPt:s.heap.get? T=some (W.tabObj ps):=I.hok T _ xa;have hgs:=I.ok.mod.glob;have hgP:mainGlobals≠T:=fun q=>by obtain⟨o,es,ep,e,_⟩:=hgs;rw[q,yi]at e;cases e
 have hbmT:s.heap.BuiltinsAt X.mg T:=by obtain⟨bm,ob,b1,b2,b3,b4,b5,b6,b7⟩:=hbm;exact⟨bm,ob,b1,b2,b3,(fun q=>by rw[q,yi]at b4;cases b4),I.bk _ _ b4,b5,b6,b7⟩
 refine wpAny_Call_Name_kw (jB I hg hm ?_ uj);refine W.callWith_K (h₀:=X.base) I.ok.mod.kin hkp ?_ wd rfl;rw[wd];show wpAny _ _ (spliced ((false,eval (.Lambda kg mj ju pos) X.env)::backTo Bj (starEach [] X.env))) _ _ s
 refine Calls.spliced_cons (W.kla_eval hdef (W.kla_makeFunction (mS lu) I.ok.glob (hgs.keeps I.bk) Dg (hC.keeps I.bk) hPt htri hnf hgP hbmT fun c' Bd h' tk hx zw jz zf nh=>Calls.spliced_nil ?_));generalize nz:bJ X.env.cells ju.names []=cl;generalize hps:ps++#[rawInt pos.line,rawInt pos.col,Value.ref c']=ps' at nh;generalize ug:({s with heap:=h'.push (W.kla_obj "<lambda>" (X.env.qual++ "<lambda>") kg mj ju cl ((X.mg "__name__").getD .none) c' Bd),toks:=tk}:Shared)=s2;have e2:s2.heap=h'.push (W.kla_obj "<lambda>" (X.env.qual++ "<lambda>") kg mj ju cl ((X.mg "__name__").getD .none) c' Bd):=by rw[<- ug]
 have kp:∀b o,b≠T->s.heap.get? b=some o->s2.heap.get? b=some o:=fun b o n e=>by rw[e2];exact aq _ (hx b o n e)
 have vp:s2.heap.get? T=some (W.tabObj ps'):=by rw[e2];exact aq _ nh
 have szT:T<s.heap.objs.size:=bq hPt;have nT:∀b u,H b=some u->(∀q,u≠ .tbl q)->b≠T:=fun b u e n z=>by rw[z,xa]at e;cases e;exact n _ rfl
 have un1:Un X.fs [] H (upd H T (.tbl ps')) s.heap s2.heap:=
  ⟨fun b o e n _ _=>kp b o (fun z=>by rw[z,xa]at n;cases n) e,fun b o e n _ _=>⟨o.slots,kp b o (fun z=>by rw[z,xa]at n;cases n) e⟩,
   fun b o e n _=>by rw[aC (fun z=>by rw[z,xa]at n;cases n)];exact n,
   fun b o e _=>by
    by_cases z:b=T
    ·exact⟨_,z▸vp⟩
    ·exact⟨_,kp b o z e⟩,
   fun b xs e=>by rw[aC (nT b _ e fun q z=>nomatch z)];exact e,fun b o u e=>by rw[aC (nT b _ e fun q z=>nomatch z)];exact e,
   fun b q e=>by
    by_cases z:b=T
    ·rw[z,xa]at e;cases e;exact⟨_,by rw[z,a8,<- hps]⟩
    ·exact⟨#[],by rw[aC z,e];simp⟩⟩
 have xp:∀(H':Hp),(∀b,b≠T->H' b=H b)->∀a o,a≠T->H' a=some o->d9 X.prog X.w H' s2.heap a o:=fun H' he a o na e=>by
  rw[he a na]at e;refine(I.hok a o e).n9 (fun b u hb q=>?_) (fun b z=>?_) (fun b xs z=>?_)
  ·refine kp b u ?_ q;rcases hb with rfl|hb
   ·exact na
   ·exact nT b _ hb fun q z=>nomatch z
  ·rw[he b (nT b _ z fun q z=>nomatch z)];exact z
  ·rw[he b (nT b _ z fun q z=>nomatch z)];exact z
 have hok1:HOk X.prog X.w (upd H T (.tbl ps')) s2.heap:=fun a o e=>by
  by_cases z:a=T
  ·rw[z,a8]at e;cases e;subst z;exact vp
  ·exact xp _ (fun b n=>aC n) a o z e
 have I2:Inv X jr (vs.map some) (upd H T (.tbl ps')) s2:=by have:=I.un (t':=tk) (h':=s2.heap) un1 hok1;rw[<- ug]at this ⊢;exact this
 have hok2:HOk X.prog X.w (hT H T ps') s2.heap:=fun a o e=>by
  by_cases z:a=T
  ·unfold hT at e;rw[z,a8]at e;cases e;subst z;exact⟨vp,vp⟩
  ·exact xp _ (fun b n=>aC n) a o z e
 have hT_ne:∀b,b≠T->hT H T ps' b=upd H T (.tbl ps') b:=fun b n=>by unfold hT;rw[aC n,aC n]
 have none_ne:∀b,upd H T (.tbl ps') b=none->b≠T:=fun b e z=>by rw[z,a8]at e;cases e
 have E0:oU X.prog X.w X.K X.mg X.base X.A X.stack s2 (hT H T ps'):=by have e:=I2.J1;exact⟨e.frames,e.mod,fun b o q=>⟨(e.bs b o q).1,by rw[hT_ne b (none_ne b (e.bs b o q).2)];exact(e.bs b o q).2⟩,e.bsz,e.kL,fun b hb=>by rw[hT_ne b (none_ne b (e.frf b hb))];exact e.frf b hb,hok2,e.bare⟩
 refine⟨I2.kIn,?_⟩;have Dt:Flat (hT H T ps'):=fun b=>by
  by_cases z:b=T
  ·exact .inr ⟨_,_,by unfold hT;rw[z,a8]⟩
  ·rw[hT_ne b z,aC z];exact Cz b z
 have ow:∀b,s.heap.objs.size<=b->hT H T ps' b=none:=fun b hb=>by
  have n:b≠T:=fun z=>absurd szT (by rw[<- z];exact not_lt.mpr hb)
  rw[hT_ne b n,aC n];exact I.hok.fresh hb
 have su:∀b,s.heap.objs.size<=b->b∉frs X.stack:=fun b hb z=>by obtain⟨_,o,ho,_⟩:=I.stack.mem z;exact absurd (bq ho) (not_lt.mpr hb)
 have wo:s.heap.objs.size<=h'.objs.size:=le_of_lt (gh zw jz);have flo:s2.heap.get? h'.objs.size=some (W.kla_obj "<lambda>" (X.env.qual++ "<lambda>") kg mj ju cl ((X.mg "__name__").getD .none) c' Bd):=by rw[e2];exact bb _ rfl
 have Ah:∀y c,X.env.cells.lookup y=some c->c∉frs X.stack:=fun y c hy z=>by
  rcases ak.mp (I2.sF c z)with q|q
  ·exact I2.cne y c hy q
  ·obtain⟨_,o,ho,_⟩:=I2.ok.kL.mem q;exact absurd (bq ho) (not_lt.mpr (I2.ok.cab y c (Cy y) hy))
 have ql:∀y c,X.env.cells.lookup y=some c->hT H T ps' c=none:=fun y c hy=>by have q:=I2.hV y c hy;rw[hT_ne c (none_ne c q)];exact q
 have run:=L9 (fl:=h'.objs.size) (E:=fun _ _ _=>False) (k:=k+1) lk om S zr lz hl hr E0 (hb s2 [.ref h'.objs.size] I2.kIn rfl) Dt hd ⟨_,_,_,_,flo⟩ (ow _ wo) (su _ wo)
  (Q:=fun v H3=>H3 T=some (.frz (W.tabObj ps') (.tbl ps'))->Q v (upd H3 T (.tbl ps'))) fun A1 qv s1 zh e1 kp1=>?_
 ·refine wpAny_call (codeAny_mono run fun r s3 hq=>?_);cases r with
  |error e=>obtain⟨_,_,_,_,z⟩:=hq;exact z.elim
  |ok fl=>
   cases fl with
   |next=>exact False.elim hq
   |brk=>exact False.elim hq
   |cont=>exact False.elim hq
   |ret u=>
    obtain⟨v,H3,os,bare,un,Ck,rv,q⟩:=hq;have h3T:H3 T=some (.frz (W.tabObj ps') (.tbl ps')):=un.nZ T _ _ (by unfold hT;rw[a8]);have n3:∀b u,H3 b=some u->(∀o q,u≠ .frz o q)->b≠T:=fun b u e n z=>by rw[z,h3T]at e;cases e;exact n _ _ rfl
    have fr2:∀b,upd H T (.tbl ps') b=none->hT H T ps' b=none:=fun b e=>by rw[hT_ne b (none_ne b e)];exact e
    have un4:Un (frs X.stack) [] (upd H T (.tbl ps')) (upd H3 T (.tbl ps')) s2.heap s3.heap:=
     ⟨fun b o e n hb hx=>un.keep b o e (fr2 b n) hb hx,fun b o e n hb hx=>un.slot b o e (fr2 b n) hb hx,fun b o e n hx=>by rw[aC (none_ne b n)];exact un.free b o e (fr2 b n) hx,un.there,
      fun b xs e=>by
       have n:b≠T:=fun z=>by rw[z,a8]at e;cases e
       rw[aC n];exact un.uD b xs (by rw[hT_ne b n];exact e),
      fun b o u e=>by
       have n:b≠T:=fun z=>by rw[z,a8]at e;cases e
       rw[aC n];exact un.nZ b o u (by rw[hT_ne b n];exact e),
      fun b q e=>by
       by_cases z:b=T
       ·rw[z,a8]at e;cases e;exact⟨#[],by rw[z,a8];simp⟩
       ·rw[aC z];exact un.sD b q (by rw[hT_ne b z];exact e)⟩
    have hok4:HOk X.prog X.w (upd H3 T (.tbl ps')) s3.heap:=fun a o e=>by
     by_cases z:a=T
     ·rw[z,a8]at e;cases e;subst z;exact(Ck a _ h3T).1
     ·rw[aC z]at e;refine(Ck a o e).n9 (fun b u _ q=>q) (fun b z=>?_) (fun b xs z=>?_)
      ·rw[aC (n3 b _ z fun _ _ z=>nomatch z)];exact z
      ·rw[aC (n3 b _ z fun _ _ z=>nomatch z)];exact z
    exact⟨v,upd H3 T (.tbl ps'),I2.DV os un4 hok4 bare (fun b z=>(nomatch z)),rv,q h3T⟩
 ·have c1:∀y c,cl.lookup y=some c->X.env.cells.lookup y=some c:=fun y c e=>by rw[<- nz]at e;exact(NF lu e).2
  have cat:∀y c v,X.env.cells.lookup y=some c->s2.heap.IsCell c v->s1.heap.IsCell c v:=fun y c v hy ⟨o,e,q⟩=>⟨o,kp1 _ _ e (ql y c hy) (Ah y c hy),q⟩
  have kc:vs.length=X.N.length:=by have:=I.len;rw[ai]at this;exact this
  refine KC (k:=k) (te:=teL (XA l (hT H T ps') fun v H3=>H3 T=some (.frz (W.tabObj ps') (.tbl ps'))->Q v (upd H3 T (.tbl ps'))) (hT H T ps')) (vs:=vs) (N:=X.N) zh e1 (kp1 _ _ flo (ow _ wo) (su _ wo)) ?_ (qj _ _ _ _) hkL hcoL Cw hncL hnlL kc ?_ ?_ ?_ ?_ (fun a b=>Ci _ _ _ _ _ _ _ _ a b) (by rw[<- hps];exact hL _)
  ·obtain⟨c3,oc3,vs3,t3,h1,h2,h3,h4⟩:=zf;cases h1;exact⟨c',oc3,vs3,t3,rfl,kp1 _ _ (by rw[e2];exact aq _ h2) (ow _ zw) (su _ zw),h3,h4⟩
  ·intro y z c h1 h2;exact I.ok.inj y z c (c1 y c h1) (c1 z c h2)
  ·intro y hy;rw[<- nz];exact DU hy
  ·intro y c h1;have h2:=c1 y c h1;obtain⟨v,h3⟩:=I2.cell y c h2;exact⟨ql y c h2,v,cat y c v h2 h3⟩
  ·intro i y v h1 h2 h3;have hk:=wm _ (PySem.mem_of_lookup h3) rfl;obtain⟨m,_,hlk⟩:=I2.loc;obtain⟨u,ru,lku⟩:=hlk i y v h1 (by rw[bc,h2];rfl) (.inr (.inl hk));obtain⟨c,hc⟩:=DU (cells:=X.env.cells) h3;rw[nz]at hc;refine⟨c,u,hc,ru,?_⟩;rcases lku with⟨vc,_⟩|⟨_,c2,xy,oq⟩
   ·rw[show X.env.kindOf y=some .cell from hk]at vc;cases vc
   ·have:=c1 y c hc;rw[this]at xy;cases xy;exact cat y c _ this oq
end
theorem uS{P:Params}{h:Heap}:∀{vs:List Value}{ns:List Int},W.WellAll P h vs (ns.map W.WData.int)->IntsAre vs ns
 |vs,[],h=>by cases h;exact .nil
 |vs,n::ns,h=>by
  cases h with
  |cons h r=>cases h with
   |int i t=>exact .cons n t (uS r)
theorem vQ:∀{vs:List Value}{ns ms:List Int},IntsAre vs ns->IntsAre vs ms->ns=ms
 |_,_,_,.nil,h=>by cases h;rfl
 |_,_,_,.cons n t h,g=>by
  cases g with
  |cons m u g=>rw[vQ h g]
theorem sQ{R:W.WRecords}{cl:Str->Option Addr}{h:Heap}:∀{ns:List Int}{its:List Value},Vals (ns.map V.int) its->W.ReadsAllW R cl h its (ns.map W.WData.int) []
 |[],_,.nil=>.nil
 |n::ns,_,.cons ⟨t,e⟩ r=>by subst e;exact .cons (as:=[]) (.int n t) (sQ r)
noncomputable def oX(tb:Addr)(H:Hp):Prop:=H tb=some (.tbl #[])/\∀b,b≠tb->H b=none\/∃o xs,H b=some (.frz o (.lst xs))
theorem oX.flat{tb:Addr}{H:Hp}(h:∀b,b≠tb->H b=none\/∃o xs,H b=some (.frz o (.lst xs)))(b:Addr)(n:b≠tb):H b=none\/∃o u,H b=some (.frz o u):=(h b n).imp (fun q=>q) fun⟨o,xs,q⟩=>⟨o,_,q⟩
abbrev IA(vs:List Value):Obj:={cls:=.type "list",data:=.seq vs.toArray}
noncomputable def xO(K:W.Frag)(tb:Addr)(LA:List (Addr×List Value×List Int)):Hp:=fun b=>if b=tb then some (.tbl #[])else
 match K.lookup b with
 |some _=>none
 |none=>(LA.lookup b).map fun p=>.frz (IA p.1) (.lst (p.2.map V.int))
theorem F2{P:Program}{w:World}{K:W.Frag}{mg mb:Str->Option Value}{k:Nat}{fa tb:Addr}{fd:FuncData}{ps:List Str}{sp:Sp}{s1:Shared}{my:List Value}{vs:List V}{LA:List (Addr×List Value×List Int)}{R:List Int->Prop}
  (KX:K.In s1.heap) (hns:s1.heap.Ns mainGlobals mg) (hb:s1.heap.Ns builtinsNs mb) (hbb:∀x:Str,x≠ "__name__" ->mb x=bootBuiltins x) (hlim:s1.heap.NoLimit) (hg:s1.gens=#[])
  (Dk:∀p∈LA,s1.heap.get? p.1=some (IA p.2.1)/\IntsAre p.2.1 p.2.2/\p.2.2.length<=sizeLine)
  (nh:s1.heap.get? tb=some (W.tabObj #[])) (hct:isCodeTable s1.heap tb) (Dl:K.lookup tb=none) (hr:d4 k callerA) (rv:Vals vs my)
  (F:∀base:Heap,Mod K mg base->(∀b o,s1.heap.get? b=some o->o.cls≠ .type "list" ->b≠tb->base.get? b=some o)->bN P w K mg base CXf k fa fd ps sp)
  (qj:BindsTo s1 fd ⟨my,[]⟩ (ps.zip my))
  (uf:∀H:Hp,oX tb H->(∀p∈LA,SqL K H p.1 (p.2.2.map V.int))->sp vs H (fun v H'=>∃p ns,v=.ref p/\H' p=some (.lst (ns.map V.int))/\R ns) fun _ _ _=>False):
  codeAny (model P w) callerA (.call (.ref fa) ⟨my,[]⟩) (fun r s'=>(∃p its n ns,r=.ok (.ret (.ref p))/\s'.heap.get? p=some {cls:=.type "list",data:=.seq (List.toArray its) n}/\Vals (ns.map V.int) its/\R ns)/\OldK s1.heap s'.heap/\s'.os=s1.os/\AllBare s'.gens) s1:=by
 have find:∀{b:Addr}{x:List Value×List Int},LA.lookup b=some x->(b,x)∈LA:=fun{b x} e=>by
  have:∀l:List (Addr×List Value×List Int),l.lookup b=some x->(b,x)∈l:=by
   intro l;induction l with
   |nil=>intro e;cases e
   |cons y r ih=>
    intro e;rw[gk]at e;cases q:b==y.1 with
    |true=>rw[q]at e;cases e;rw[eq_of_beq q];exact bh
    |false=>rw[q]at e;exact au _ (ih e)
  exact this LA e
 generalize hH:xO K tb LA=H;have Htb:H tb=some (.tbl #[]):=by rw[<- hH];unfold xO;rw[ag rfl]
 have cases_H:∀b,b≠tb->H b=none\/∃x,K.lookup b=none/\(b,x)∈LA/\H b=some (.frz (IA x.1) (.lst (x.2.map V.int))):=fun b n=>by
  rw[<- hH];unfold xO;rw[af n];cases e:K.lookup b with
  |some o=>exact .inl rfl
  |none=>
   cases q:LA.lookup b with
   |none=>exact .inl rfl
   |some x=>exact .inr ⟨x,rfl,find q,rfl⟩
 have hAt:oX tb H:=⟨Htb,fun b n=>by
  rcases cases_H b n with q|⟨x,_,_,q⟩
  ·exact .inl q
  ·exact .inr ⟨_,_,q⟩⟩
 have hS:∀p∈LA,SqL K H p.1 (p.2.2.map V.int):=fun p hp=>by
  obtain⟨h1,h2,h3⟩:=Dk p hp;have n:p.1≠tb:=fun z=>by rw[z,nh]at h1;cases h1
  cases e:K.lookup p.1 with
  |some o=>have q:=KX _ _ e;rw[h1]at q;cases q;exact .inr ⟨_,p.2.1.toArray,_,e,rfl,rfl,rfl,by rw[bg,h2.length];exact h3,by simpa using oY h2⟩
  |none=>
   have q:∃x,LA.lookup p.1=some x:=by
    have:∀l:List (Addr×List Value×List Int),p∈l->∃x,l.lookup p.1=some x:=by
     intro l;induction l with
     |nil=>intro e;cases e
     |cons y r ih=>
      intro e;rw[gk];cases q:p.1==y.1 with
      |true=>exact⟨_,rfl⟩
      |false=>
       rcases ak.mp e with e|e
       ·rw[e]at q;simp at q
       ·exact ih e
    exact this LA hp
   obtain⟨x,q⟩:=q;obtain⟨g1,g2,g3⟩:=Dk _ (find q);have e1:p.2.1=x.1:=by
    rw[h1]at g1;have:=Option.some.inj g1;injection this with _ _ z _
    injection z with z _
    simpa using congrArg Array.toList z
   have e2:p.2.2=x.2:=vQ h2 (e1▸g2);refine .inl (.inr ⟨IA x.1,?_⟩);rw[<- hH];unfold xO;rw[af n,e,q,e2];rfl
 have hok:HOk P w H s1.heap:=fun b o e=>by
  by_cases z:b=tb
  ·rw[z,Htb]at e;cases e;rw[z];exact nh
  ·rcases cases_H b z with q|⟨x,_,hm,q⟩
   ·rw[q]at e;cases e
   ·rw[q]at e;cases e;obtain⟨g1,g2,g3⟩:=Dk _ hm;exact⟨g1,by rw[ai];exact g3,x.1,_,oY g2,g1⟩
 have base_of:∀{b:Addr}{o:Obj},s1.heap.get? b=some o->H b=none->(xF s1.heap H).get? b=some o:=fun e n=>IT e n
 have notl:∀b o,s1.heap.get? b=some o->o.cls≠ .type "list" ->b≠tb->H b=none:=fun b o e hc n=>by
  rcases cases_H b n with q|⟨x,_,hm,q⟩
  ·exact q
  ·have:=(Dk _ hm).1;rw[e]at this;cases this;exact absurd rfl hc
 have nsK:∀{b:Addr}{m:Str->Option Value},s1.heap.Ns b m->(xF s1.heap H).Ns b m:=fun{b m} ⟨o,es,ep,e,d,r⟩=>⟨o,es,ep,base_of e (by
  by_cases z:b=tb
  ·rw[z,nh]at e;cases e;cases d
  ·rcases cases_H b z with q|⟨x,_,hm,q⟩
   ·exact q
   ·have:=(Dk _ hm).1;rw[e]at this;cases this;cases d),d,r⟩
 have hKb:K.In (xF s1.heap H):=fun b o e=>base_of (KX b o e) (by
  by_cases z:b=tb
  ·rw[z,Dl]at e;cases e
  ·rcases cases_H b z with q|⟨x,hk,hm,q⟩
   ·exact q
   ·rw[hk]at e;cases e)
 have hM:Mod K mg (xF s1.heap H):=⟨hKb,nsK hns,⟨mb,nsK hb,hbb⟩,let⟨mc,h1,h2⟩:=hlim;⟨mc,nsK h1,h2⟩⟩;have e0:oU P w K mg (xF s1.heap H) callerA [] s1 H:=⟨rfl,hM,fun b o e=>K2 e,ib (F6 _ _),trivial,fun b hb=>absurd (show b∈([]:List Addr)from hb) (by simp),hok,.of_eq hg⟩;refine codeAny_mono ((F _ hM (fun b o e hc n=>base_of e (notl b o e hc n))).run callerA [] s1 H ⟨my,[]⟩ my vs _ _ hr e0 qj rv (uf H hAt hS)) fun r s' h=>?_
 cases r with
 |error e=>obtain⟨_,_,_,_,z⟩:=h;exact z.elim
 |ok fl=>
  cases fl with
  |next=>exact False.elim h
  |brk=>exact False.elim h
  |cont=>exact False.elim h
  |ret u=>
   obtain⟨v,H',os,bare,un,zp,r',p,ns,hv,hp,hR⟩:=h;subst hv;obtain rfl:u=Value.ref p:=r';obtain⟨_,its,n,pr,zu⟩:=zp p _ hp;refine⟨⟨p,its,n,ns,rfl,zu,pr,hR⟩,?_,os,bare⟩;have kept:∀b o,b≠tb->s1.heap.get? b=some o->s'.heap.get? b=some o:=fun b o n e=>by
    rcases cases_H b n with q|⟨x,_,hm,q⟩
    ·exact un.keep b o e q (by intro z;exact absurd (show b∈([]:List Addr)from z) (by simp)) (by simp)
    ·obtain⟨e1,_⟩:=hok b _ q;obtain⟨e2,_⟩:=zp b _ (un.nZ b _ _ q);rw[e]at e1;cases e1;exact e2
   obtain⟨more,Cr⟩:=un.sD tb _ Htb;have t2:s'.heap.get? tb=some (W.tabObj (#[]++more)):=zp tb _ Cr;refine⟨fun b o e=>?_,fun b o e=>?_⟩
   ·by_cases z:b=tb
    ·subst z;rw[nh]at e;cases e;exact .inr (.inl ⟨hct,rfl,#[],more,rfl,t2⟩)
    ·exact .inl (kept b o z e)
   ·by_cases z:b=tb
    ·exact⟨_,z▸t2⟩
    ·exact⟨_,kept b o z e⟩
structure aG(K:W.Frag)(x:Str)(st:Stmt):Prop where
 ex:∃f fd,W.nsIn K mainGlobals x=some (some (.ref f))/\Fun K x x st f fd
theorem N9{K:W.Frag}{x:Str}{st:Stmt}{f:Addr}{oc:Value}{od an:Option Addr}{mw:Array (Option Value)}{kV md pm jx ct:Value}(a:W.nsIn K mainGlobals x=some (some (.ref f)))
  (l:K.lookup f=some ⟨oc,od,.func (W.fnOf x x (hY st) (eZ st) (aH st) .none kV md pm an jx ct),mw⟩) (c:W.codeIn K jx x=true) (k:W.keepIn K (.ref f)=true):aG K x st:=⟨f,_,a,BZ l c k⟩
theorem aG.ok{P:Program}{w:World}{K:W.Frag}{mg:Str->Option Value}{base:Heap}{CX:CXT}{k:Nat}{x:Str}{st:Stmt}{ps:List Str}{sp:Sp}(D:aG K x st)(M:Mod K mg base)
  (h:∀f fd,Fun K x x st f fd->bN P w K mg base CX k f fd ps sp)
  (hb:∀(kV md pm:Value)(an:Option Addr)(jx ct:Value)(us:List Value),us.length=ps.length->bindArgs (W.fnOf x x (hY st) (eZ st) (aH st) .none kV md pm an jx ct) ⟨us,[]⟩=pure (ps.zip us)):aS P w K mg base CX k x ps sp:=by
 obtain⟨f,fd,a,F⟩:=D.ex;exact⟨⟨f,fd,h f fd F,W.mg_of M.kin M.glob a,F.kp,F.binds hb⟩⟩
noncomputable def BA(K:W.Frag)(v:Value)(p:Int×Int):Bool:=match v with
 | .ref b=>(match K.lookup b with
  |some ⟨.type "tuple",_,.seq its _,_⟩=>(match its.toList with
   |[.int x _,.int y _]=>x==p.1&& y==p.2
   |_=>false)
  |_=>false)
 |_=>false
noncomputable def rM(K:W.Frag):List Value->List (Int×Int)->Bool
 |[],[]=>true
 |v::vs,p::ps=>BA K v p&& rM K vs ps
 |_,_=>false
noncomputable def tZ(K:W.Frag)(a:Addr)(ps:List (Int×Int)):Bool:=match K.lookup a with
 |some ⟨.type "tuple",_,.seq its _,_⟩=>rM K its.toList ps&& decide (its.size<=1000)
 |_=>false
theorem JZ{K:W.Frag}{v:Value}{p:Int×Int}(h:BA K v p=true):∃b,v=.ref b/\∀H,C2 K H (.ref b) p:=by
 unfold BA at h;split at h
 ·rename_i b;split at h
  ·rename_i its n sl hk;split at h
   ·rename_i x t y u hi;rw[dk,beq_iff_eq,beq_iff_eq]at h;refine⟨b,rfl,fun H=>⟨b,rfl,.inr ⟨_,its,n,hk,rfl,rfl,?_,?_⟩⟩⟩
    ·rw[<- dq,hi];show 2<=sizeLine
     decide
    ·rw[hi];exact .cons ⟨t,by rw[h.1]⟩ (.cons ⟨u,by rw[h.2]⟩ .nil)
   ·cases h
  ·cases h
 ·cases h
theorem yP{K:W.Frag}:∀{vs:List Value}{ps:List (Int×Int)},rM K vs ps=true->∃xs:List V,Vals xs vs/\Paired (fun v p=>∀H,C2 K H v p) xs ps
 |[],[],_=>⟨[],.nil,.nil⟩
 |v::vs,p::ps,h=>by unfold rM at h;rw[dk]at h;obtain⟨b,rfl,hb⟩:=JZ h.1;obtain⟨xs,h1,h2⟩:=yP h.2;exact⟨.ref b::xs,.cons rfl h1,.cons hb h2⟩
 |[],_::_,h=>by cases h
 |_::_,[],h=>by cases h
theorem tY{K:W.Frag}{a:Addr}{ps:List (Int×Int)}(h:tZ K a ps=true):CT2 K a ps:=by
 unfold tZ at h;split at h
 ·rename_i its n sl hk;rw[dk]at h;obtain⟨xs,h1,h2⟩:=yP h.1;exact⟨xs,fun H=>.inr ⟨_,its,n,hk,rfl,rfl,dj (ay h.2) (by decide),h1⟩,h2⟩
 ·cases h
noncomputable def wR(K:W.Frag)(a:Addr):Bool:=match K.lookup a with
 |some ⟨.type "tuple",_,.seq its _,_⟩=>(match its.toList with
  |[.int 0 _,.int 1 _,.int 2 _,.int 3 _]=>true
  |_=>false)
 |_=>false
theorem GN{K:W.Frag}{a:Addr}(h:wR K a=true)(H:Hp):SqT K H a [.int 0,.int 1,.int 2,.int 3]:=by
 unfold wR at h;split at h
 ·rename_i its n sl hk;split at h
  ·rename_i t0 t1 t2 t3 hi;refine .inr ⟨_,its,n,hk,rfl,rfl,?_,?_⟩
   ·rw[<- dq,hi];show 4<=sizeLine
    decide
   ·rw[hi];exact .cons ⟨t0,rfl⟩ (.cons ⟨t1,rfl⟩ (.cons ⟨t2,rfl⟩ (.cons ⟨t3,rfl⟩ .nil)))
  ·cases h
 ·cases h
theorem oJ{K:W.Frag}{h:Heap}{C:Addr}{nm q:Str}{N:Addr}{bs:List Value}{hdct:Bool}{sn:List Str}{sub:List Value}{ab:Bool}{col:Option Bool}{dd:Option Addr}{k0 k1 k2 k3 k5:Option Value}{me:String}
  (X:K.In h) (l:K.lookup C=some (excClassObj nm q C N bs [.type "Exception",.type "BaseException",.type "object"] hdct sn sub ab col dd k0 k1 k2 k3 k5 me)):gU h C:=
 ⟨nm,q,N,bs,_,hdct,sn,sub,ab,col,dd,k0,k1,k2,k3,k5,me,X _ _ l,by decide,fun D=>by rfl⟩
theorem LV{K:W.Frag}{x:Str}{f c tb:Addr}{oc oc2:Value}{od od2:Option Addr}{fd:FuncData}{mw so:Array (Option Value)}{vs:Array Value}(a:W.nsIn K mainGlobals x=some (some (.ref f)))
  (l:K.lookup f=some ⟨oc,od,.func fd,mw⟩) (hc:fd.code=.ref c) (l2:K.lookup c=some ⟨oc2,od2,.fields vs,so⟩) (hv:vs[11]? =some (.ref tb)):W.tabIn K x=some (c,tb):=by
 unfold W.tabIn;rw[a];dsimp only;rw[l];dsimp only;rw[hc];dsimp only;rw[l2];dsimp only;rw[hv]
theorem A6{h base:Heap}{c tb:Addr}(C:W.CodeHd h c tb)(k:∀b o,h.get? b=some o->o.cls≠ .type "list" ->b≠tb->base.get? b=some o):W.CodeHd base c tb:=by obtain⟨o,vs,Du,tf,yf,tg,inF,text,tt,e,nz,r⟩:=C;have jv:c≠tb:=r.2.2.2.2.2.2.2;exact⟨o,vs,Du,tf,yf,tg,inF,text,tt,k c o e (by rw[nz];intro z;injection z with z;exact absurd z (by decide)) jv,nz,r⟩
theorem FW{h:Heap}{c tb:Addr}(C:W.CodeHd h c tb):isCodeTable h tb:=by obtain⟨o,vs,Du,tf,yf,tg,inF,text,tt,e,nz,hd,hv,_⟩:=C;exact⟨c,o,vs,e,nz,hd,hv⟩
theorem L5{p:Program}{loose:List Str}{yu:ExcName->Option Value}{mg mb:Str->Option Value}{h base:Heap}{tb:Addr}(T:Top p loose yu mg mb h)(ht:h.get? tb=some (W.tabObj #[]))
  (k:∀b o,h.get? b=some o->o.cls≠ .type "list" ->b≠tb->base.get? b=some o):NK mg base:=by
 obtain⟨bm,ob,b1,b2,b3,b4,b5,b6⟩:=T.bmain;refine⟨bm,ob,b1,b2,fun q=>?_,k bm ob b3 (by rw[b4];intro z;injection z with z;exact absurd z (by decide)) (fun q=>?_),b4,b5,b6⟩
 ·obtain⟨o,es,ep,e,hd,_⟩:=T.g;rw[q,e]at b3;cases b3;rw[hd]at b6;cases b6
 ·rw[q,ht]at b3;cases b3;cases b4
theorem D1{X:Cx}{K:W.Frag}{e:Expr}{f:Str}{pos:Pos}{ta:TE}(he:PE X e ta)(hb:attributeBase e f X.env (eval e X.env)=eval e X.env)(hK:X.K=K):PE X (.Attribute e f pos) (NV K ta f):=hK▸gM he hb
end L3
namespace RT
open PySem L2 L3
noncomputable def top(i:Nat):Stmt:=PySem.Challenge.pw_rooftold_s04_drop.main.body.getD i (.Pass ⟨0,0,0,0⟩)
structure Adr where
 cF:Addr
 bM:Addr
 dZ:Addr
 iJ:Addr
 iI:Addr
 Roof:Addr
abbrev bmE:List Value:=[.type "Exception",.type "BaseException",.type "object"]
structure Txt(K:W.Frag)(mg:Str->Option Value)(base:Heap)(d:Adr):Prop where
 bB:∃a,mg "ALL_SIDES" =some (.ref a)/\∀H,SqT K H a [.int 0,.int 1,.int 2,.int 3]
 xG:∃a,mg "STEPS" =some (.ref a)/\CT2 K a [(0,-1),(1,0),(0,1),(-1,0)]
 iG:∃a,mg "SIDE_STARTS" =some (.ref a)/\CT2 K a [(0,0),(1,0),(1,1),(0,1)]
 mQ:∃a,mg "QUARTERS" =some (.ref a)/\CT2 K a [(0,0),(1,0),(0,1),(1,1)]
 gQ:∃a,mg "HALVES_ABOUT" =some (.ref a)/\CT2 K a [(-1,-1),(0,-1),(1,-1),(-1,0),(1,0),(-1,1),(0,1),(1,1)]
 e7:∃a,mg "HALVES_AT_A_POINT" =some (.ref a)/\CT2 K a [(-1,-1),(0,-1),(-1,0),(0,0)]
 zO:mU mg "LINE_FEED" 10
 KO:mU mg "BLANK" 32
 KN:mU mg "COMMA" 44
 jI:mU mg "DIGIT_ZERO" 48
 xI:mU mg "DIGIT_NINE" 57
 nY:mU mg "GREATEST_NUMBER" 64
 uM:mU mg "MOST_DIGITS" 2
 pX:mU mg "FEWEST_CORNERS" 4
 iX:mU mg "CELLS_IN_A_ROW" 64
 xH:mU mg "MOST_CELLS" 256
 len:mg "len" =none
 min:mg "min" =none
 max:mg "max" =none
 any:mg "any" =none
 list:mg "list" =none
 dict:mg "dict" =none
 sorted:mg "sorted" =none
 range:mg "range" =none
 enumerate:mg "enumerate" =none
 eT:PyProof.Rows.OwnCls "NoHouse" d.cF bmE "Exception.__new__" mg base
 MT:mg "Roof" =some (.ref d.Roof)
 cR:Cls K d.Roof
 D7:g7 K d.Roof "cells"
 kF:g7 K d.Roof "depths"
 lI:g7 K d.Roof "heights"
 lJ:g7 K d.Roof "facings"
 vM:g7 K d.Roof "numbers"
 K4:g7 K d.Roof "faces"
 jT:mU mg "GREATEST_HALF" 127
 rH:mU mg "GREATEST_SIDE" 3
 uG:PyProof.Rows.OwnCls "OutOfBounds" d.bM bmE "Exception.__new__" mg base
 ET:PyProof.Rows.OwnCls "Outside" d.dZ bmE "Exception.__new__" mg base
 FA:mU mg "AT_EAVE" 0
 qY:mU mg "AT_CORNER" 1
variable {P:Program}{w:World}{K:W.Frag}{mg:Str->Option Value}{base:Heap}{d:Adr}{f:Addr}{fd:FuncData}
theorem hm{k n:Nat}{A:Around}(h:d4 n A)(e:k<=n:=by decide):d4 k A:=h.mono e
theorem fS{N ps:List Str}{sc:Scope}(h:aM N ps sc:=by exact⟨rfl,rfl,rfl,by decide+kernel,rfl,by decide+kernel,by decide+kernel⟩):aM N ps sc:=h
theorem dI{K:W.Frag}{n:Str}{s:Stmt}(h:aG K n s:=by dsimp only[L2.KOf];refine' L3.N9 ?a ?l ?c ?k;case a|l|c|k=>k_is):aG K n s:=h
theorem pgN{X:Cx}{pos:Pos}{i:Nat}{x:Str}(hN:X.N.Nodup)(hi:X.N[i]? =some x:=by rfl)(hx:Loc X.env.scope x:=by exact Or.inl rfl)(hf:X.fn x=true\/X.env.scope.names.lookup x=some .local:=by first|exact .inl rfl|exact .inr rfl|assumption):PG X (.Name x pos) (hO i):=JV hN hi hx hf
theorem psN{X:Cx}{pos ku:Pos}{i:Nat}{x:Str}{e:Expr}{te:TE}(hN:X.N.Nodup)(he:PE X e te)(hi:X.N[i]? =some x:=by rfl)(hx:Loc X.env.scope x:=by exact Or.inl rfl)(hs:swapsWith e (some (.Name x ku)) pos.line X.env=pure false:=by rfl)(hf:X.fn x=true\/X.env.scope.names.lookup x=some .local:=by first|exact .inl rfl|exact .inr rfl|assumption):PS X (.Assign [.Name x ku] e pos) (AX te (hO i)):=GX hN hi hx he hs hf
abbrev s_lo:Stmt:=(top 4)
theorem sc_lo:aM ["direction"] ["direction"] (aH s_lo):=fS
noncomputable def sp_lo(K:W.Frag)(d:Adr):Sp:=fun vs H Q _=>∃x:Int,vs=[.int x]/\Q (.int ((x+1)%4)) H
theorem ok_lo(F:Fun K "left_of" "left_of" s_lo f fd)(T:Txt K mg base d):bN P w K mg base CX0 1 f fd ["direction"] (sp_lo K d):=by refine F.ok sc_lo (fun vs H Q E h=>by obtain⟨x,rfl,_⟩:=h;rfl) (fun _ _ _ _ H _ Q E hr h=>?_);have hu:=bI hr;obtain⟨x,rfl,k⟩:=h;refine⟨_,(aE (aT (d8 wX (d8 kE (pv 0) aL) aL))),?_⟩;exact⟨_,rfl,_,_,rfl,rfl,_,_,rfl,rfl,(by show(0:Int)<4;decide),k⟩
abbrev s_o:Stmt:=(top 5)
theorem sc_o:aM ["direction"] ["direction"] (aH s_o):=fS
noncomputable def sp_o(K:W.Frag)(d:Adr):Sp:=fun vs H Q _=>∃x:Int,vs=[.int x]/\Q (.int ((x+2)%4)) H
theorem ok_o(F:Fun K "opposite" "opposite" s_o f fd)(T:Txt K mg base d):bN P w K mg base CX0 1 f fd ["direction"] (sp_o K d):=by refine F.ok sc_o (fun vs H Q E h=>by obtain⟨x,rfl,_⟩:=h;rfl) (fun _ _ _ _ H _ Q E hr h=>?_);have hu:=bI hr;obtain⟨x,rfl,k⟩:=h;refine⟨_,(aE (aT (d8 wX (d8 kE (pv 0) aL) aL))),?_⟩;exact⟨_,rfl,_,_,rfl,rfl,_,_,rfl,rfl,(by show(0:Int)<4;decide),k⟩
abbrev s_ro:Stmt:=(top 6)
theorem sc_ro:aM ["direction"] ["direction"] (aH s_ro):=fS
noncomputable def sp_ro(K:W.Frag)(d:Adr):Sp:=fun vs H Q _=>∃x:Int,vs=[.int x]/\Q (.int ((x+3)%4)) H
theorem ok_ro(F:Fun K "right_of" "right_of" s_ro f fd)(T:Txt K mg base d):bN P w K mg base CX0 1 f fd ["direction"] (sp_ro K d):=by refine F.ok sc_ro (fun vs H Q E h=>by obtain⟨x,rfl,_⟩:=h;rfl) (fun _ _ _ _ H _ Q E hr h=>?_);have hu:=bI hr;obtain⟨x,rfl,k⟩:=h;refine⟨_,(aE (aT (d8 wX (d8 kE (pv 0) aL) aL))),?_⟩;exact⟨_,rfl,_,_,rfl,rfl,_,_,rfl,rfl,(by show(0:Int)<4;decide),k⟩
abbrev s_m:Stmt:=(top 7)
theorem sc_m:aM ["place","step"] ["place","step"] (aH s_m):=fS
noncomputable def sp_m(K:W.Frag)(d:Adr):Sp:=fun vs H Q _=>∃(v u:V)(p q:PI),vs=[v,u]/\C2 K H v p/\C2 K H u q/\∀r H',a9 H H'->T2 H' r (p.1+q.1,p.2+q.2)->Q r H'
theorem ok_m(F:Fun K "moved" "moved" s_m f fd)(T:Txt K mg base d):bN P w K mg base CX0 1 f fd ["place","step"] (sp_m K d):=by refine F.ok sc_m (fun vs H Q E h=>by obtain⟨v,u,p,q,rfl,_⟩:=h;rfl) (fun _ _ _ _ H _ Q E hr h=>?_);have hu:=bI hr;obtain⟨v,u,p,q,rfl,⟨a,rfl,ha⟩,⟨b,rfl,hb⟩,k⟩:=h;refine⟨_,(aE (aT (cU (a7 (d8 kE (bH bD (pv 0) aL (fun _ _=>rfl)) (bH bD (pv 1) aL (fun _ _=>rfl))) (a7 (d8 kE (bH bD (pv 0) aL (fun _ _=>rfl)) (bH bD (pv 1) aL (fun _ _=>rfl))) aD))))),?_⟩;refine⟨_,rfl,a,_,_,_,rfl,rfl,ha,aW (by decide) rfl,_,rfl,b,_,_,_,rfl,rfl,hb,aW (by decide) rfl,_,_,rfl,rfl,_,rfl,a,_,_,_,rfl,rfl,ha,aW (by decide) rfl,_,rfl,b,_,_,_,rfl,rfl,hb,aW (by decide) rfl,_,_,rfl,rfl,(by show 2<=sizeLine;decide),fun t ht=>?_⟩;exact k _ _ (a9.upd ht) ⟨t,rfl,a8⟩
abbrev s_b:Stmt:=(top 8)
theorem sc_b:aM ["place","direction"] ["place","direction"] (aH s_b):=fS
noncomputable def sp_b(K:W.Frag)(d:Adr):Sp:=fun vs H Q _=>∃(v:V)(p:PI)(s:Nat),vs=[v,.int s]/\C2 K H v p/\s<4/\∀r H',a9 H H'->T2 H' r (RM.aK p s)->Q r H'
theorem ok_b(F:Fun K "beyond" "beyond" s_b f fd)(T:Txt K mg base d)(D_m:aS P w K mg base CX0 1 "moved" ["place","step"] (sp_m K d)):bN P w K mg base CX0 2 f fd ["place","direction"] (sp_b K d):=by
 refine F.ok sc_b (fun vs H Q E h=>by obtain⟨v,p,s,rfl,_⟩:=h;rfl) (fun _ _ _ _ H _ Q E hr h=>?_);have hu:=bI hr;obtain⟨aSTEPS,xG,c_STEPS⟩:=T.xG;obtain⟨v,p,s,rfl,hv,hs,k⟩:=h;obtain⟨xs,hx,pr⟩:=c_STEPS;obtain⟨q,hq,e⟩:∃q:PI,([(0,-1),(1,0),(0,1),(-1,0)]:List PI)[s]? =some q/\((p.1+q.1,p.2+q.2):PI)=RM.aK p s:=by
  have cs:s=0\/s=1\/s=2\/s=3:=by omega
  rcases cs with rfl|rfl|rfl|rfl
  ·exact⟨_,rfl,by simp[RM.aK];omega⟩
  ·exact⟨_,rfl,by simp[RM.aK]⟩
  ·exact⟨_,rfl,by simp[RM.aK]⟩
  ·exact⟨_,rfl,by simp[RM.aK];omega⟩
 obtain⟨u,qm,ru⟩:=iS pr hq;refine⟨_,(aE (aT (aU D_m (hm hr) aX rfl (a7 (pv 0) (a7 (bH bD (eX xG rfl) (pv 1) (fun _ _=>rfl)) aD))))),?_⟩;exact⟨_,rfl,_,rfl,_,_,_,_,rfl,rfl,hx _,aW (by omega) (by simpa using qm),v,u,p,q,rfl,hv,ru _,fun r H' sm t=>k r H' sm (by rw[<- e];exact t)⟩
abbrev s_ss:Stmt:=(top 9)
theorem sc_ss:aM ["square","side"] ["square","side"] (aH s_ss):=fS
noncomputable def sp_ss(K:W.Frag)(d:Adr):Sp:=fun vs H Q _=>∃(v:V)(p:PI)(s:Nat),vs=[v,.int s]/\C2 K H v p/\s<4/\∀r H',a9 H H'->T2 H' r (RM.aB p s)->Q r H'
theorem ok_ss(F:Fun K "side_start" "side_start" s_ss f fd)(T:Txt K mg base d)(D_m:aS P w K mg base CX0 1 "moved" ["place","step"] (sp_m K d)):bN P w K mg base CX0 2 f fd ["square","side"] (sp_ss K d):=by
 refine F.ok sc_ss (fun vs H Q E h=>by obtain⟨v,p,s,rfl,_⟩:=h;rfl) (fun _ _ _ _ H _ Q E hr h=>?_);have hu:=bI hr;obtain⟨aSIDE_STARTS,iG,c_SIDE_STARTS⟩:=T.iG;obtain⟨v,p,s,rfl,hv,hs,k⟩:=h;obtain⟨xs,hx,pr⟩:=c_SIDE_STARTS;obtain⟨q,hq,e⟩:∃q:PI,([(0,0),(1,0),(1,1),(0,1)]:List PI)[s]? =some q/\((p.1+q.1,p.2+q.2):PI)=RM.aB p s:=by
  have cs:s=0\/s=1\/s=2\/s=3:=by omega
  rcases cs with rfl|rfl|rfl|rfl<;>exact⟨_,rfl,by simp[RM.aB]⟩
 obtain⟨u,qm,ru⟩:=iS pr hq;refine⟨_,(aE (aT (aU D_m (hm hr) aX rfl (a7 (pv 0) (a7 (bH bD (eX iG rfl) (pv 1) (fun _ _=>rfl)) aD))))),?_⟩;exact⟨_,rfl,_,rfl,_,_,_,_,rfl,rfl,hx _,aW (by omega) (by simpa using qm),v,u,p,q,rfl,hv,ru _,fun r H' sm t=>k r H' sm (by rw[<- e];exact t)⟩
abbrev s_se:Stmt:=(top 10)
theorem sc_se:aM ["square","side"] ["square","side"] (aH s_se):=fS
noncomputable def sp_se(K:W.Frag)(d:Adr):Sp:=fun vs H Q _=>∃(v:V)(p:PI)(s:Nat),vs=[v,.int s]/\C2 K H v p/\s<4/\∀r H',a9 H H'->T2 H' r (RM.aB p (s+1))->Q r H'
theorem ok_se(F:Fun K "side_end" "side_end" s_se f fd)(T:Txt K mg base d)(D_ss:aS P w K mg base CX0 2 "side_start" ["square","side"] (sp_ss K d))(D_lo:aS P w K mg base CX0 1 "left_of" ["direction"] (sp_lo K d)):bN P w K mg base CX0 3 f fd ["square","side"] (sp_se K d):=by
 refine F.ok sc_se (fun vs H Q E h=>by obtain⟨v,p,s,rfl,_⟩:=h;rfl) (fun _ _ _ _ H _ Q E hr h=>?_);have hu:=bI hr;obtain⟨v,p,s,rfl,hv,hs,k⟩:=h;refine⟨_,(aE (aT (aU D_ss (hm hr) aX rfl (a7 (pv 0) (a7 (aU D_lo (hm hr) aX rfl (a7 (pv 1) aD)) aD))))),?_⟩;refine⟨_,rfl,_,rfl,_,rfl,v,p,(s+1)%4,?_,hv,by omega,fun r H' sm t=>k r H' sm ?_⟩
 ·simp
 ·have e:RM.aB p ((s+1)%4)=RM.aB p (s+1):=by unfold RM.aB;rw[mod_mod]
  rw[<- e];exact t
abbrev s_br:Stmt:=(top 11)
theorem sc_br:aM ["place"] ["place"] (aH s_br):=fS
noncomputable def sp_br(K:W.Frag)(d:Adr):Sp:=fun vs H Q _=>∃(v:V)(p:PI),vs=[v]/\C2 K H v p/\∀r H',a9 H H'->T2 H' r (p.2,p.1)->Q r H'
theorem ok_br(F:Fun K "by_row" "by_row" s_br f fd)(T:Txt K mg base d):bN P w K mg base CX0 1 f fd ["place"] (sp_br K d):=by refine F.ok sc_br (fun vs H Q E h=>by obtain⟨v,p,rfl,_⟩:=h;rfl) (fun _ _ _ _ H _ Q E hr h=>?_);have hu:=bI hr;obtain⟨v,p,rfl,⟨a,rfl,ha⟩,k⟩:=h;refine⟨_,(aE (aT (cU (a7 (bH bD (pv 0) aL (fun _ _=>rfl)) (a7 (bH bD (pv 0) aL (fun _ _=>rfl)) aD))))),?_⟩;refine⟨_,rfl,a,_,_,_,rfl,rfl,ha,aW (by decide) rfl,_,rfl,a,_,_,_,rfl,rfl,ha,aW (by decide) rfl,(by show 2<=sizeLine;decide),fun t ht=>?_⟩;exact k _ _ (a9.upd ht) ⟨t,rfl,a8⟩
abbrev s_pb:Stmt:=(top 28)
theorem sc_pb:aM ["row","mark","parts","part","value"] ["row","mark"] (aH s_pb):=fS
theorem DG{ns:List Int}{i:Nat}{y:V}(h:(ns.map V.int)[i]? =some y):∃z,ns[i]? =some z/\y=V.int z:=by
 rw[bc]at h;cases e:ns[i]? with
 |none=>rw[e]at h;cases h
 |some z=>rw[e]at h;exact⟨z,rfl,(Option.some.inj h).symm⟩
theorem few{n m:Nat}(h:n<=m)(hm:m<=100000:=by omega):n<sizeLine:=gh (dj h hm) (by decide)
noncomputable def sp_pb(K:W.Frag)(d:Adr):Sp:=fun vs H Q _=>∃(a:Addr)(ns:List Int)(m:Int),vs=[.ref a,.int m]/\SqL K H a (ns.map V.int)/\ns.length<=4096/\∀p H',a9 H H'->H p=none->LLI H' p (RM.parts m ns)->Q (.ref p) H'
theorem ok_pb(F:Fun K "parts_between" "parts_between" s_pb f fd)(T:Txt K mg base d):bN P w K mg base CX0 1 f fd ["row","mark"] (sp_pb K d):=by
 refine F.ok sc_pb (fun vs H Q E h=>by obtain⟨a,ns,m,rfl,_⟩:=h;rfl) (fun _ _ _ _ H _ Q E hr h=>?_);have hu:=bI hr;obtain⟨a,ns,m,rfl,hS,kc,k⟩:=h;refine⟨_,(aA (psN (i:=2) sc_pb.nd (fB aD))
   (aA (psN (i:=3) sc_pb.nd (fB aD))
   (aA (c8 PassesOwn.never rfl (dX (pv 0)) (pgN (i:=4) sc_pb.nd) (aE (cB (bK gY (pv 4) (pv 1) (bU _)) (aA (d6 (gX PySem.F.plainAttrs_list PySem.F.slot_list_append PySem.F.type_list_append cC (pv 2) (a7 (pv 3) aD)))
   (aE (psN (i:=3) sc_pb.nd (fB aD)))) (aE (d6 (gX PySem.F.plainAttrs_list PySem.F.slot_list_append PySem.F.type_list_append cC (pv 3) (a7 (pv 4) aD)))))))
   (aA (d6 (gX PySem.F.plainAttrs_list PySem.F.slot_list_append PySem.F.type_list_append cC (pv 2) (a7 (pv 3) aD)))
   (aE (aT (pv 2))))))),?_⟩
 refine⟨cv _,fun p hp=>?_⟩;refine⟨cv _,fun q hq=>?_⟩;have wb:p≠q:=aI a8 hq;refine⟨_,rfl,a,rfl,⟨_,(a9.trans (a9.upd hp) (a9.upd hq)).seq hS⟩,gR (K:=K) (a:=a) (xs:=ns.map V.int) (fun i σ H2=>∃(q:Addr)(done:List (List Int))(cur:List Int)(xs:List V)(v:Option V),
  σ=[some (.ref a),some (.int m),some (.ref p),some (.ref q),v]/\a9 H H2/\H q=none/\H2 p=some (.lst xs)/\H2 q=some (.lst (cur.map V.int))/\p≠q/\
  Paired (fun v r=>∃b,v=V.ref b/\b≠p/\b≠q/\H2 b=some (.lst (r.map V.int))) xs done/\done++RM.partsFrom m cur (ns.drop i)=RM.parts m ns/\done.length<=i/\cur.length<=i)
  ⟨q,[],[],[],none,rfl,a9.trans (a9.upd hp) (a9.upd hq),(a9.upd hp).free hq,by rw[aC wb,a8],a8,wb,.nil,RM.iC m ns,ax _,ax _⟩
  (fun i σ H2 _ ⟨_,_,_,_,_,_,s2,_⟩=>s2.seq hS) ?_ ?_⟩
 ·rintro i y σ H2 hi ⟨q,done,cur,xs,v,rfl,s2,fq,h1,h2,wb,pr,hd,l1,l2⟩;obtain⟨z,hz,rfl⟩:=DG hi;have rj:i<ns.length:=(ao.mp hz).1;have lx:=pairs_len pr;rw[RM.drop_cons hz]at hd;refine⟨_,rfl,_,rfl,rfl,_,rfl,?_⟩;refine bZ (fun c=>?_) (fun c=>?_)
  ·have e:z=m:=by simpa using c
   refine⟨_,rfl,.inl ⟨rfl,_,SqL.of h1⟩,_,rfl,p,xs,.ref q,rfl,rfl,h1,few (m:=4096) (by omega),?_⟩;refine⟨cv _,fun q' pf=>?_⟩;have hp':(upd H2 p (.lst (xs++[.ref q]))) p=some (.lst (xs++[.ref q])):=a8;have hq2:(upd H2 p (.lst (xs++[.ref q]))) q=some (.lst (cur.map V.int)):=by rw[aC wb.symm];exact h2
   have n1:p≠q':=aI hp' pf;have n2:q≠q':=aI hq2 pf;have s3:a9 H (upd H2 p (.lst (xs++[.ref q]))):=a9.put s2 hp;refine⟨q',done++[cur],[],xs++[.ref q],_,rfl,a9.trans s3 (a9.upd pf),s3.free pf,by rw[aC n1,a8],a8,n1,?_,?_,by rw[aj];simp;omega,cv _⟩
   ·refine aZ ⟨q,rfl,wb.symm,n2,by rw[aC n2];exact hq2⟩ (aJ (fun v r ⟨b,e1,e2,e3,e4⟩=>?_) pr);have e5:(upd H2 p (.lst (xs++[.ref q]))) b=some (.lst (r.map V.int)):=by rw[aC e2];exact e4
    have n3:b≠q':=aI e5 pf;exact⟨b,e1,e2,n3,by rw[aC n3];exact e5⟩
   ·rw[RM.iD e]at hd;rw[<- hd];simp
  ·have e:¬z=m:=by simpa using c
   refine⟨_,rfl,.inl ⟨rfl,_,SqL.of h2⟩,_,rfl,q,_,.int z,rfl,rfl,h2,by rw[ai];exact few (m:=4096) (by omega),?_⟩;refine⟨q,done,cur++[z],xs,_,rfl,a9.put s2 fq,fq,by rw[aC wb];exact h1,by rw[a8,cj];rfl,wb,aJ (fun v r ⟨b,e1,e2,e3,e4⟩=>⟨b,e1,e2,e3,by rw[aC e3];exact e4⟩) pr,?_,by omega,by rw[aj];simp;omega⟩;rw[RM.gN e]at hd;exact hd
 ·rintro σ H2 ⟨q,done,cur,xs,v,rfl,s2,fq,h1,h2,wb,pr,hd,l1,l2⟩;have lx:=pairs_len pr;rw[ai]at hd l1;rw[List.drop_eq_nil_of_le (ax _)]at hd;have hd:done++[cur]=RM.parts m ns:=hd;refine⟨_,rfl,.inl ⟨rfl,_,SqL.of h1⟩,_,rfl,p,xs,.ref q,rfl,rfl,h1,few (m:=4096) (by omega),?_⟩;refine⟨_,rfl,k p _ (a9.put s2 hp) hp ⟨_,a8,?_⟩⟩;rw[<- hd];refine aZ ⟨q,rfl,by rw[aC wb.symm];exact h2⟩ (aJ (fun v r ⟨b,e1,e2,e3,e4⟩=>⟨b,e1,by rw[aC e2];exact e4⟩) pr)
abbrev s_dt:Stmt:=(top 29)
theorem sc_dt:aM ["value"] ["value"] (aH s_dt):=fS
noncomputable def sp_dt(K:W.Frag)(d:Adr):Sp:=fun vs H Q E=>∃n:Int,vs=[.int n]/\(∀z,RM.kQ n=some z->Q (.int z) H)/\(RM.kQ n=none->E (.ref d.cF) none H)
theorem ok_dt(F:Fun K "digit_told" "digit_told" s_dt f fd)(T:Txt K mg base d):bN P w K mg base CXf 1 f fd ["value"] (sp_dt K d):=by
 refine okX F sc_dt (fun vs H Q E h=>by obtain⟨n,rfl,_⟩:=h;rfl) (fun _ _ _ _ H _ Q E hr hok h=>?_);have hu:=bI hr;obtain⟨n,rfl,k1,k2⟩:=h;refine⟨_,(aA (cB (PW.pt (sU (bK HN (pv 0) (cH T.jI rfl) (bU _)) (pE (bK nK (pv 0) (cH T.xI rfl) (bU _))))) (aE (dG hok PySem.F.excBase_Exception T.eT rfl)) bF)
   (aE (aT (d8 pM (pv 0) (cH T.jI rfl))))),?_⟩
 refine⟨_,rfl,_,_,rfl,rfl,_,rfl,?_⟩;refine bZ (fun c=>?_) (fun c=>?_)
 ·have c:n<48:=by simpa using c
  exact zA (k2 (by unfold RM.kQ;rw[ag (.inl c)]))
 ·have c:¬n<48:=by simpa using c
  refine⟨_,rfl,_,_,rfl,rfl,_,rfl,?_⟩;refine bZ (fun c2=>?_) (fun c2=>?_)
  ·have c2:57<n:=by simpa using c2
   exact k2 (by unfold RM.kQ;rw[ag (.inr c2)])
  ·have c2:¬57<n:=by simpa using c2
   exact⟨_,rfl,_,_,rfl,rfl,k1 _ (by unfold RM.kQ;rw[af (by omega)])⟩
abbrev s_nt:Stmt:=(top 30)
theorem sc_nt:aM ["row","number","value"] ["row"] (aH s_nt):=fS
noncomputable def sp_nt(K:W.Frag)(d:Adr):Sp:=fun vs H Q E=>∃(v:V)(ns:List Int),vs=[v]/\LI H v ns/\ns.length<=4096/\(∀z,RM.dH ns=some z->Q (.int z) H)/\(RM.dH ns=none->E (.ref d.cF) none H)
theorem ok_nt(F:Fun K "number_told" "number_told" s_nt f fd)(T:Txt K mg base d)(D_dt:aS P w K mg base CXf 1 "digit_told" ["value"] (sp_dt K d)):bN P w K mg base CXf 2 f fd ["row"] (sp_nt K d):=by
 refine okX F sc_nt (fun vs H Q E h=>by obtain⟨v,ns,rfl,_⟩:=h;rfl) (fun _ _ _ _ H _ Q E hr hok h=>?_);have hu:=bI hr;obtain⟨v,ns,rfl,⟨a,rfl,ha⟩,hl,k1,k2⟩:=h;have hS:SqL K H a (ns.map V.int):=SqL.of ha;have el:(ns.map V.int).length=ns.length:=ai ..;refine⟨_,(aA (cB (PW.pt (sU (bK gY (bY c7 (by rfl) T.len PySem.boot_len (a7 (pv 0) aD)) aL (bU _)) (pE (bK nK (bY c7 (by rfl) T.len PySem.boot_len (a7 (pv 0) aD)) (cH T.uM rfl) (bU _))))) (aE (dG hok PySem.F.excBase_Exception T.eT rfl)) bF)
   (aA (cB (PW.pt (pG (bK nK (bY c7 (by rfl) T.len PySem.boot_len (a7 (pv 0) aD)) aL (bU _)) (nE (bK gY (bH jD (pv 0) aL (fun _ _=>rfl)) (cH T.jI rfl) (bU _))))) (aE (dG hok PySem.F.excBase_Exception T.eT rfl)) bF)
   (aA (psN (i:=1) sc_nt.nd aL)
   (aA (c8 PassesOwn.leaving rfl (dX (pv 0)) (pgN (i:=2) sc_nt.nd) (aE (psN (i:=1) sc_nt.nd (d8 kE (d8 sZ (pv 1) aL) (aU D_dt (hm hr) (yM hok) rfl (a7 (pv 2) aD))))))
   (aA (cB (bK nK (pv 1) (cH T.nY rfl) (bU _)) (aE (dG hok PySem.F.excBase_Exception T.eT rfl)) bF)
   (aE (aT (pv 1)))))))),?_⟩
 refine⟨_,rfl,a,_,rfl,.inl hS,rfl,_,rfl,?_⟩;refine bZ (fun c=>?_) (fun c=>?_)
 ·have c:ns.length=0:=by simpa using c
  exact zA (k2 (by unfold RM.dH;rw[ag (.inl c)]))
 have c:¬ns.length=0:=by simpa using c
 refine⟨_,rfl,a,_,rfl,.inl hS,_,_,rfl,rfl,_,rfl,?_⟩;refine bZ (fun c2=>?_) (fun c2=>?_)
 ·have c2:2<ns.length:=by have:=ay c2;rw[el]at this;omega
  exact k2 (by unfold RM.dH;rw[ag (.inr c2)])
 have c2:¬2<ns.length:=by intro z;exact c2 (decide_eq_true (by rw[el];omega))
 have n1:¬(ns.length=0\/2<ns.length):=by omega
 refine(fun(rest:¬(1<ns.length/\ns.head?=some 48)->?R)=>?main) ?hr;case main=>
  refine⟨_,rfl,a,_,rfl,.inl hS,_,_,rfl,rfl,_,rfl,?_⟩;refine bZ (fun c3=>?_) (fun c3=>?_)
  ·have c3:1<ns.length:=by have:=ay c3;rw[el]at this;omega
   obtain⟨y,hy⟩:∃y,ns[0]? =some y:=⟨ns[0],bj (by omega)⟩
   refine⟨_,rfl,a,_,_,_,rfl,rfl,hS,aW (v:=V.int y) (by decide) (by rw[bc];show ns[0]?.map V.int=_;rw[hy];rfl),rfl,_,rfl,?_⟩;have hh:ns.head?=some y:=by rw[List.head?_eq_getElem?];exact hy
   refine bZ (fun c4=>?_) (fun c4=>?_)
   ·have c4:y=48:=by simpa using c4
    exact k2 (by unfold RM.dH;rw[af n1,ag ⟨c3,by rw[hh,c4]⟩])
   ·have c4:¬y=48:=by simpa using c4
    exact rest fun z=>c4 (by have:=z.2;rw[hh]at this;exact Option.some.inj this)
  ·have c3:¬1<ns.length:=by intro z;exact c3 (decide_eq_true (by rw[el];omega))
   exact IK (rest fun z=>c3 z.1)
 case hr=>
  intro c3;have nb:∀o,ns.foldlM RM.gZ 0=o->RM.dH ns=o.bind fun n=>if 64<n then none else some n:=fun o e=>by unfold RM.dH;rw[af n1,af c3,e]
  refine⟨_,rfl,a,rfl,⟨_,hS⟩,gR (K:=K) (a:=a) (xs:=ns.map V.int) (fun i σ H2=>H2=H/\∃(n:Int)(v:Option V),σ=[some (.ref a),some (.int n),v]/\(ns.take i).foldlM RM.gZ 0=some n)
   ⟨rfl,0,none,rfl,rfl⟩ (fun i σ H2 _ ⟨e,_⟩=>by rw[e];exact hS) ?_ ?_⟩
  ·rintro i y σ H2 hi ⟨rfl,n,v,rfl,hn⟩;obtain⟨z,hz,rfl⟩:=DG hi;refine⟨_,rfl,_,_,rfl,rfl,.inr ⟨by decide,by decide⟩,_,rfl,z,rfl,fun q hq=>⟨_,_,rfl,rfl,rfl,_,_,rfl,?_⟩,fun hq=>?_⟩
   ·rw[RM.r8 hn hz];unfold RM.gZ;rw[hq];rfl
   ·refine k2 ?_;have e:RM.gZ n z=none:=by unfold RM.gZ;rw[hq];rfl
    rw[nb _ (RM.zS hn hz e)];rfl
  ·rintro σ H2 ⟨rfl,n,v,rfl,hn⟩;rw[el,bu (ax _)]at hn;refine⟨_,rfl,_,_,rfl,rfl,_,rfl,?_⟩;refine bZ (fun c4=>?_) (fun c4=>?_)
   ·have c4:64<n:=by simpa using c4
    exact k2 (by rw[nb _ hn];show(if 64<n then none else some n)=none;rw[ag c4])
   ·have c4:¬64<n:=by simpa using c4
    exact⟨_,rfl,k1 n (by rw[nb _ hn];show(if 64<n then none else some n)=some n;rw[af c4])⟩
abbrev s_ct2:Stmt:=(top 31)
theorem sc_ct2:aM ["row","numbers","part"] ["row"] (aH s_ct2):=fS
def NL:List Int->Option (Int×Int)
 |[a,b]=>some (a,b)
 |_=>none
noncomputable def sp_ct2(K:W.Frag)(d:Adr):Sp:=fun vs H Q E=>∃(v:V)(ns:List Int),vs=[v]/\LI H v ns/\ns.length<=4096/\(∀z,RM.dM ns=some z->∀r H',a9 H H'->T2 H' r z->Q r H')/\(RM.dM ns=none->E (.ref d.cF) none H)
theorem ok_ct2(F:Fun K "corner_told" "corner_told" s_ct2 f fd)(T:Txt K mg base d)(D_pb:aS P w K mg base CX0 1 "parts_between" ["row","mark"] (sp_pb K d))(D_nt:aS P w K mg base CXf 2 "number_told" ["row"] (sp_nt K d)):bN P w K mg base CXf 3 f fd ["row"] (sp_ct2 K d):=by
 refine okX F sc_ct2 (fun vs H Q E h=>by obtain⟨v,ns,rfl,_⟩:=h;rfl) (fun _ _ _ _ H _ Q E hr hok h=>?_);have hu:=bI hr;obtain⟨v,ns,rfl,⟨a,rfl,ha⟩,hl,k1,k2⟩:=h;refine⟨_,(aA (vD hok (i:=1) (own:=[("part",2)]) rfl sc_ct2.nd rfl rfl (by exact n8 rfl rfl rfl rfl) (dX (aU D_pb (hm hr) aX rfl (a7 (pv 0) (a7 (cH T.KN rfl) aD)))) (f6 (by first|decide+kernel|kernel_rfl)) (fun _ _ _ _ _=>(pgN (i:=2) sc_ct2.nd)) (fun _ _ _ _ _ hk=>(aU D_nt (hm hr) (HJ (E':=fun c=>E c none H) hk) rfl (a7 (pv 2) aD))))
   (aA (cB (bK LK (bY c7 (by rfl) T.len PySem.boot_len (a7 (pv 1) aD)) aL (bU _)) (aE (dG hok PySem.F.excBase_Exception T.eT rfl)) bF)
   (aE (aT (cU (a7 (bH jD (pv 1) aL (fun _ _=>rfl)) (a7 (bH jD (pv 1) aL (fun _ _=>rfl)) aD))))))),?_⟩
 refine⟨_,rfl,a,ns,44,rfl,SqL.of ha,hl,fun p H1 sm fp ⟨xs,hp,pr⟩=>⟨p,rfl,⟨_,SqL.of hp⟩,fun D hD=>lQ (K:=K) (a:=p) (xs:=xs)
  (fun i H2=>a9 H1 H2/\∃zs,H2 D=some (.lst (zs.map V.int))/\((RM.parts 44 ns).take i).mapM RM.dH=some zs) ⟨a9.upd hD,[],a8,rfl⟩ (fun i H2 _ ⟨s2,_⟩=>s2.seq (SqL.of hp)) ?_ ?_⟩⟩
 ·rintro i x H2 hx ⟨s2,zs,h2,hz⟩;obtain⟨row,qb,tm⟩:=pairs_at pr hx;have hm:=az qb;have l1:zs.length<=4097:=by have:=RM.tF hz;have h3:=RM.pK 44 ns;rw[bz]at this;omega
  refine⟨rfl,?_⟩;refine⟨_,rfl,x,row,rfl,tm.mono s2,dj (RM.iB hm) hl,fun z Ao=>⟨_,h2,by rw[ai];exact few l1,a9.put s2 hD,zs++[z],by rw[a8,cj];rfl,RM.pN hz qb Ao⟩,fun hn=>k2 ?_⟩;unfold RM.dM;rw[RM.pO hm hn];rfl
 ·rintro H2 ⟨s2,zs,h2,hz⟩;rw[pairs_len pr,bu (ax _)]at hz;refine⟨_,rfl,D,_,rfl,.inl (SqL.of h2),rfl,_,rfl,?_⟩;have hc:RM.dM ns=NL zs:=by
   unfold RM.dM;rw[hz];match zs with
   |[]=>rfl
   |[_]=>rfl
   |[_,_]=>rfl
   |_::_::_::_=>rfl
  refine bZ (fun c=>k2 ?_) (fun c=>?_)
  ·rw[hc];match zs,c with
   |[],_=>rfl
   |[_],_=>rfl
   |[_,_],c=>simp at c
   |_::_::_::_,_=>rfl
  ·match zs,c,hc,h2 with
   |[],c,_,_=>simp at c
   |[_],c,_,_=>simp at c
   |_::_::_::_,c,_,_=>simp at c;omega
   |[x,y],_,hc,h2=>refine⟨_,rfl,D,_,_,_,rfl,rfl,SqL.of h2,aW (v:=V.int x) (by decide) rfl,_,rfl,D,_,_,_,rfl,rfl,SqL.of h2,aW (v:=V.int y) (by decide) rfl,(by show 2<=sizeLine;decide),fun t ht=>?_⟩;exact k1 (x,y) hc _ _ (a9.trans sm (a9.trans s2 (a9.upd ht))) ⟨t,rfl,a8⟩
abbrev s_wt:Stmt:=(top 32)
theorem sc_wt:aM ["row","corners","part"] ["row"] (aH s_wt):=fS
noncomputable def sp_wt(K:W.Frag)(d:Adr):Sp:=fun vs H Q E=>∃(v:V)(ns:List Int),vs=[v]/\LI H v ns/\ns.length<=4096/\(∀z,RM.iN ns=some z->∀r H',a9 H H'->H r=none->LT H' (.ref r) z->Q (.ref r) H')/\(RM.iN ns=none->E (.ref d.cF) none H)
theorem ok_wt(F:Fun K "walk_told" "walk_told" s_wt f fd)(T:Txt K mg base d)(D_pb:aS P w K mg base CX0 1 "parts_between" ["row","mark"] (sp_pb K d))(D_ct2:aS P w K mg base CXf 3 "corner_told" ["row"] (sp_ct2 K d)):bN P w K mg base CXf 4 f fd ["row"] (sp_wt K d):=by
 refine okX F sc_wt (fun vs H Q E h=>by obtain⟨v,ns,rfl,_⟩:=h;rfl) (fun _ _ _ _ H _ Q E hr hok h=>?_);have hu:=bI hr;obtain⟨v,ns,rfl,⟨a,rfl,ha⟩,hl,k1,k2⟩:=h;refine⟨_,(aA (vD hok (i:=1) (own:=[("part",2)]) rfl sc_wt.nd rfl rfl (by exact n8 rfl rfl rfl rfl) (dX (aU D_pb (hm hr) aX rfl (a7 (pv 0) (a7 (cH T.KO rfl) aD)))) (f6 (by first|decide+kernel|kernel_rfl)) (fun _ _ _ _ _=>(pgN (i:=2) sc_wt.nd)) (fun _ _ _ _ _ hk=>(aU D_ct2 (hm hr) (HJ (E':=fun c=>E c none H) hk) rfl (a7 (pv 2) aD))))
   (aA (cB (bK HN (bY c7 (by rfl) T.len PySem.boot_len (a7 (pv 1) aD)) (cH T.pX rfl) (bU _)) (aE (dG hok PySem.F.excBase_Exception T.eT rfl)) bF)
   (aE (aT (pv 1))))),?_⟩
 refine⟨_,rfl,a,ns,32,rfl,SqL.of ha,hl,fun p H1 sm fp ⟨xs,hp,pr⟩=>⟨p,rfl,⟨_,SqL.of hp⟩,fun D hD=>lQ (K:=K) (a:=p) (xs:=xs)
  (fun i H2=>a9 H1 H2/\∃ys zs,H2 D=some (.lst ys)/\Paired (T2 H2) ys zs/\((RM.parts 32 ns).take i).mapM RM.dM=some zs) ⟨a9.upd hD,[],[],a8,.nil,rfl⟩ (fun i H2 _ ⟨s2,_⟩=>s2.seq (SqL.of hp)) ?_ ?_⟩⟩
 ·rintro i x H2 hx ⟨s2,ys,zs,h2,py,hz⟩;obtain⟨row,qb,tm⟩:=pairs_at pr hx;have hm:=az qb;have l1:ys.length<=4097:=by have:=RM.tF hz;have h3:=RM.pK 32 ns;rw[bz]at this;have:=pairs_len py;omega
  refine⟨rfl,?_⟩;refine⟨_,rfl,x,row,rfl,tm.mono s2,dj (RM.iB hm) hl,fun z Ao r H3 s3 t3=>?_,fun hn=>k2 ?_⟩
  ·have h3:=s3 _ _ h2;refine⟨ys,h3,few l1,a9.put (a9.trans s2 s3) hD,ys++[r],zs++[z],a8,aZ (t3.upd h3) (aJ (fun _ _ q=>(q.mono s3).upd h3) py),RM.pN hz qb Ao⟩
  ·unfold RM.iN;rw[RM.pO hm hn];rfl
 ·rintro H2 ⟨s2,ys,zs,h2,py,hz⟩;rw[pairs_len pr,bu (ax _)]at hz;have hc:RM.iN ns=(if zs.length<4 then none else some zs):=by unfold RM.iN;rw[hz];rfl
  have ly:=pairs_len py;refine⟨_,rfl,D,_,rfl,.inl (SqL.of h2),_,_,rfl,rfl,_,rfl,?_⟩;refine bZ (fun c=>k2 ?_) (fun c=>?_)
  ·have c:=ay c;rw[hc,ag (by omega)]
  ·have c:¬zs.length<4:=fun z=>c (decide_eq_true (by omega))
   exact⟨_,rfl,k1 zs (by rw[hc,af c]) D H2 (a9.trans sm s2) (sm.free hD) ⟨D,ys,rfl,h2,py⟩⟩
abbrev s_wt2:Stmt:=(top 33)
theorem sc_wt2:aM ["t","rows","rest","row"] ["t"] (aH s_wt2):=fS
noncomputable def sp_wt2(K:W.Frag)(d:Adr):Sp:=fun vs H Q E=>∃(a:Addr)(ns:List Int),vs=[.ref a]/\SqL K H a (ns.map V.int)/\ns.length<=4096/\(∀z,RM.eQ ns=some z->∀r H',a9 H H'->LLT H' r z->Q r H')/\(RM.eQ ns=none->E (.ref d.cF) none H)
theorem ok_wt2(F:Fun K "walks_told" "walks_told" s_wt2 f fd)(T:Txt K mg base d)(D_pb:aS P w K mg base CX0 1 "parts_between" ["row","mark"] (sp_pb K d))(D_wt:aS P w K mg base CXf 4 "walk_told" ["row"] (sp_wt K d)):bN P w K mg base CXf 5 f fd ["t"] (sp_wt2 K d):=by
 refine okX F sc_wt2 (fun vs H Q E h=>by obtain⟨a,ns,rfl,_⟩:=h;rfl) (fun _ _ _ _ H _ Q E hr hok h=>?_);have hu:=bI hr;obtain⟨a,ns,rfl,hS,hl,k1,k2⟩:=h;refine⟨_,(aA (psN (i:=1) sc_wt2.nd (aU D_pb (hm hr) aX rfl (a7 (pv 0) (a7 (cH T.zO rfl) aD))))
   (aA (psN (i:=2) sc_wt2.nd (B7 PySem.F.plainAttrs_list PySem.F.slot_list_pop PySem.F.type_list_pop BG (pv 1)))
   (aA (cB (PW.pt (sU (bK nK (bY c7 (by rfl) T.len PySem.boot_len (a7 (pv 2) aD)) aL (bU _)) (pE (bK gY (bY c7 (by rfl) T.len PySem.boot_len (a7 (pv 1) aD)) aL (bU _))))) (aE (dG hok PySem.F.excBase_Exception T.eT rfl)) bF)
   (aE (aT (MC hok (own:=[("row",3)]) rfl sc_wt2.nd (dX (pv 1)) (f6 (by first|decide+kernel|kernel_rfl)) (fun _ _ _ _ _=>(pgN (i:=3) sc_wt2.nd)) (fun _ _ _ _ _ hk=>(aU D_wt (hm hr) (HJ (E':=fun c=>E c none H) hk) rfl (a7 (pv 3) aD))))))))),?_⟩
 refine⟨_,rfl,a,ns,10,rfl,hS,hl,fun p H1 sm fp ⟨xs,hp,pr⟩=>?_⟩;have lp:=RM.pK 10 ns;have lx:=pairs_len pr;have jv:RM.parts 10 ns≠[]:=RM.yN 10 ns;have l0:0<(RM.parts 10 ns).length:=gm.mpr jv;obtain⟨last,xq⟩:∃last,(RM.parts 10 ns)[(RM.parts 10 ns).length - 1]? =some last:=⟨_,bj (by omega)⟩
 obtain⟨y,hy,ly⟩:=iS pr xq;have hgl:(RM.parts 10 ns).getLast?=some last:=by rw[List.getLast?_eq_getElem?];exact xq
 obtain⟨b,rfl,nb,hb⟩:=LLI.apart hp (az hy) ly;refine⟨_,rfl,.inl ⟨rfl,_,SqL.of hp⟩,p,xs,.ref b,rfl,rfl,hp,by rw[lx];exact hy,?_⟩;have Ay:(upd H1 p (.lst xs.dropLast)) b=some (.lst (last.map V.int)):=by rw[aC nb];exact hb
 have hp2:(upd H1 p (.lst xs.dropLast)) p=some (.lst xs.dropLast):=a8;have s2:a9 H (upd H1 p (.lst xs.dropLast)):=a9.put sm fp;have pr2:Paired (LI (upd H1 p (.lst xs.dropLast))) xs.dropLast (RM.parts 10 ns).dropLast:=by refine aJ (fun v r ⟨h1,h2,h3⟩=>?_) (eY (lH pr));obtain⟨c,rfl,nc,hc⟩:=LLI.apart hp h1 h3;exact⟨c,rfl,by rw[aC nc];exact hc⟩
 have ld:xs.dropLast.length=(RM.parts 10 ns).dropLast.length:=pairs_len pr2;refine⟨_,rfl,b,_,rfl,.inl (SqL.of Ay),_,_,rfl,rfl,_,rfl,?_⟩;refine bZ (fun c=>?_) (fun c=>?_)
 ·have c:0<last.length:=by have:=ay c;rw[ai]at this;omega
  have hx:(RM.parts 10 ns).getLast?≠some []:=by rw[hgl];intro z;cases z;simp at c
  refine zA (k2 ?_);unfold RM.eQ;rw[ag (.inl hx)]
 have c:last=[]:=by
  apply fu;have:¬((0:Int)<((last.map V.int).length:Int)):=fun z=>c (decide_eq_true z)
  rw[ai]at this;omega
 refine⟨_,rfl,p,_,rfl,.inl (SqL.of hp2),rfl,_,rfl,?_⟩;refine bZ (fun c2=>k2 ?_) (fun c2=>?_)
 ·have c2:xs.dropLast.length=0:=by have:=ay c2;simpa using this
  unfold RM.eQ;rw[ag (.inr (fu (by omega)))]
 have c2:¬(RM.parts 10 ns).dropLast=[]:=fun z=>c2 (decide_eq_true (by rw[ld,z];rfl))
 have hw:RM.eQ ns=(RM.parts 10 ns).dropLast.mapM RM.iN:=by unfold RM.eQ;rw[af (by rintro(z|z);exact z (by rw[hgl,c]);exact c2 z)]
 refine⟨_,rfl,p,rfl,⟨_,SqL.of hp2⟩,fun D hD=>lQ (K:=K) (a:=p) (xs:=xs.dropLast)
  (fun i H2=>a9 (upd H1 p (.lst xs.dropLast)) H2/\∃ys zs,H2 D=some (.lst ys)/\Paired (fun v z=>∃b,v=.ref b/\b≠D/\LT H2 (.ref b) z) ys zs/\((RM.parts 10 ns).dropLast.take i).mapM RM.iN=some zs) ⟨a9.upd hD,[],[],a8,.nil,rfl⟩ (fun i H2 _ ⟨s2,_⟩=>s2.seq (SqL.of hp2)) ?_ ?_⟩
 ·rintro i x H2 hx ⟨s3,ys,zs,h2,py,hz⟩;obtain⟨row,qb,tm⟩:=pairs_at pr2 hx;have hm:=az qb;have l1:ys.length<=4097:=by
   have:=RM.tF hz;rw[bz]at this;have:=pairs_len py;have:(RM.parts 10 ns).dropLast.length<=(RM.parts 10 ns).length:=by rw[gx];omega
   omega
  refine⟨rfl,?_⟩;refine⟨_,rfl,x,row,rfl,tm.mono s3,dj (RM.iB (nR hm)) hl,fun z Ao r H3 s4 fr t3=>?_,fun hn=>k2 ?_⟩
  ·have h3:=s4 _ _ h2;have nr:r≠D:=fun z=>by rw[z,h2]at fr;cases fr
   refine⟨ys,h3,few l1,a9.put (a9.trans s3 s4) hD,ys++[.ref r],zs++[z],a8,aZ ⟨r,rfl,nr,t3.upd h3 nr⟩ (aJ (fun _ _ ⟨b,e,n,q⟩=>⟨b,e,n,(q.mono s4).upd h3 n⟩) py),RM.pN hz qb Ao⟩
  ·rw[hw];exact RM.pO hm hn
 ·rintro H2 ⟨s3,ys,zs,h2,py,hz⟩;rw[ld,bu (ax _)]at hz;exact k1 zs (by rw[hw,hz]) _ H2 (a9.trans s2 s3) ⟨D,ys,rfl,h2,aJ (fun _ _ ⟨b,e,n,q⟩=>by rw[e];exact q) py⟩
abbrev s_far:Stmt:=(top 37)
theorem sc_far:aM ["walks","feet","walk","number","corner","before","y"] ["walks"] (aH s_far):=fS
noncomputable def sp_far(K:W.Frag)(d:Adr):Sp:=fun vs H Q _=>∃(v:V)(W:List Roof.Walk),vs=[v]/\LLT H v (RM.iWs W)/\RM.t7 W/\∀a kvs H',a9 H H'->H a=none->D2 H' a kvs->(∀x y:Nat,((((x:Int),(y:Int)):PI)∈kvs.map (·.1))↔RM.dQ W x y=true)->Q (.ref a) H'
theorem ok_far(F:Fun K "feet_across_rows" "feet_across_rows" s_far f fd)(T:Txt K mg base d):bN P w K mg base CX0 1 f fd ["walks"] (sp_far K d):=by
 refine F.ok sc_far (fun vs H Q E h=>by obtain⟨v,W,rfl,_⟩:=h;rfl) (fun _ _ _ _ H _ Q E hr h=>?_);have hu:=bI hr;obtain⟨v,W,rfl,⟨a,xs,rfl,ha,pr⟩,ok,k⟩:=h;have ki:=RM.K0 ok;refine⟨_,(aA (psN (i:=1) sc_far.nd eD)
   (aA (c8 PassesOwn.never rfl (dX (pv 0)) (pgN (i:=2) sc_far.nd) (aE (c8 PassesOwn.never rfl (wV rfl T.enumerate (a7 (pv 2) aD)) (kC rfl (bW (pgN (i:=3) sc_far.nd) (bW (pgN (i:=4) sc_far.nd) gW))) (aA (psN (i:=5) sc_far.nd (bH jD (pv 2) (d8 pM (pv 3) aL) (fun _ _=>rfl)))
   (aE (cB (bK gY (bH bD (pv 4) aL (fun _ _=>rfl)) (bH bD (pv 5) aL (fun _ _=>rfl)) (bU _)) (aE (c8 PassesOwn.never rfl (ER rfl T.range (a7 (bY (FZ rfl) (by rfl) T.min (by rfl) (a7 (bH bD (pv 4) aL (fun _ _=>rfl)) (a7 (bH bD (pv 5) aL (fun _ _=>rfl)) aD))) (a7 (bY (G0 rfl) (by rfl) T.max (by rfl) (a7 (bH bD (pv 4) aL (fun _ _=>rfl)) (a7 (bH bD (pv 5) aL (fun _ _=>rfl)) aD))) aD))) (pgN (i:=6) sc_far.nd) (aE (fK hu (pv 1) (cU (a7 (bH bD (pv 4) aL (fun _ _=>rfl)) (a7 (pv 6) aD))) iR rfl)))) bF))))))
   (aE (aT (pv 1))))),?_⟩
 refine fun p hp=>?_
 have s1:a9 H (upd H p (.dT [])):=a9.upd hp;refine⟨_,rfl,a,rfl,⟨_,s1.seq (SqL.of ha)⟩,gR (K:=K) (a:=a) (xs:=xs) (fun i σ H2=>∃(kvs:List (PI×V))(v2 v3 v4 v5 v6:Option V),σ=[some (.ref a),some (.ref p),v2,v3,v4,v5,v6]/\a9 H H2/\D2 H2 p kvs/\RM.Tbl kvs (RM.jK (RM.iWs W) i))
  ⟨[],none,none,none,none,none,rfl,s1,a8,RM.Tbl.nil.iff fun q=>(RM.zP _ q).symm⟩ (fun i σ H2 _ ⟨_,_,_,_,_,_,_,s2,_⟩=>s2.seq (SqL.of ha)) ?_ ?_⟩
 ·rintro i y σ H2 hi ⟨kvs,v2,v3,v4,v5,v6,rfl,s2,hD,tb⟩;obtain⟨w,hw,b,ys,rfl,hb,vy⟩:=pairs_at pr hi;have hwm:=az hw;have lw:=pairs_len vy;refine⟨_,rfl,b,ys,rfl,s2.seq (SqL.of hb),tQ (K:=K) (a:=b) (xs:=ys) (fun k σ H3=>∃(kvs:List (PI×V))(v3 v4 v5 v6:Option V),σ=[some (.ref a),some (.ref p),some (.ref b),v3,v4,v5,v6]/\a9 H H3/\D2 H3 p kvs/\RM.Tbl kvs (RM.mE (RM.iWs W) i w k))
   ⟨kvs,v3,v4,v5,v6,rfl,s2,hD,tb.iff fun q=>(RM.C4 _ _ _ q).symm⟩ (fun i σ H2 _ ⟨_,_,_,_,_,_,s2,_⟩=>s2.seq (SqL.of hb)) ?_ ?_⟩
  ·rintro j z σ H3 Tt hj ⟨kvs,v3,v4,v5,v6,rfl,s3,hD,tb⟩ hT;obtain⟨c,hc,ca,rfl,Ax⟩:=pairs_at vy hj;have hjl:j<ys.length:=(ao.mp hj).1;have sf:RM.nF w.length j<w.length:=by unfold RM.nF;split<;>omega
   obtain⟨e,he⟩:∃e,w[RM.nF w.length j]? =some e:=⟨_,bj sf⟩
   obtain⟨ye,hye,ea,rfl,Dd⟩:=iS vy he;have s4:a9 H (upd H3 Tt (.tup [.int (j:Nat),.ref ca])):=a9.trans s3 (a9.upd hT);have o1:=ki w hwm c (az hc);have o2:=ki w hwm e (az he);have nT:p≠Tt:=aI hD hT;have kz:D2 (upd H3 Tt (.tup [.int (j:Nat),.ref ca])) p kvs:=by unfold D2;rw[aC nT];exact hD
   refine⟨Tt,_,rfl,SqT.of a8,rfl,_,_,rfl,_,_,rfl,rfl,_,rfl,_,rfl,_,_,rfl,rfl,b,_,_,_,rfl,rfl,s4.seq (SqL.of hb),JB hjl (by unfold RM.nF at hye;rw[lw];exact hye),?_⟩;generalize (upd H3 Tt (.tup [.int (j:Nat),.ref ca]))=H4 at s4 kz ⊢;refine⟨_,rfl,ca,_,_,_,rfl,rfl,SqT.of (s4 _ _ Ax),aW (by decide) rfl,_,rfl,ea,_,_,_,rfl,rfl,SqT.of (s4 _ _ Dd),aW (by decide) rfl,rfl,_,rfl,?_⟩;refine bZ (fun cq=>?_) (fun cq=>?_)
   ·have cq:c.1=e.1:=by simpa using cq
    refine⟨_,rfl,ca,_,_,_,rfl,rfl,SqT.of (s4 _ _ Ax),aW (by decide) rfl,_,rfl,ea,_,_,_,rfl,rfl,SqT.of (s4 _ _ Dd),aW (by decide) rfl,_,_,rfl,_,rfl,ca,_,_,_,rfl,rfl,SqT.of (s4 _ _ Ax),aW (by decide) rfl,_,rfl,ea,_,_,_,rfl,rfl,SqT.of (s4 _ _ Dd),aW (by decide) rfl,_,_,rfl,_,_,rfl,⟨by split<;>omega,by split<;>omega,by split<;>omega,by split<;>omega⟩,?_⟩;have emin:(if e.2<c.2 then e.2 else c.2)=min c.2 e.2:=by split<;>omega
    have emax:(if e.2>c.2 then e.2 else c.2)=max c.2 e.2:=by split<;>omega
    rw[emin,emax];refine pY (lo:=min c.2 e.2) (n:=(max c.2 e.2 - min c.2 e.2).toNat) (fun m σ H5=>∃(kvs:List (PI×V))(v6:Option V),σ=[some (.ref a),some (.ref p),some (.ref b),some (.int (j:Nat)),some (.ref ca),some (.ref ea),v6]/\a9 H H5/\D2 H5 p kvs/\RM.Tbl kvs (fun q=>RM.mE (RM.iWs W) i w j q\/(q.1=c.1/\min c.2 e.2<=q.2/\q.2<min c.2 e.2+m)))
     ⟨kvs,v6,rfl,s4,kz,tb.iff fun q=>⟨.inl,fun z=>z.elim id fun z=>by omega⟩⟩ ?_ ?_
    ·rintro m σ H5 hm ⟨kvs,v6,rfl,s5,mh,tb⟩;refine⟨_,rfl,_,rfl,ca,_,_,_,rfl,rfl,SqT.of (s5 _ _ Ax),aW (by decide) rfl,_,rfl,(by show 2<=sizeLine;decide),fun t ht=>?_⟩;have nt:p≠t:=aI mh ht;have hD6:D2 (upd H5 t (.tup [.int c.1,.int (min c.2 e.2+m)])) p kvs:=by unfold D2;rw[aC nt];exact mh
     have hl:kvs.length<=4225:=by
      rw[<- RM.L4];refine tb.len fun q z=>?_
      rcases z with z|z
      ·exact RM.FC ki hwm z
      ·exact RM.DW (by omega) (by omega) (by omega) (by omega)
     refine⟨p,_,rfl,D2.put (p:=(c.1,min c.2 e.2+m)) hD6 a8 (.bl true) (few hl),RM.dN kvs (c.1,min c.2 e.2+m) (.bl true),_,rfl,a9.put (a9.trans s5 (a9.upd ht)) hp,a8,(tb.put _ _).iff fun q=>?_⟩;constructor
     ·rintro((z|z)|z)
      ·exact .inl z
      ·exact .inr (by omega)
      ·subst z;exact .inr ⟨rfl,by simp only;omega,by simp only;omega⟩
     ·rintro(z|⟨z1,z2,z3⟩)
      ·exact .inl (.inl z)
      ·by_cases hq:q.2=min c.2 e.2+m
       ·exact .inr (Prod.ext z1 hq)
       ·exact .inl (.inr ⟨z1,z2,by omega⟩)
    ·rintro σ H5 ⟨kvs,v6,rfl,s5,mh,tb⟩;refine⟨kvs,_,_,_,_,rfl,s5,mh,tb.iff fun q=>?_⟩;rw[RM.tS];constructor
     ·rintro(z|⟨z1,z2,z3⟩)
      ·exact .inl z
      ·exact .inr ⟨c,e,hc,he,cq,z1.symm,z2,by omega⟩
     ·rintro(z|⟨c',e',h1,h2,z0,z1,z2,z3⟩)
      ·exact .inl z
      ·rw[hc]at h1;rw[he]at h2;cases h1;cases h2;exact .inr ⟨z1.symm,z2,by omega⟩
   ·have cq:¬c.1=e.1:=by simpa using cq
    refine⟨kvs,_,_,_,_,rfl,s4,kz,tb.iff fun q=>?_⟩;rw[RM.tS];constructor
    ·exact .inl
    ·rintro(z|⟨c',e',h1,h2,z0,z1,z2,z3⟩)
     ·exact z
     ·rw[hc]at h1;rw[he]at h2;cases h1;cases h2;exact absurd z0 cq
  ·rintro σ H3 ⟨kvs,v3,v4,v5,v6,rfl,s3,hD,tb⟩;refine⟨kvs,_,_,_,_,_,rfl,s3,hD,tb.iff fun q=>?_⟩;rw[lw];exact RM.FD hw q
 ·rintro σ H2 ⟨kvs,v2,v3,v4,v5,v6,rfl,s2,hD,tb⟩;refine⟨_,rfl,k p kvs H2 s2 hp hD fun x y=>?_⟩;rw[tb.2,pairs_len pr];exact RM.C3 W x y
abbrev s_cw:Stmt:=(top 38)
theorem sc_cw:aM ["walks","feet","cells","y","inside","x"] ["walks"] (aH s_cw):=fS
noncomputable def sp_cw(K:W.Frag)(d:Adr):Sp:=fun vs H Q _=>∃(v:V)(W:List Roof.Walk),vs=[v]/\LLT H v (RM.iWs W)/\RM.t7 W/\∀a H',a9 H H'->H a=none->D2 H' a (CS (RM.aQ (RM.dQ W)))->Q (.ref a) H'
theorem ok_cw(F:Fun K "cells_within" "cells_within" s_cw f fd)(T:Txt K mg base d)(D_far:aS P w K mg base CX0 1 "feet_across_rows" ["walks"] (sp_far K d)):bN P w K mg base CX0 2 f fd ["walks"] (sp_cw K d):=by
 refine F.ok sc_cw (fun vs H Q E h=>by obtain⟨v,W,rfl,_⟩:=h;rfl) (fun _ _ _ _ H _ Q E hr h=>?_);have hu:=bI hr;obtain⟨v,W,rfl,hW,ok,k⟩:=h;refine⟨_,(aA (psN (i:=1) sc_cw.nd (aU D_far (hm hr) aX rfl (a7 (pv 0) aD)))
   (aA (psN (i:=2) sc_cw.nd eD)
   (aA (c8 PassesOwn.never rfl (vE rfl T.range (a7 (cH T.iX rfl) aD)) (pgN (i:=3) sc_cw.nd) (aA (psN (i:=4) sc_cw.nd iR)
   (aE (c8 PassesOwn.never rfl (vE rfl T.range (a7 (cH T.iX rfl) aD)) (pgN (i:=5) sc_cw.nd) (aA (cB (e6 (B8 hu (cU (a7 (pv 5) (a7 (pv 3) aD))) (pv 1))) (aE (psN (i:=4) sc_cw.nd (MB (pv 4)))) bF)
   (aE (cB (j6 (pv 4) (fun _=>rfl)) (aE (fK hu (pv 2) (cU (a7 (pv 5) (a7 (pv 3) aD))) iR rfl)) bF)))))))
   (aE (aT (pv 2)))))),?_⟩
 refine⟨_,rfl,v,W,rfl,hW,ok,fun f kvs H1 s1 hf hF Bu p hp=>?_⟩;generalize hFd:RM.dQ W=F at Bu k;have s2:a9 H1 (upd H1 p (.dT [])):=a9.upd hp;refine⟨_,rfl,by decide,by decide,pY (lo:=0) (n:=64) (fun y σ H2=>∃(v3 v4 v5:Option V),σ=[some v,some (.ref f),some (.ref p),v3,v4,v5]/\a9 H1 H2/\D2 H2 p (CS (RM.iO F y)))
  ⟨none,none,none,rfl,s2,a8⟩ ?_ ?_⟩
 ·rintro y σ H2 hy ⟨v3,v4,v5,rfl,s3,hD⟩;refine⟨_,rfl,by decide,by decide,pY (lo:=0) (n:=64) (fun x σ H3=>∃(v5:Option V),σ=[some v,some (.ref f),some (.ref p),some (.int (0+(y:Nat))),some (.bl (if x=0 then false else RM.c9 F y (x - 1))),v5]/\a9 H1 H3/\D2 H3 p (CS (RM.iO F y++RM.mK F y x)))
   ⟨v5,rfl,s3,by rw[show RM.mK F y 0=[]from rfl,df];exact hD⟩ ?_ ?_⟩
  ·rintro x σ H3 hx ⟨v5,rfl,s3,hD⟩;refine⟨_,rfl,_,rfl,(by show 2<=sizeLine;decide),fun t ht=>?_⟩;have nt:p≠t:=aI hD ht;have s4:a9 H1 (upd H3 t (.tup [.int (0+(x:Nat)),.int (0+(y:Nat))])):=a9.trans s3 (a9.upd ht);have kz:D2 (upd H3 t (.tup [.int (0+(x:Nat)),.int (0+(y:Nat))])) p (CS (RM.iO F y++RM.mK F y x)):=by unfold D2;rw[aC nt];exact hD
   refine⟨_,rfl,f,_,rfl,R2.get (p:=((0+(x:Int),0+(y:Int)):PI)) (D2.rd (s4 _ _ hF)) a8,_,rfl,?_⟩;generalize (upd H3 t (.tup [.int (0+(x:Nat)),.int (0+(y:Nat))]))=H4 at s4 kz ⊢;have hk:(RM.aN kvs ((0+(x:Int),0+(y:Int)):PI)).isSome=true↔F x y=true:=by rw[RM.aV,zero_add,zero_add];exact Bu x y
   have zq:=RM.zE F y x;refine bZ (fun c=>?_) (fun c=>?_)
   ·have c:=hk.mp c;refine⟨_,rfl,_,rfl,?_⟩;have eI:(!(if x=0 then false else RM.c9 F y (x - 1)))=RM.c9 F y x:=by rw[zq,c];simp
    rw[eI];refine⟨_,rfl,_,rfl,?_⟩;refine bZ (fun ci=>?_) (fun ci=>?_)
    ·refine⟨_,rfl,_,rfl,_,rfl,(by show 2<=sizeLine;decide),fun t ht=>?_⟩;have nt:p≠t:=aI kz ht;have mh:D2 (upd H4 t (.tup [.int (0+(x:Nat)),.int (0+(y:Nat))])) p (CS (RM.iO F y++RM.mK F y x)):=by unfold D2;rw[aC nt];exact kz
     refine⟨p,_,rfl,D2.put (p:=((0+(x:Int),0+(y:Int)):PI)) mh a8 (.bl true) ?_,some (.int (0+(x:Nat))),by simp,a9.put (a9.trans s4 (a9.upd ht)) hp,?_⟩
     ·rw[qH,aj];have h1:=RM.pD F y;have h2:=RM.sN F y x;exact few (m:=5000) (by omega)
     ·unfold D2;rw[a8,zero_add,zero_add,show(((x:Int),(y:Int)):PI)=RM.iP (x,y)from rfl,E5,RM.lF,ag ci,dv];intro z;rcases aw.mp z with z|z
      ·have:=RM.v7 z;simp at this
      ·have:=RM.sM z;simp at this
    ·refine⟨some (.int (0+(x:Nat))),by simp,s4,?_⟩;rw[RM.lF,af ci];exact kz
   ·have c:F x y=false:=by
     have c:¬F x y=true:=fun z=>c (hk.mpr z)
     simpa using c
    have eI:(if x=0 then false else RM.c9 F y (x - 1))=RM.c9 F y x:=by rw[zq,c];simp
    rw[eI];refine⟨_,rfl,_,rfl,?_⟩;refine bZ (fun ci=>?_) (fun ci=>?_)
    ·refine⟨_,rfl,_,rfl,_,rfl,(by show 2<=sizeLine;decide),fun t ht=>?_⟩;have nt:p≠t:=aI kz ht;have mh:D2 (upd H4 t (.tup [.int (0+(x:Nat)),.int (0+(y:Nat))])) p (CS (RM.iO F y++RM.mK F y x)):=by unfold D2;rw[aC nt];exact kz
     refine⟨p,_,rfl,D2.put (p:=((0+(x:Int),0+(y:Int)):PI)) mh a8 (.bl true) ?_,some (.int (0+(x:Nat))),by simp,a9.put (a9.trans s4 (a9.upd ht)) hp,?_⟩
     ·rw[qH,aj];have h1:=RM.pD F y;have h2:=RM.sN F y x;exact few (m:=5000) (by omega)
     ·unfold D2;rw[a8,zero_add,zero_add,show(((x:Int),(y:Int)):PI)=RM.iP (x,y)from rfl,E5,RM.lF,ag ci,dv];intro z;rcases aw.mp z with z|z
      ·have:=RM.v7 z;simp at this
      ·have:=RM.sM z;simp at this
    ·refine⟨some (.int (0+(x:Nat))),by simp,s4,?_⟩;rw[RM.lF,af ci];exact kz
  ·rintro σ H3 ⟨v5,rfl,s3,hD⟩;refine⟨_,_,_,rfl,s3,?_⟩;rw[RM.sJ];exact hD
 ·rintro σ H2 ⟨v3,v4,v5,rfl,s3,hD⟩;exact⟨_,rfl,k p H2 (a9.trans s1 s3) (s1.free hp) hD⟩
abbrev s_miap:Stmt:=(top 40)
theorem sc_miap:aM ["cell","cells","side","near","far"] ["cell","cells"] (aH s_miap):=fS
noncomputable def sp_miap(K:W.Frag)(d:Adr):Sp:=fun vs H Q _=>∃(v:V)(p:PI)(c:Addr)(C:List (Nat×Nat)),vs=[v,.ref c]/\T2 H v p/\R2 H c (CS C)/\∀H',a9 H H'->Q (.bl (RM.bC C p 0||(RM.bC C p 1||(RM.bC C p 2||RM.bC C p 3)))) H'
theorem ok_miap(F:Fun K "meets_in_a_point" "meets_in_a_point" s_miap f fd)(T:Txt K mg base d)(D_b:aS P w K mg base CX0 2 "beyond" ["place","direction"] (sp_b K d))(D_lo:aS P w K mg base CX0 1 "left_of" ["direction"] (sp_lo K d)):bN P w K mg base CX0 3 f fd ["cell","cells"] (sp_miap K d):=by
 refine F.ok sc_miap (fun vs H Q E h=>by obtain⟨v,p,c,C,rfl,_⟩:=h;rfl) (fun _ _ _ _ H _ Q E hr h=>?_);have hu:=bI hr;obtain⟨aALL_SIDES,bB,c_ALL_SIDES⟩:=T.bB;obtain⟨v,p,c,C,rfl,hv,hC,k⟩:=h;have yes:∀i,i<4->RM.bC C p i=true->(RM.bC C p 0||(RM.bC C p 1||(RM.bC C p 2||RM.bC C p 3)))=true:=by
  intro i hi e;have cs:i=0\/i=1\/i=2\/i=3:=by omega
  rcases cs with rfl|rfl|rfl|rfl<;>simp[e]
 refine⟨_,(aA (c8 PassesOwn.never rfl (j7 (eX bB rfl)) (pgN (i:=2) sc_miap.nd) (aA (psN (i:=3) sc_miap.nd (aU D_b (hm hr) aX rfl (a7 (pv 0) (a7 (pv 2) aD))))
   (aA (psN (i:=4) sc_miap.nd (aU D_b (hm hr) aX rfl (a7 (pv 0) (a7 (aU D_lo (hm hr) aX rfl (a7 (pv 2) aD)) aD))))
   (aE (cB (PW.pt (pG (e6 (cW hu (pv 3) (pv 1))) (pG (e6 (cW hu (pv 4) (pv 1))) (nE (e6 (B8 hu (aU D_b (hm hr) aX rfl (a7 (pv 3) (a7 (aU D_lo (hm hr) aX rfl (a7 (pv 2) aD)) aD))) (pv 1))))))) (aE (aT iR)) bF)))))
   (aE (aT iR))),?_⟩
 refine⟨_,rfl,⟨_,c_ALL_SIDES _⟩,jJ (K:=K) (a:=aALL_SIDES) (xs:=[.int 0,.int 1,.int 2,.int 3]) (fun i σ H2=>∃(v2 v3 v4:Option V),σ=[some v,some (.ref c),v2,v3,v4]/\a9 H H2/\∀j,j<i->RM.bC C p j=false)
  ⟨none,none,none,rfl,(a9.refl _),by intro j hj;omega⟩ (fun i σ H2 _ _=>c_ALL_SIDES H2) ?_ ?_⟩
 ·rintro i x σ H2 hx ⟨v2,v3,v4,rfl,s2,old⟩;obtain⟨hi,rfl⟩:=j4 hx;have Bm:RM.bC C p i=false->∀j,j<i+1->RM.bC C p j=false:=fun e j hj=>by
   by_cases h:j=i
   ·rw[h];exact e
   ·exact old j (by omega)
  refine⟨_,rfl,_,rfl,v,p,i,rfl,(hv.mono s2).c,hi,fun n H3 s3 t3=>?_⟩;refine⟨_,rfl,_,rfl,_,rfl,v,p,(i+1)%4,by simp,(hv.mono (a9.trans s2 s3)).c,by omega,fun f H4 s4 t4=>?_⟩;have ym:a9 H H4:=a9.trans s2 (a9.trans s3 s4);obtain⟨na,rfl,ny⟩:=t3.mono s4;obtain⟨fa,rfl,Av⟩:=t4;refine⟨_,rfl,_,rfl,c,_,rfl,R2.get (p:=RM.aK p i) (hC.mono ym) ny,_,rfl,?_⟩;rw[AG];refine bZ (fun c1=>?_) (fun c1=>IK ?_)
  ·refine⟨_,rfl,_,rfl,c,_,rfl,R2.get (p:=RM.aK p ((i+1)%4)) (hC.mono ym) Av,_,rfl,?_⟩;rw[AG];refine bZ (fun c2=>?_) (fun c2=>IK ?_)
   ·refine⟨_,rfl,_,rfl,_,rfl,.ref na,RM.aK p i,(i+1)%4,by simp,T2.c ⟨na,rfl,ny⟩,by omega,fun g H5 s5 t5=>?_⟩;obtain⟨ga,rfl,hga⟩:=t5;refine⟨_,rfl,c,_,rfl,R2.get (p:=RM.aK (RM.aK p i) ((i+1)%4)) (hC.mono (a9.trans ym s5)) hga,_,rfl,?_⟩;rw[AG];refine bZ (fun c3=>?_) (fun c3=>?_)
    ·have e:RM.bC C p i=true:=by unfold RM.bC;rw[c1,c2,c3];rfl
     have h:=k H5 (a9.trans ym s5);rw[yes i hi e]at h;exact h
    ·exact⟨_,_,_,rfl,a9.trans ym s5,Bm (by unfold RM.bC;rw[not_true c3];simp)⟩
   ·exact⟨_,_,_,rfl,ym,Bm (by unfold RM.bC;rw[not_true c2];simp)⟩
  ·exact⟨_,_,_,rfl,ym,Bm (by unfold RM.bC;rw[not_true c1];simp)⟩
 ·rintro σ H2 ⟨v2,v3,v4,rfl,s2,old⟩;have h:=k H2 s2;rw[old 0 (by decide),old 1 (by decide),old 2 (by decide),old 3 (by decide)]at h;exact h
abbrev s_ij:Stmt:=(top 39)
theorem sc_ij:aM ["cells","waiting","reached","cell","side"] ["cells"] (aH s_ij):=fS
noncomputable def sp_ij(K:W.Frag)(d:Adr):Sp:=fun vs H Q _=>∃(c:Addr)(C:List (Nat×Nat))(c0:Nat×Nat)(r:List (Nat×Nat)),vs=[.ref c]/\R2 H c (CS C)/\C=c0::r/\C.Nodup/\C.length<=256/\∀H',a9 H H'->Q (.bl ((Roof.reach C C.length [c0] [c0]).length==C.length)) H'
theorem ok_ij(F:Fun K "is_joined" "is_joined" s_ij f fd)(T:Txt K mg base d)(D_b:aS P w K mg base CX0 2 "beyond" ["place","direction"] (sp_b K d)):bN P w K mg base CX0 3 f fd ["cells"] (sp_ij K d):=by
 refine F.ok sc_ij (fun vs H Q E h=>by obtain⟨c,C,c0,r,rfl,_⟩:=h;rfl) (fun _ _ _ _ H _ Q E hr h=>?_);have hu:=bI hr;obtain⟨aALL_SIDES,bB,c_ALL_SIDES⟩:=T.bB;obtain⟨c,C,c0,r,rfl,hC,eC,nd,hl,k⟩:=h;have hc0:c0∈C:=by rw[eC];exact bh
 have cl:(CS C).length=C.length:=qH C;refine⟨_,(aA (psN (i:=1) sc_ij.nd (HE JQ (pJ (CG rfl) (by rfl) T.list (by rfl) (a7 (pv 0) aD)) JU (JT aL)))
   (aA (psN (i:=2) sc_ij.nd eD)
   (aA (iQ PassesOwn.never (sW (pv 1) (fun _=>rfl)) (aA (psN (i:=3) sc_ij.nd (B7 PySem.F.plainAttrs_list PySem.F.slot_list_pop PySem.F.type_list_pop BG (pv 1)))
   (aE (cB (PW.pt (pG (e6 (B8 hu (pv 3) (pv 0))) (nE (e6 (cW hu (pv 3) (pv 2)))))) (aA (fK hu (pv 2) (pv 3) iR rfl)
   (aE (c8 PassesOwn.never rfl (j7 (eX bB rfl)) (pgN (i:=4) sc_ij.nd) (aE (d6 (gX PySem.F.plainAttrs_list PySem.F.slot_list_append PySem.F.type_list_append cC (pv 1) (a7 (aU D_b (hm hr) aX rfl (a7 (pv 3) (a7 (pv 4) aD))) aD))))))) bF))))
   (aE (aT (wW gY (bY lY (by rfl) T.len PySem.boot_len (a7 (pv 2) aD)) (bY lY (by rfl) T.len PySem.boot_len (a7 (pv 0) aD)) (bU _))))))),?_⟩
 refine⟨_,rfl,c,_,rfl,hC,fun l qs rh hk=>⟨_,rfl,l,qs,rfl,SqL.of a8,fun p hp=>?_⟩⟩;have hk:=z8 hk;obtain⟨q0,qr,rfl,t0⟩:∃q0 qr,qs=q0::qr/\T2 H q0 (RM.iP c0):=by
  rw[m4,eC,bp]at hk;cases hk with
  |cons t0 _=>exact⟨_,_,rfl,t0⟩
 rw[FT];have s1:a9 H (upd H l (.lst (q0::qr))):=a9.upd rh;have s2:a9 H (upd (upd H l (.lst (q0::qr))) p (.lst ((q0::qr).take 1))):=a9.trans s1 (a9.upd hp);have hp2:(upd (upd H l (.lst (q0::qr))) p (.lst ((q0::qr).take 1))) p=some (.lst [q0]):=a8;have fp:H p=none:=s1.free hp;generalize (upd (upd H l (.lst (q0::qr))) p (.lst ((q0::qr).take 1)))=H1 at s2 hp2 ⊢;refine fun rd zg=>?_
 have npr:p≠rd:=aI hp2 zg;have frd:H rd=none:=s2.free zg;dsimp only[hO,AW];refine iM (fun σ H2=>∃(xs:List V)(ws:List PI)(kvs:List (PI×V))(v3 v4:Option V),σ=[some (.ref c),some (.ref p),some (.ref rd),v3,v4]/\a9 H H2/\H2 p=some (.lst xs)/\Paired (T2 H2) xs ws/\D2 H2 rd kvs/\RM.Dfs C c0 (kvs.map (·.1)) ws/\xs.length<=1+4*kvs.length)
  (fun _ H2=>nS H2 p+5*(C.length+1 - m5 H2 rd))
  ⟨[q0],[RM.iP c0],[],none,none,rfl,a9.trans s2 (a9.upd zg),by rw[aC npr];exact hp2,.cons (t0.mono (a9.trans s2 (a9.upd zg))) .nil,a8,RM.Dfs.first,by simp⟩ ?_ (fun _ _ _ _ f ⟨v,e,k,t,q⟩=>⟨v,e,k,t,f _ _ q⟩)
 rintro σ H2 ⟨xs,ws,kvs,v3,v4,rfl,s3,h1,pr,hD,dfs,len⟩;have hlr:=dfs.len;rw[ai]at hlr;refine⟨_,rfl,_,.inl ⟨_,SqL.of h1,rfl⟩,?_⟩;refine bZ (fun cq=>?_) (fun cq=>?_)
 ·have jv:xs≠[]:=by intro z;rw[z]at cq;cases cq
  have hpos:0<xs.length:=gm.mpr jv;obtain⟨y,hy⟩:∃y,xs[xs.length - 1]? =some y:=⟨_,bj (by omega)⟩
  obtain⟨q,hq,ty⟩:=pairs_at pr hy;have lxw:=pairs_len pr;have ews:ws=ws.dropLast++[q]:=by
   have:ws≠[]:=by intro z;rw[z]at hq;cases hq
   have e:=(jb this).symm;rw[List.getLast_eq_getElem]at e;have e2:ws[ws.length - 1]'(by omega)=q:=by have:=(ao.mp (by rw[<- lxw];exact hq:ws[ws.length - 1]? =some q)).2;exact this
   rw[e2]at e;exact e
  refine⟨_,rfl,.inl ⟨rfl,_,SqL.of h1⟩,p,xs,y,rfl,rfl,h1,hy,?_⟩;have s4:a9 H (upd H2 p (.lst xs.dropLast)):=a9.put s3 fp;have vz:Paired (T2 (upd H2 p (.lst xs.dropLast))) xs.dropLast ws.dropLast:=aJ (fun _ _ z=>z.upd h1) (eY pr);have kz:D2 (upd H2 p (.lst xs.dropLast)) rd kvs:=by unfold D2;rw[aC npr.symm];exact hD
  have Bf:T2 (upd H2 p (.lst xs.dropLast)) y q:=ty.upd h1;have h14:(upd H2 p (.lst xs.dropLast)) p=some (.lst xs.dropLast):=a8;have ml:nS H2 p=xs.length:=lO h1;have mt:m5 H2 rd=kvs.length:=yZ hD;generalize (upd H2 p (.lst xs.dropLast))=H4 at s4 vz kz Bf h14 ⊢;rw[ews]at dfs;obtain⟨ya,rfl,ud⟩:=Bf;have ld:xs.dropLast.length=xs.length - 1:=gx ..;have skip:(q∉RM.iW C\/q∈kvs.map (·.1))->∃(qt:List V)(ws:List PI)(yx:List (PI×V))(v3 v4':Option V),([some (.ref c),some (.ref p),some (.ref rd),some (.ref ya),v4]:List (Option V))=[some (.ref c),some (.ref p),some (.ref rd),v3,v4']/\a9 H H4/\H4 p=some (.lst qt)/\Paired (T2 H4) qt ws/\D2 H4 rd yx/\RM.Dfs C c0 (yx.map (·.1)) ws/\qt.length<=1+4*yx.length:=
   fun z=>⟨xs.dropLast,ws.dropLast,kvs,some (.ref ya),v4,rfl,s4,h14,vz,kz,dfs.skip hc0 z,by omega⟩
  have less:nS H4 p+5*(C.length+1 - m5 H4 rd)<nS H2 p+5*(C.length+1 - m5 H2 rd):=by rw[ml,mt,lO h14,yZ kz,ld];omega
  refine⟨_,rfl,_,rfl,c,_,rfl,R2.get (p:=q) (hC.mono s4) ud,_,rfl,?_⟩;rw[AG];refine bZ (fun c1=>?_) (fun c1=>IK ⟨skip (.inl (by simpa using c1)),less⟩);have c1:q∈RM.iW C:=by simpa using c1
  refine⟨_,rfl,_,rfl,rd,_,rfl,R2.get (p:=q) kz.rd ud,_,rfl,?_⟩;refine bZ (fun c2=>?_) (fun c2=>?_)
  ·have c2:q∉kvs.map (·.1):=fun z=>by rw[(RM.aV q kvs).mpr z]at c2;cases c2
   refine⟨_,rfl,_,rfl,rd,_,rfl,D2.put kz ud (.bl true) (few (m:=256) (by omega)),?_⟩;rw[RM.fV _ c2];have hd5:=dfs.take c1 c2;have xb:H4 rd=some (.dT (kvF k2 kvs)):=kz;refine⟨_,rfl,⟨_,c_ALL_SIDES _⟩,jJ (K:=K) (a:=aALL_SIDES) (xs:=[.int 0,.int 1,.int 2,.int 3]) (fun i σ H2=>∃(qt:List V)(v4:Option V),σ=[some (.ref c),some (.ref p),some (.ref rd),some (.ref ya),v4]/\a9 H H2/\H2 p=some (.lst qt)/\Paired (T2 H2) qt (ws.dropLast++([RM.aK q 0,RM.aK q 1,RM.aK q 2,RM.aK q 3].take i))/\D2 H2 rd (kvs++[(q,V.bl true)])/\T2 H2 (.ref ya) q)
    ⟨xs.dropLast,v4,rfl,a9.put s4 frd,by rw[aC npr];exact h14,by rw[take_zero,df];exact aJ (fun _ _ z=>z.rF xb (by intro _ z;cases z)) vz,a8,T2.rF ⟨ya,rfl,ud⟩ xb (by intro _ z;cases z)⟩ (fun i σ H2 _ _=>c_ALL_SIDES H2) ?_ ?_⟩
   ·rintro i x σ H5 hx ⟨qt,v4,rfl,s5,h5,xi,mh,t5⟩;obtain⟨hi,rfl⟩:=j4 hx;have l5:=pairs_len xi;rw[aj,bz,gx]at l5;refine⟨_,rfl,.inl ⟨rfl,_,SqL.of h5⟩,_,rfl,_,rfl,.ref ya,q,i,rfl,t5.c,hi,fun n H6 s6 t6=>?_⟩;have h6:=s6 _ _ h5;refine⟨p,qt,n,rfl,rfl,h6,few (m:=2000) (by omega),qt++[n],_,rfl,a9.put (a9.trans s5 s6) fp,a8,?_,by unfold D2;rw[aC npr.symm];exact s6 _ _ mh,(t5.mono s6).upd h6⟩;have e4:[RM.aK q 0,RM.aK q 1,RM.aK q 2,RM.aK q 3].take (i+1)=[RM.aK q 0,RM.aK q 1,RM.aK q 2,RM.aK q 3].take i++[RM.aK q i]:=by
     have cs:i=0\/i=1\/i=2\/i=3:=by omega
     rcases cs with rfl|rfl|rfl|rfl<;>rfl
    rw[e4,<- dv];exact aZ (t6.upd h6) (aJ (fun _ _ z=>(z.mono s6).upd h6) xi)
   ·rintro σ H5 ⟨qt,v4,rfl,s5,h5,xi,mh,t5⟩;have l5:=pairs_len xi;rw[aj,bz,gx]at l5;have l6:([RM.aK q 0,RM.aK q 1,RM.aK q 2,RM.aK q 3].length)=4:=rfl;have l7:([V.int 0,V.int 1,V.int 2,V.int 3].length)=4:=rfl;have Cu:=hd5.len;rw[aj,ai]at Cu;simp only[br,fh]at Cu l5;refine⟨⟨qt,_,kvs++[(q,V.bl true)],_,_,rfl,s5,h5,xi,mh,by rw[cj];exact hd5,by rw[aj];simp only[br,fh];omega⟩,?_⟩;rw[ml,mt,lO h5,yZ mh,aj];simp only[br,fh];omega
  ·have c2:q∈kvs.map (·.1):=by
    refine(RM.aV q kvs).mp ?_;cases e:(RM.aN kvs q).isSome with
    |true=>rfl
    |false=>rw[e]at c2;exact absurd rfl c2
   exact⟨skip (.inr c2),less⟩
 ·have e:xs=[]:=by
   cases xs with
   |nil=>rfl
   |cons _ _=>exact absurd rfl cq
  subst e;cases pr;refine⟨_,rfl,rd,_,rfl,hD.rd,_,rfl,c,_,rfl,hC.mono s3,rfl,?_⟩;have h:=k H2 s3;have e2:=dfs.done nd hc0;rw[ai]at e2;rw[<- e2]at h;refine cast (congrArg (fun b=>Q (V.bl b) H2) ?_) h;rw[fE,fE,cl,di,decide_eq_true_iff,decide_eq_true_iff];constructor
  ·intro z;rw[z]
  ·intro z;have:=V.int.inj z;omega
abbrev s_ih:Stmt:=(top 41)
theorem sc_ih:aM ["cells","cell"] ["cells"] (aH s_ih):=fS
theorem FY(F:Nat->Nat->Bool):(RM.aQ F).length<=4096:=by have:=RM.pD F 64;rw[RM.EK]at this;omega
theorem rA(F:Nat->Nat->Bool):(RM.aQ F).Nodup:=(RM.mG F).imp fun{a b} h e=>by rw[e,RM.d3]at h;omega
noncomputable def sp_ih(K:W.Frag)(d:Adr):Sp:=fun vs H Q _=>∃(c:Addr)(F:Nat->Nat->Bool),vs=[.ref c]/\D2 H c (CS (RM.aQ F))/\∀H',a9 H H'->Q (.bl (Roof.isHouse (RM.aQ F))) H'
theorem ok_ih(F:Fun K "is_house" "is_house" s_ih f fd)(T:Txt K mg base d)(D_miap:aS P w K mg base CX0 3 "meets_in_a_point" ["cell","cells"] (sp_miap K d))(D_ij:aS P w K mg base CX0 3 "is_joined" ["cells"] (sp_ij K d)):bN P w K mg base CX0 4 f fd ["cells"] (sp_ih K d):=by
 refine F.ok sc_ih (fun vs H Q E h=>by obtain⟨c,F,rfl,_⟩:=h;rfl) (fun _ _ _ _ H _ Q E hr h=>?_);have hu:=bI hr;obtain⟨c,F,rfl,hC,k⟩:=h;have kc:=FY F;have qy:=rA F;have Ci:=RM.B5 (l:=RM.aQ F);have ve:=@RM.tL F;generalize RM.aQ F=C at*;have ekl:(kvF k2 (CS C)).length=C.length:=by rw[fE,qH]
 refine⟨_,(aA (cB (PW.pt (sU (bK HN (bY lY (by rfl) T.len PySem.boot_len (a7 (pv 0) aD)) aL (bU _)) (pE (bK nK (bY lY (by rfl) T.len PySem.boot_len (a7 (pv 0) aD)) (cH T.xH rfl) (bU _))))) (aE (aT iR)) bF)
   (aA (cB (j6 (bY (ND rfl) (by rfl) T.any (by rfl) (a7 (JX (HG (own:=[("cell",1)]) rfl sc_ih.nd (nG (pv 0)) (f6 (by first|decide+kernel|kernel_rfl)) (fun _ _ _ _ _=>(pgN (i:=1) sc_ih.nd)) (fun _ _ _ _ _=>rL) (fun _ _ _ _ _=>(aU D_miap (hm hr) aX rfl (a7 (pv 1) (a7 (pv 0) aD)))))) aD)) (fun _=>rfl)) (aE (aT iR)) bF)
   (aE (aT (aU D_ij (hm hr) aX rfl (a7 (pv 0) aD)))))),?_⟩
 refine⟨_,rfl,c,_,rfl,hC.rd,_,_,rfl,rfl,_,rfl,?_⟩;rw[ekl];refine bZ (fun c1=>zA ?_) (fun c1=>?_)
 ·have c1:C=[]:=fu (by have:=ay c1;omega);have h:=k H (a9.refl _);rw[c1,RM.zB]at h;exact h
 have c1:¬C.length<1:=fun z=>c1 (decide_eq_true (by omega))
 obtain⟨c0,r,eC⟩:∃c0 r,C=c0::r:=by
  cases C with
  |nil=>simp at c1
  |cons c0 r=>exact⟨c0,r,rfl⟩
 have ve:=ve eC;refine⟨_,rfl,c,_,rfl,hC.rd,_,_,rfl,rfl,_,rfl,?_⟩;rw[ekl];refine bZ (fun c2=>?_) (fun c2=>?_)
 ·have c2:256<C.length:=by have:=ay c2;omega
  have h:=k H (a9.refl _);rw[ve,decide_eq_false (by omega)]at h;exact h
 have c2:C.length<=256:=by apply Nat.le_of_not_lt;intro z;exact c2 (decide_eq_true (by omega))
 refine⟨c,_,hC,trivial,fun od=>⟨_,rfl,c,od,rfl,.inr ⟨_,a8,fun D hD=>K9 (d:=c) (od:=od) (kvs:=kvF k2 (CS C))
  (fun i H2=>a9 (upd H c (.frz od (.dT (kvF k2 (CS C))))) H2/\H2 D=some (.lst ((((RM.iW C).take i).map fun p=>RM.bC C p 0||(RM.bC C p 1||(RM.bC C p 2||RM.bC C p 3))).map V.bl))) ⟨a9.upd hD,a8⟩ (fun i H2 ⟨s2,_⟩=>s2 _ _ a8) ?_ ?_⟩⟩⟩
 ·rintro i kk vv q H2 hi hq ⟨s2,h2⟩;obtain⟨p,hp,rfl⟩:=tI hi;have hp2:(RM.iW C)[i]? =some p:=by have:=congrArg (Option.map Prod.fst) hp;rw[<- bc,m4]at this;exact this
  have rj:i<C.length:=by have:=(ao.mp hp2).1;simpa[RM.iW]using this
  refine⟨rfl,_,rfl,_,rfl,.ref q,p,c,C,rfl,⟨q,rfl,hq⟩,.inr ⟨od,s2 _ _ a8⟩,fun H3 s3=>⟨_,s3 _ _ h2,?_,a9.put (a9.trans s2 s3) hD,?_⟩⟩
  ·rw[ai,ai,bz];exact few (m:=256) (by omega)
  ·rw[a8,RM.take_snoc hp2];simp
 ·rintro H2 ⟨s2,h2⟩;have nD:D≠c:=(aI (H:=upd H c (.frz od (.dT (kvF k2 (CS C))))) a8 hD).symm;refine⟨s2 _ _ a8,D,_,rfl,SqL.of (by rw[aC nD];exact h2),_,rfl,?_⟩;have s3:a9 H (upd H2 c (.dT (kvF k2 (CS C)))):=a9.unlock hC s2;have el:(kvF k2 (CS C)).length=(RM.iW C).length:=by rw[ekl];simp[RM.iW]
  rw[el,bu (ax _)];have ea:(((RM.iW C).map fun p=>RM.bC C p 0||(RM.bC C p 1||(RM.bC C p 2||RM.bC C p 3))).any id)=Roof.pinched C:=by rw[Ci,any_map];rfl
  rw[ea];refine bZ (fun c3=>?_) (fun c3=>?_)
  ·have h:=k _ s3;rw[ve,c3]at h;simp at h;exact h
  ·refine⟨_,rfl,c,C,c0,r,rfl,.inl a8,eC,qy,c2,fun H3 s4=>?_⟩;have h:=k _ (a9.trans s3 s4);rw[ve,not_true c3,decide_eq_true c2]at h;simpa using h
abbrev s_haw:Stmt:=(top 42)
theorem sc_haw:aM ["cells","headings","cell","side"] ["cells"] (aH s_haw):=fS
noncomputable def sp_haw(K:W.Frag)(d:Adr):Sp:=fun vs H Q _=>∃(c:Addr)(C:List (Nat×Nat)),vs=[.ref c]/\D2 H c (CS C)/\C.length<=256/\∀h H',a9 H H'->H h=none->D2 H' h (IV (RM.cV (RM.iW C)))->Q (.ref h) H'
theorem ok_haw(F:Fun K "headings_along_walls" "headings_along_walls" s_haw f fd)(T:Txt K mg base d)(D_b:aS P w K mg base CX0 2 "beyond" ["place","direction"] (sp_b K d))(D_ss:aS P w K mg base CX0 2 "side_start" ["square","side"] (sp_ss K d))(D_lo:aS P w K mg base CX0 1 "left_of" ["direction"] (sp_lo K d)):bN P w K mg base CX0 3 f fd ["cells"] (sp_haw K d):=by
 refine F.ok sc_haw (fun vs H Q E h=>by obtain⟨c,C,rfl,_⟩:=h;rfl) (fun _ _ _ _ H _ Q E hr h=>?_);have hu:=bI hr;obtain⟨aALL_SIDES,bB,c_ALL_SIDES⟩:=T.bB;obtain⟨c,C,rfl,hC,hl,k⟩:=h;refine⟨_,(aA (psN (i:=1) sc_haw.nd eD)
   (aA (lG (c8 PassesOwn.never rfl (nG (pv 0)) (pgN (i:=2) sc_haw.nd) (aE (c8 PassesOwn.never rfl (j7 (eX bB rfl)) (pgN (i:=3) sc_haw.nd) (aE (cB (e6 (cW hu (aU D_b (hm hr) aX rfl (a7 (pv 2) (a7 (pv 3) aD))) (pv 0))) (aE (fK hu (pv 1) (aU D_ss (hm hr) aX rfl (a7 (pv 2) (a7 (pv 3) aD))) (aU D_lo (hm hr) aX rfl (a7 (pv 3) aD)) rfl)) bF))))))
   (aE (aT (pv 1))))),?_⟩
 refine fun h hh=>?_
 have nc:c≠h:=aI hC hh;have lj:∀od,(upd H c (.frz od (.dT (kvF k2 (CS C))))) h=none:=fun od=>gI hC hh
 refine⟨c,.dT (kvF k2 (CS C)),by rw[aC nc];exact hC,trivial,fun od=>⟨_,rfl,c,od,rfl,.inr ⟨_,a8,oB (d:=c) (od:=od) (kvs:=kvF k2 (CS C))
  (fun i σ H2=>∃(v2 v3:Option V),σ=[some (.ref c),some (.ref h),v2,v3]/\a9 (upd H c (.frz od (.dT (kvF k2 (CS C))))) H2/\D2 H2 h (IV (RM.cT [] (RM.dJ (RM.iW C) i))))
  ⟨none,none,rfl,a9.both (a9.upd hh),by unfold D2;rw[aC nc.symm,a8];rfl⟩ (fun i σ H2 ⟨_,_,_,s2,_⟩=>s2 _ _ a8) ?_ ?_⟩⟩⟩
 ·rintro i kk vv q σ H2 hi hq ⟨v2,v3,rfl,s2,hD⟩;obtain⟨p,hp,rfl⟩:=tI hi;have hp2:(RM.iW C)[i]? =some p:=by have:=congrArg (Option.map Prod.fst) hp;rw[<- bc,m4]at this;exact this
  have rj:i<C.length:=by have:=(ao.mp hp2).1;simpa[RM.iW]using this
  refine⟨_,rfl,⟨_,c_ALL_SIDES _⟩,jJ (K:=K) (a:=aALL_SIDES) (xs:=[.int 0,.int 1,.int 2,.int 3]) (fun j σ H3=>∃(v3:Option V),σ=[some (.ref c),some (.ref h),some (.ref q),v3]/\a9 (upd H c (.frz od (.dT (kvF k2 (CS C))))) H3/\T2 H3 (.ref q) p/\D2 H3 h (IV (RM.cT [] (RM.dJ (RM.iW C) i++RM.cZ (RM.iW C) p j))))
   ⟨v3,rfl,s2,⟨q,rfl,hq⟩,by rw[show RM.cZ (RM.iW C) p 0=[]from rfl,df];exact hD⟩ (fun i σ H2 _ _=>c_ALL_SIDES H2) ?_ ?_⟩
  ·rintro j x σ H3 hx ⟨v3,rfl,s3,tq,hD⟩;obtain⟨hj,rfl⟩:=j4 hx;refine⟨_,rfl,_,rfl,.ref q,p,j,rfl,tq.c,hj,fun n H4 s4 t4=>?_⟩;obtain⟨na,rfl,ny⟩:=t4;refine⟨_,rfl,c,_,rfl,R2.get (kvs:=CS C) (p:=RM.aK p j) (.inr ⟨od,(a9.trans s3 s4) _ _ a8⟩) ny,_,rfl,?_⟩;rw[AG];have zq:=RM.rJ (RM.iW C) p hj;refine bZ (fun c1=>?_) (fun c1=>?_)
   ·have c1:¬RM.aK p j∈RM.iW C:=by simpa using c1
    rw[af c1]at zq;refine⟨_,rfl,_,rfl,_,rfl,_,rfl,_,rfl,.ref q,p,j,rfl,(tq.mono s4).c,hj,fun n H5 s5 t5=>?_⟩;obtain⟨ma,rfl,hma⟩:=t5;have mh:D2 H5 h (IV (RM.cT [] (RM.dJ (RM.iW C) i++RM.cZ (RM.iW C) p j))):=s5 _ _ (s4 _ _ hD);refine⟨h,_,rfl,D2.put mh hma _ ?_,_,rfl,a9.put (a9.trans s3 (a9.trans s4 s5)) (lj od),T2.rF (tq.mono (a9.trans s4 s5)) mh (by intro _ z;cases z),?_⟩
    ·rw[fJ];have h1:=RM.gE (RM.dJ (RM.iW C) i++RM.cZ (RM.iW C) p j) [];have h2:=RM.zI (RM.iW C) i;have h3:=RM.kU (RM.iW C) p j;rw[aj]at h1;simp only[fh]at h1;exact few (m:=2000) (by omega)
    ·unfold D2;rw[a8,qG,zq,<- dv,RM.u6];rfl
   ·have c1:RM.aK p j∈RM.iW C:=by simpa using c1
    rw[ag c1,df]at zq;exact⟨_,rfl,a9.trans s3 s4,tq.mono s4,by rw[zq];exact s4 _ _ hD⟩
  ·rintro σ H3 ⟨v3,rfl,s3,tq,hD⟩;refine⟨_,_,rfl,s3,?_⟩;rw[RM.nV hp2];exact hD
 ·rintro σ H2 ⟨v2,v3,rfl,s2,hD⟩;have el:(kvF k2 (CS C)).length=(RM.iW C).length:=by rw[fE,qH];simp[RM.iW]
  rw[el,RM.zJ]at hD;exact⟨s2 _ _ a8,_,rfl,k h _ (a9.unlock hC s2) hh (by unfold D2;rw[aC nc.symm];exact hD)⟩
abbrev s_wf:Stmt:=(top 43)
theorem sc_wf:aM ["start","headings","walked","corners","point","came","heading"] ["start","headings","walked"] (aH s_wf):=fS
noncomputable def sp_wf(K:W.Frag)(d:Adr):Sp:=fun vs H Q _=>∃(v:V)(hA wA:Addr)(hs:List (PI×Int))(wk:List PI)(s0:PI)(f:List (PI×Int)),vs=[v,.ref hA,.ref wA]/\T2 H v s0/\R2 H hA (IV hs)/\D2 H wA (KS wk)/\hA≠wA/\RM.mH (RM.aN hs) s0 f s0/\f≠[]/\(f.map (·.1)).Nodup/\(∀y∈f.map (·.1),y∉wk)/\wk.length+f.length<=5000/\∀r H',But wA H H'->H r=none->LT H' (.ref r) (RM.bP none f)->D2 H' wA (KS (wk++f.map (·.1)))->Q (.ref r) H'
theorem ok_wf(F:Fun K "walk_from" "walk_from" s_wf f fd)(T:Txt K mg base d)(D_b:aS P w K mg base CX0 2 "beyond" ["place","direction"] (sp_b K d)):bN P w K mg base CX0 3 f fd ["start","headings","walked"] (sp_wf K d):=by
 refine F.ok sc_wf (fun vs H Q E h=>by obtain⟨v,hA,wA,hs,wk,s0,f,rfl,_⟩:=h;rfl) (fun _ _ _ _ H _ Q E hr h=>?_);have hu:=bI hr;obtain⟨v,hA,wA,hs,wk,s0,f,rfl,tv,hH,hW,nHW,Bk,fne,fnd,fnew,Ds,k⟩:=h;have hHb:∀H',But wA H H'->R2 H' hA (IV hs):=fun H' e=>by
  rcases hH with h|⟨o,h⟩
  ·exact .inl (e _ _ nHW h)
  ·exact .inr ⟨o,e _ _ nHW h⟩
 refine⟨_,(aA (psN (i:=3) sc_wf.nd (fB aD))
   (aA (psN (i:=4) sc_wf.nd (pv 0))
   (aA (psN (i:=5) sc_wf.nd HF)
   (aA (iQ PassesOwn.never (e6 (cW hu (pv 4) (pv 2))) (aA (fK hu (pv 2) (pv 4) iR rfl)
   (aA (psN (i:=6) sc_wf.nd (fL hu (pv 1) (pv 4) (fun _ _=>rfl)))
   (aA (cB (bK LK (pv 6) (pv 5) (bU _)) (aE (d6 (gX PySem.F.plainAttrs_list PySem.F.slot_list_append PySem.F.type_list_append cC (pv 3) (a7 (pv 4) aD)))) bF)
   (aA (psN (i:=5) sc_wf.nd (pv 6))
   (aE (psN (i:=4) sc_wf.nd (aU D_b (hm hr) aX rfl (a7 (pv 4) (a7 (pv 6) aD))))))))))
   (aE (aT (pv 3))))))),?_⟩
 refine⟨cv _,fun r rf=>⟨_,rfl,?_⟩⟩;have wa:r≠wA:=(aI hW rf).symm;dsimp only[hO,AW];refine iM (fun σ H2=>∃(g rest:List (PI×Int))(q:PI)(vq:V)(came:Option Int)(xs:List V)(cs:List PI)(v6:Option V),σ=[some v,some (.ref hA),some (.ref wA),some (.ref r),some vq,some (match came with|none=>V.non|some h=>V.int h),v6]/\f=g++rest/\RM.mH (RM.aN hs) q rest s0/\T2 H2 vq q/\But wA H H2/\H2 r=some (.lst xs)/\Paired (T2 H2) xs cs/\cs++RM.bP came rest=RM.bP none f/\cs.length<=g.length/\D2 H2 wA (KS (wk++g.map (·.1))))
  (fun _ H2=>10000 - m5 H2 wA)
  ⟨[],f,s0,v,none,[],[],none,rfl,rfl,Bk,tv.mono (a9.upd rf),a9.but (a9.upd rf),a8,.nil,rfl,ax _,by unfold D2;rw[aC wa.symm,jd,df];exact hW⟩ ?_ (fun _ _ _ _ f ⟨v,e,w,e2,a,o,ex,g,b,eb,q⟩=>⟨v,e,w,e2,a,o,ex,g,b,eb,f _ _ q⟩)
 rintro σ H2 ⟨g,rest,q,vq,came,xs,cs,v6,rfl,hf,pq,⟨qa,rfl,qw⟩,b2,h2,pr,Aw,lcs,hD⟩;refine⟨_,rfl,_,rfl,wA,_,rfl,R2.get (p:=q) hD.rd qw,_,rfl,?_⟩;rw[JG];cases pq with
 |nil=>
  have ki:s0∈wk++g.map (·.1):=by
   rw[df]at hf;subst hf;refine bf _ ?_;cases Bk with
   |nil=>exact absurd rfl fne
   |cons _ _ _ _=>simp
  refine bZ (fun c1=>?_) (fun c1=>?_)
  ·exact absurd ki (rO c1)
  ·rw[df]at hf;subst hf;have Aw:cs=RM.bP none f:=by rw[<- Aw];simp[RM.bP]
   subst Aw;exact⟨_,rfl,k r H2 b2 rf ⟨r,xs,rfl,h2,pr⟩ hD⟩
 | @cons _ _ hd rest' hq h0 h4 pn=>
  have qx:q∉wk++g.map (·.1):=by
   intro z;rcases aw.mp z with z|z
   ·exact fnew q (by rw[hf];simp) z
   ·rw[hf,cj,de]at fnd;exact fnd.2.2 q z q (by simp) rfl
  refine bZ (fun c1=>?_) (fun c1=>absurd (nQ c1) qx);have kc:(wk++g.map (·.1)).length<=5000:=by rw[hf]at Ds;simp only[aj,br,ai]at Ds ⊢;omega
  refine⟨_,rfl,_,rfl,wA,_,rfl,D2.put hD qw (.bl true) (by rw[CL];exact few kc),?_⟩;rw[LF qx];have Dq:H2 wA=some (.dT (kvF k2 (KS (wk++g.map (·.1))))):=hD;have Ai:T2 (upd H2 wA (.dT (kvF k2 (KS (wk++g.map (·.1)++[q]))))) (.ref qa) q:=T2.rF ⟨qa,rfl,qw⟩ Dq (by intro _ z;cases z);have b3:But wA H (upd H2 wA (.dT (kvF k2 (KS (wk++g.map (·.1)++[q]))))):=b2.here;have h3:(upd H2 wA (.dT (kvF k2 (KS (wk++g.map (·.1)++[q]))))) r=some (.lst xs):=by rw[aC wa];exact h2
  have nv:Paired (T2 (upd H2 wA (.dT (kvF k2 (KS (wk++g.map (·.1)++[q])))))) xs cs:=aJ (fun _ _ z=>z.rF Dq (by intro _ z;cases z)) pr;have mi:D2 (upd H2 wA (.dT (kvF k2 (KS (wk++g.map (·.1)++[q]))))) wA (KS (wk++(g++[(q,hd)]).map (·.1))):=by unfold D2;rw[a8];simp
  have m2:m5 H2 wA=(wk++g.map (·.1)).length:=by rw[yZ hD,CL]
  generalize (upd H2 wA (.dT (kvF k2 (KS (wk++g.map (·.1)++[q])))))=H3 at Ai b3 h3 nv mi ⊢;obtain⟨_,e,qw⟩:=Ai;cases e;have dg:lB H3 hA (.ref qa) (some (.int hd)):=by have dg:=(hHb H3 b3).get (p:=q) qw;rw[f9,hq]at dg;exact dg
  refine⟨_,rfl,_,rfl,hA,_,rfl,dg,?_⟩;have Cf:f=g++[(q,hd)]++rest':=by rw[hf];simp
  have fin:∀(xs:List V)(cs:List PI)(H4:Hp),But wA H H4->H4 r=some (.lst xs)->Paired (T2 H4) xs cs->T2 H4 (.ref qa) q->D2 H4 wA (KS (wk++(g++[(q,hd)]).map (·.1)))->cs++RM.bP (some hd) rest'=RM.bP none f->cs.length<=g.length+1->∀(vn:V)(H5:Hp),a9 H4 H5->T2 H5 vn (RM.aK q hd.toNat) ->
   (∃(g rest:List (PI×Int))(q:PI)(vq:V)(came:Option Int)(xs:List V)(cs:List PI)(v6:Option V),([some v,some (.ref hA),some (.ref wA),some (.ref r),some vn,some (.int hd),some (.int hd)]:List (Option V))=[some v,some (.ref hA),some (.ref wA),some (.ref r),some vq,some (match came with|none=>V.non|some h=>V.int h),v6]/\f=g++rest/\RM.mH (RM.aN hs) q rest s0/\T2 H5 vq q/\But wA H H5/\H5 r=some (.lst xs)/\Paired (T2 H5) xs cs/\cs++RM.bP came rest=RM.bP none f/\cs.length<=g.length/\D2 H5 wA (KS (wk++g.map (·.1))))/\10000 - m5 H5 wA<10000 - m5 H2 wA:=by
   intro xs cs H4 b4 h4 vz t4 kz e4 l4 vn H5 s5 t5;refine⟨⟨g++[(q,hd)],rest',_,vn,some hd,xs,cs,_,rfl,Cf,pn,t5,b4.trans (a9.but s5),s5 _ _ h4,aJ (fun _ _ z=>z.mono s5) vz,e4,by rw[aj];exact l4,s5 _ _ kz⟩,?_⟩;have mh:D2 H5 wA (KS (wk++(g++[(q,hd)]).map (·.1))):=s5 _ _ kz;rw[m2,yZ mh,CL];simp only[aj,ai,br,fh]at kc ⊢;omega
  have lcs5:cs.length<=5000:=by rw[aj,ai]at kc;omega
  have lx:=pairs_len nv;cases came with
  |none=>refine⟨_,rfl,_,rfl,rfl,_,rfl,zA ?_⟩;refine⟨_,rfl,.inl ⟨rfl,_,SqL.of h3⟩,_,rfl,r,xs,.ref qa,rfl,rfl,h3,few (m:=5000) (by omega),?_⟩;refine⟨_,rfl,_,rfl,_,rfl,.ref qa,q,hd.toNat,congrArg (fun z=>[V.ref qa,V.int z]) (cb h0).symm,T2.c ((T2.upd (D:=r) ⟨qa,rfl,qw⟩ h3)),by omega,fun vn H5 s5 t5=>?_⟩;refine fin (xs++[.ref qa]) (cs++[q]) _ (b3.put rf) a8 (aZ (T2.upd (D:=r) ⟨qa,rfl,qw⟩ h3) (aJ (fun _ _ z=>z.upd h3) nv)) (T2.upd (D:=r) ⟨qa,rfl,qw⟩ h3) (by unfold D2;rw[aC wa.symm];exact mi) ?_ (by rw[aj];simp;omega) vn H5 s5 t5;rw[<- Aw];simp[RM.bP]
  |some cm=>
   refine⟨_,rfl,_,rfl,rfl,_,rfl,?_⟩;refine bZ (fun c2=>?_) (fun c2=>?_)
   ·have c2:¬hd=cm:=by intro z;rw[z]at c2;simp at c2
    refine⟨_,rfl,.inl ⟨rfl,_,SqL.of h3⟩,_,rfl,r,xs,.ref qa,rfl,rfl,h3,few (m:=5000) (by omega),?_⟩;refine⟨_,rfl,_,rfl,_,rfl,.ref qa,q,hd.toNat,congrArg (fun z=>[V.ref qa,V.int z]) (cb h0).symm,T2.c ((T2.upd (D:=r) ⟨qa,rfl,qw⟩ h3)),by omega,fun vn H5 s5 t5=>?_⟩;refine fin (xs++[.ref qa]) (cs++[q]) _ (b3.put rf) a8 (aZ (T2.upd (D:=r) ⟨qa,rfl,qw⟩ h3) (aJ (fun _ _ z=>z.upd h3) nv)) (T2.upd (D:=r) ⟨qa,rfl,qw⟩ h3) (by unfold D2;rw[aC wa.symm];exact mi) ?_ (by rw[aj];simp;omega) vn H5 s5 t5;rw[<- Aw];simp[RM.bP,c2]
   ·have c2:hd=cm:=by
     have:decide (V.int hd=V.int cm)=true:=by
      cases e:decide (V.int hd=V.int cm)with
      |true=>rfl
      |false=>rw[e]at c2;exact absurd rfl c2
     exact V.int.inj (ay this)
    subst c2;refine⟨_,rfl,_,rfl,_,rfl,.ref qa,q,hd.toNat,congrArg (fun z=>[V.ref qa,V.int z]) (cb h0).symm,T2.c ⟨qa,rfl,qw⟩,by omega,fun vn H5 s5 t5=>?_⟩;refine fin xs cs _ b3 h3 nv ⟨qa,rfl,qw⟩ mi ?_ (by omega) vn H5 s5 t5;rw[<- Aw];simp[RM.bP]
abbrev s_wr:Stmt:=(top 44)
theorem sc_wr:aM ["cells","headings","walks","walked","point"] ["cells"] (aH s_wr):=fS
theorem y6{K:W.Frag}{d:Adr}{H:Hp}{as:List Addr}{ps:List PI}(h:Paired (T2 H) (as.map V.ref) ps):∀a∈as,∀H2,a9 H H2->sp_br K d [.ref a] H2 (fun r H3=>a9 H2 H3/\∃b,r=.ref b/\H3 b=some (.tup ((iA H a).map V.int))) E0:=by intro a ha H2 s2;have t:=(yO h a ha).mono s2;refine⟨.ref a,pairOf H a,rfl,t.c,fun r H3 s3 ⟨b,e,hb⟩=>⟨s3,b,e,hb⟩⟩
noncomputable def sp_wr(K:W.Frag)(d:Adr):Sp:=fun vs H Q _=>∃(c:Addr)(C:List (Nat×Nat)),vs=[.ref c]/\D2 H c (CS C)/\C.length<=256/\Roof.pinched C=false/\∀r H',a9 H H'->LLT H' (.ref r) (RM.iWs (Roof.walksOf C))->Q (.ref r) H'
theorem ok_wr(F:Fun K "walks_round" "walks_round" s_wr f fd)(T:Txt K mg base d)(D_haw:aS P w K mg base CX0 3 "headings_along_walls" ["cells"] (sp_haw K d))(D_br:aS P w K mg base CX0 1 "by_row" ["place"] (sp_br K d))(D_wf:aS P w K mg base CX0 3 "walk_from" ["start","headings","walked"] (sp_wf K d)):bN P w K mg base CX0 5 f fd ["cells"] (sp_wr K d):=by
 refine F.ok sc_wr (fun vs H Q E h=>by obtain⟨c,C,rfl,_⟩:=h;rfl) (fun _ _ _ _ H _ Q E hr h=>?_);have hu:=bI hr;obtain⟨c,C,rfl,hC,hl,ro,k⟩:=h;refine⟨_,(aA (psN (i:=1) sc_wr.nd (aU D_haw (hm hr) aX rfl (a7 (pv 0) aD)))
   (aA (psN (i:=2) sc_wr.nd (fB aD))
   (aA (psN (i:=3) sc_wr.nd eD)
   (aA (c8 PassesOwn.never rfl (dX (HC rfl D_br (hm hr) rfl T.sorted rfl (a7 (pv 1) aD))) (pgN (i:=4) sc_wr.nd) (aE (cB (e6 (cW hu (pv 4) (pv 3))) (aE (d6 (gX PySem.F.plainAttrs_list PySem.F.slot_list_append PySem.F.type_list_append cC (pv 2) (a7 (aU D_wf (hm hr) aX rfl (a7 (pv 4) (a7 (pv 1) (a7 (pv 3) aD)))) aD)))) bF)))
   (aE (aT (pv 2))))))),?_⟩
 refine⟨_,rfl,c,C,rfl,hC,hl,fun h H1 s1 hh hH=>?_⟩;refine⟨cv _,fun w hw=>fun wk Aq=>?_⟩;have Am:w≠wk:=aI a8 Aq;have fwk:H1 wk=none:=(a9.upd hw).free Aq;have s2:a9 H1 (upd (upd H1 w (.lst [])) wk (.dT [])):=a9.trans (a9.upd hw) (a9.upd Aq);refine⟨_,rfl,h,_,rfl,R2.mono s2 hH.rd,fun as hk=>?_⟩;have vc:=z8 hk;rw[xX]at vc;refine⟨iA (upd (upd H1 w (.lst [])) wk (.dT [])),fun a _=>by unfold iA;exact cons_ne_nil _ _,y6 vc,fun L out H2 hL pm pw s3 h2=>?_⟩;obtain⟨ys,pr,yp,yr⟩:=qL vc pm pw;have ey:=RM.uE ro yp yr;subst ey;have nLw:L≠w:=(aI (by rw[aC Am,a8]) hL).symm;have nLk:L≠wk:=(aI a8 hL).symm;have prT:∀{i:Nat}{v:V},(out.map V.ref)[i]? =some v->∃q,(RM.cG C)[i]? =some q/\T2 H1 v (RM.iP q)\/(RM.cG C)[i]? =some q/\T2 (upd (upd H1 w (.lst [])) wk (.dT [])) v (RM.iP q):=fun{i v} hv=>by
  obtain⟨z,hz,t⟩:=pairs_at pr hv;unfold RM.iW at hz;rw[bc]at hz;cases e:(RM.cG C)[i]? with
  |none=>rw[e]at hz;cases hz
  |some q=>rw[e]at hz;cases hz;exact⟨q,.inr ⟨rfl,t⟩⟩
 have w2:(upd (upd H1 w (.lst [])) wk (.dT [])) w=some (.lst []):=by rw[aC Am,a8]
 have k2':(upd (upd H1 w (.lst [])) wk (.dT [])) wk=some (.dT []):=a8;generalize hHa:(upd (upd H1 w (.lst [])) wk (.dT []))=Ha at*;refine⟨L,rfl,⟨_,SqL.of h2⟩,gR (K:=K) (a:=L) (xs:=out.map V.ref) (fun i σ H3=>∃(seen:List Roof.Point)(ws:List Roof.Walk)(xs:List V)(v4:Option V),σ=[some (.ref c),some (.ref h),some (.ref w),some (.ref wk),v4]/\a9 H1 H3/\(∀a p,T2 Ha (.ref a) p->T2 H3 (.ref a) p)/\H3 L=some (.lst (out.map V.ref))/\H3 w=some (.lst xs)/\Paired (fun v z=>∃b,v=V.ref b/\b≠w/\LT H3 (.ref b) z) xs (RM.iWs ws)/\D2 H3 wk (KS (RM.iW seen))/\RM.f7 C seen i ws/\ws.length<=i)
  ⟨[],[],[],none,rfl,a9.trans s2 s3,fun a p t=>t.mono s3,h2,s3 _ _ w2,.nil,s3 _ _ k2',RM.f7.start C,ax _⟩ (fun i σ H3 _ ⟨_,_,_,_,_,_,_,h3,_⟩=>SqL.of h3) ?_ ?_⟩
 ·rintro i v σ H3 hv ⟨seen,ws,xs,v4,rfl,s4,tup,hL3,hw3,vy,mi,st,lws⟩;obtain⟨q,hq,t⟩:∃q,(RM.cG C)[i]? =some q/\T2 Ha v (RM.iP q):=by
   obtain⟨q,z|z⟩:=prT hv
   ·exact⟨q,z.1,z.2.mono s2⟩
   ·exact⟨q,z⟩
  obtain⟨a,rfl,ha⟩:=t;obtain⟨_,e,ha3⟩:=tup a _ ⟨a,rfl,ha⟩;cases e;have rj:i<out.length:=by have:=(ao.mp hv).1;simpa using this
  refine⟨_,rfl,_,rfl,wk,_,rfl,R2.get (p:=RM.iP q) mi.rd ha3,_,rfl,?_⟩;rw[JG];refine bZ (fun c1=>?_) (fun c1=>?_)
  ·have c1:q∉seen:=fun z=>rO c1 (RM.gP.mpr z)
   obtain⟨f,f1,f2,f3,f4,oo,w',e1,e2,ph⟩:=st.next ro hq c1;have nhk:h≠wk:=aI hH fwk;have ls:=ph.len ro;have el:(RM.iW oo).length=oo.length:=by simp[RM.iW]
   refine⟨_,rfl,.inl ⟨rfl,_,SqL.of hw3⟩,_,rfl,_,rfl,_,rfl,.ref a,h,wk,RM.cV (RM.iW C),RM.iW seen,RM.iP q,f,rfl,⟨a,rfl,ha3⟩,R2.mono s4 hH.rd,mi,nhk,f1,f2,f3,f4,?_,fun r H4 b4 hr4 lt4 kz=>?_⟩
   ·have:(RM.iW seen++f.map (·.1)).length<=4*256:=by rw[<- e1,el];omega
    rw[aj,ai]at this;omega
   ·have wc:H4 w=some (.lst xs):=b4 _ _ Am hw3;have wa:r≠w:=fun z=>by rw[z,hw3]at hr4;cases hr4
    have Ac:H3 wk=some (.dT (kvF k2 (KS (RM.iW seen)))):=mi;have lx:=pairs_len vy;have lws2:xs.length<=1024:=by
     have h1:(RM.iWs ws).length=ws.length:=by simp[RM.iWs]
     have h2:out.length=(RM.cG C).length:=by have:=pairs_len pr;simpa[RM.iW]using this
     have h3:(RM.cG C).length<=4*C.length:=by have a1:=RM.jF (RM.iW C);have a2:=yp.length_eq;simp only[RM.iW,ai]at a1 a2;omega
     omega
    have T4:∀{v:V}{p:PI},T2 H3 v p->T2 (upd H4 w (.lst (xs++[.ref r]))) v p:=fun t=>(t.but b4 Ac (by intro _ z;cases z)).upd wc
    refine⟨w,xs,.ref r,rfl,rfl,wc,few lws2,oo,ws++[w'],xs++[.ref r],_,rfl,a9.put (But.same b4 s4 fwk) hw,fun a p t=>T4 (tup a p t),by rw[aC nLw];exact b4 _ _ nLk hL3,a8,?_,by unfold D2;rw[aC Am.symm,e1];exact kz,ph,by rw[aj];simp;omega⟩;have e3:RM.iWs (ws++[w'])=RM.iWs ws++[RM.bP none f]:=by simp[RM.iWs,e2]
    rw[e3];refine aZ ⟨r,rfl,wa,lt4.upd wc wa⟩ (aJ (fun v z ⟨b,e,nb,b0,ys,eb,hb,py⟩=>⟨b,e,nb,?_⟩) vy);cases eb;have nbk:b≠wk:=eJ hb Ac (by intro z;cases z);exact LT.upd ⟨b,ys,rfl,b4 _ _ nbk hb,aJ (fun _ _ t=>t.but b4 Ac (by intro _ z;cases z)) py⟩ wc nb
  ·have c1:q∈seen:=RM.gP.mp (nQ c1);exact⟨seen,ws,xs,_,rfl,s4,tup,hL3,hw3,vy,mi,st.skip hq c1,by omega⟩
 ·rintro σ H3 ⟨seen,ws,xs,v4,rfl,s4,tup,hL3,hw3,vy,mi,st,lws⟩;have h2:(out.map V.ref).length=(RM.cG C).length:=by have:=pairs_len pr;simpa[RM.iW]using this
  rw[h2]at st;have e:=st.done;subst e;exact⟨_,rfl,k w H3 (a9.trans s1 s4) ⟨w,xs,rfl,hw3,aJ (fun v z ⟨b,e,nb,t⟩=>by rw[e];exact t) vy⟩⟩
abbrev s_ht:Stmt:=(top 47)
theorem sc_ht:aM ["t","walks","cells"] ["t"] (aH s_ht):=fS
theorem KH{a b:List Roof.Walk}(h:RM.iWs a=RM.iWs b):a=b:=RM.map_inj (fun x _ y _ q=>RM.map_inj (fun p _ p' _ r=>fF r) q) h
theorem mC{F:Nat->Nat->Bool}(h:Roof.isHouse (RM.aQ F)=true):(RM.aQ F).length<=256/\Roof.pinched (RM.aQ F)=false/\RM.aQ F≠[]:=by
 cases e:RM.aQ F with
 |nil=>rw[e]at h;cases h
 |cons c r=>have h2:=RM.tL e;rw[h]at h2;rw[e]at h2;simp only[Bool.true_eq,dk,decide_eq_true_iff,ie]at h2;exact⟨h2.1,h2.2.1,cons_ne_nil _ _⟩
noncomputable def sp_ht(K:W.Frag)(d:Adr):Sp:=fun vs H Q E=>∃(a:Addr)(ns:List Int),vs=[.ref a]/\SqL K H a (ns.map V.int)/\ns.length<=4096/\RM.inB ns/\(∀F,Roof.houseOf (RoofBNeutral.text ns)=some (RM.aQ F)->Roof.isHouse (RM.aQ F)=true->∀r H',a9 H H'->H r=none->D2 H' r (CS (RM.aQ F))->Q (.ref r) H')/\(Roof.houseOf (RoofBNeutral.text ns)=none->E (.ref d.cF) none H)
theorem ok_ht(F:Fun K "house_told" "house_told" s_ht f fd)(T:Txt K mg base d)(D_wt2:aS P w K mg base CXf 5 "walks_told" ["t"] (sp_wt2 K d))(D_cw:aS P w K mg base CX0 2 "cells_within" ["walks"] (sp_cw K d))(D_wr:aS P w K mg base CX0 5 "walks_round" ["cells"] (sp_wr K d))(D_ih:aS P w K mg base CX0 4 "is_house" ["cells"] (sp_ih K d)):bN P w K mg base CXf 6 f fd ["t"] (sp_ht K d):=by
 refine okX F sc_ht (fun vs H Q E h=>by obtain⟨a,ns,rfl,_⟩:=h;rfl) (fun _ _ _ _ H _ Q E hr hok h=>?_);have hu:=bI hr;obtain⟨a,ns,rfl,hS,hl,hB,k1,k2⟩:=h;refine⟨_,(aA (psN (i:=1) sc_ht.nd (aU D_wt2 (hm hr) (yM hok) rfl (a7 (pv 0) aD)))
   (aA (psN (i:=2) sc_ht.nd (aU D_cw (hm hr) aX rfl (a7 (pv 1) aD)))
   (aA (cB (PW.pt (sU (MA (j6 (aU D_ih (hm hr) aX rfl (a7 (pv 2) aD)) (fun _=>rfl))) (pE (bK (HM hr.units) (aU D_wr (hm hr) aX rfl (a7 (pv 2) aD)) (pv 1) (bU _))))) (aE (dG hok PySem.F.excBase_Exception T.eT rfl)) bF)
   (aE (aT (pv 2)))))),?_⟩
 refine⟨_,rfl,a,ns,rfl,hS,hl,fun z hz v H1 s1 llt=>?_,fun hn=>k2 (RM.BV hB hn)⟩;obtain⟨W,oW,rfl,_⟩:=RM.qJ hz;have hh:=RM.BU hB oW hz;have okp:RM.t7 W:=fun w hw=>(oW.2 w hw).2
 refine⟨_,rfl,v,W,rfl,llt,okp,fun c H2 s2 hc hD=>?_⟩;have ve:Roof.houseOf (RoofBNeutral.text ns)=(if Roof.isHouse (RM.aQ (RM.dQ W))=true/\Roof.walksOf (RM.aQ (RM.dQ W))=W then some (RM.aQ (RM.dQ W))else none):=hh;generalize RM.dQ W=F at hD ve;refine⟨_,rfl,c,F,rfl,hD,fun H3 s3=>⟨_,rfl,?_⟩⟩;refine bZ (fun c1=>zA (k2 ?_)) (fun c1=>?_)
 ·rw[ve,af];intro z;rw[z.1]at c1;cases c1
 have c1:Roof.isHouse (RM.aQ F)=true:=by
  cases e:Roof.isHouse (RM.aQ F)with
  |true=>rfl
  |false=>rw[e]at c1;exact absurd rfl c1
 obtain⟨um,ro,jv⟩:=mC c1;have mi:D2 H3 c (CS (RM.aQ F)):=s3 _ _ hD;refine⟨_,rfl,c,RM.aQ F,rfl,mi,um,ro,fun r H4 s4 llt4=>?_⟩;refine⟨_,rfl,dWs (RM.iWs (Roof.walksOf (RM.aQ F))),dWs (RM.iWs W),LO llt4,LO (llt.mono (a9.trans s2 (a9.trans s3 s4))),uY _,uY _,_,rfl,?_⟩;rw[MW];refine bZ (fun c2=>k2 ?_) (fun c2=>?_)
 ·rw[ve,af];intro z;exact rO c2 (by rw[z.2])
 ·have e:Roof.walksOf (RM.aQ F)=W:=KH (nQ c2);exact⟨_,rfl,k1 F (by rw[ve,ag ⟨c1,e⟩]) c1 c H4 (a9.trans s1 (a9.trans s2 (a9.trans s3 s4))) (s1.free hc) (s4 _ _ mi)⟩
abbrev s_hco:Stmt:=(top 52)
theorem sc_hco:aM ["cells","found","cell","quarter"] ["cells"] (aH s_hco):=fS
noncomputable def sp_hco(K:W.Frag)(d:Adr):Sp:=fun vs H Q _=>∃(c:Addr)(C:List (Nat×Nat)),vs=[.ref c]/\D2 H c (CS C)/\C.Nodup/\(∀x∈C,x.1<64/\x.2<64)/\C.length<=256/\∀r H',a9 H H'->H r=none->LT H' (.ref r) ((Roof.halvesOf C).map RM.hP)->Q (.ref r) H'
theorem ok_hco(F:Fun K "half_cells_of" "half_cells_of" s_hco f fd)(T:Txt K mg base d)(D_m:aS P w K mg base CX0 1 "moved" ["place","step"] (sp_m K d))(D_br:aS P w K mg base CX0 1 "by_row" ["place"] (sp_br K d)):bN P w K mg base CX0 5 f fd ["cells"] (sp_hco K d):=by
 refine F.ok sc_hco (fun vs H Q E h=>by obtain⟨c,C,rfl,_⟩:=h;rfl) (fun _ _ _ _ H _ Q E hr h=>?_);have hu:=bI hr;obtain⟨rp,mQ,c_QUARTERS⟩:=T.mQ;obtain⟨c,C,rfl,hC,nd,bd,hl,k⟩:=h;refine⟨_,(aA (psN (i:=1) sc_hco.nd (fB aD))
   (aA (lG (c8 PassesOwn.never rfl (nG (pv 0)) (pgN (i:=2) sc_hco.nd) (aE (c8 PassesOwn.never rfl (j7 (eX mQ rfl)) (pgN (i:=3) sc_hco.nd) (aE (d6 (gX PySem.F.plainAttrs_list PySem.F.slot_list_append PySem.F.type_list_append cC (pv 1) (a7 (aU D_m (hm hr) aX rfl (a7 (cU (a7 (d8 sZ aL (bH bD (pv 2) aL (fun _ _=>rfl))) (a7 (d8 sZ aL (bH bD (pv 2) aL (fun _ _=>rfl))) aD))) (a7 (pv 3) aD))) aD))))))))
   (aE (aT (HB D_br (hm hr) rfl T.sorted rfl (a7 (pv 1) aD)))))),?_⟩
 obtain⟨qs,rq,xh⟩:=c_QUARTERS;refine⟨cv _,fun f hf=>?_⟩;have nc:c≠f:=aI hC hf;have lj:∀od,(upd H c (.frz od (.dT (kvF k2 (CS C))))) f=none:=fun od=>gI hC hf
 refine⟨c,.dT (kvF k2 (CS C)),by rw[aC nc];exact hC,trivial,fun od=>⟨_,rfl,c,od,rfl,.inr ⟨_,a8,oB (d:=c) (od:=od) (kvs:=kvF k2 (CS C))
  (fun i σ H2=>∃(xs:List V)(v2 v3:Option V),σ=[some (.ref c),some (.ref f),v2,v3]/\a9 (upd H c (.frz od (.dT (kvF k2 (CS C))))) H2/\H2 f=some (.lst xs)/\Paired (T2 H2) xs (RM.eV ((RM.iW C).take i)))
  ⟨[],none,none,rfl,a9.both (a9.upd hf),by rw[aC nc.symm,a8],.nil⟩ (fun i σ H2 ⟨_,_,_,_,s2,_⟩=>s2 _ _ a8) ?_ ?_⟩⟩⟩
 ·rintro i kk vv q σ H2 hi hq ⟨xs,v2,v3,rfl,s2,h2,pr⟩;obtain⟨p,hp,rfl⟩:=tI hi;have hp2:(RM.iW C)[i]? =some p:=by have:=congrArg (Option.map Prod.fst) hp;rw[<- bc,m4]at this;exact this
  have rj:i<C.length:=by have:=uL hp2;simpa[RM.iW]using this
  refine⟨_,rfl,⟨_,rq _⟩,jJ (K:=K) (a:=rp) (xs:=qs) (fun j σ H3=>∃(xs:List V)(v3:Option V),σ=[some (.ref c),some (.ref f),some (.ref q),v3]/\a9 (upd H c (.frz od (.dT (kvF k2 (CS C))))) H3/\T2 H3 (.ref q) p/\H3 f=some (.lst xs)/\Paired (T2 H3) xs (RM.eV ((RM.iW C).take i)++(RM.vB p).take j))
   ⟨xs,v3,rfl,s2,⟨q,rfl,hq⟩,h2,by rw[take_zero,df];exact pr⟩ (fun i σ H2 _ _=>rq H2) ?_ ?_⟩
  ·rintro j x σ H3 hx ⟨xs,v3,rfl,s3,tq,h3,pr⟩;obtain⟨z,hz,cz⟩:=pairs_at xh hx;have lx:=pairs_len pr;rw[aj,RM.B2,bz,bz]at lx;have lq:(RM.vB p).length=4:=rfl;obtain⟨_,e,uz⟩:=id tq;cases e;refine⟨_,rfl,.inl ⟨rfl,_,SqL.of h3⟩,_,rfl,q,_,_,_,rfl,rfl,SqT.of uz,aW (by decide) rfl,_,_,rfl,rfl,.inl ⟨by decide,by decide⟩,_,rfl,q,_,_,_,rfl,rfl,SqT.of uz,aW (by decide) rfl,_,_,rfl,rfl,.inl ⟨by decide,by decide⟩,(by show 2<=sizeLine;decide),fun t ht=>?_⟩;have s4:a9 H3 (upd H3 t (.tup [.int (2*p.1),.int (2*p.2)])):=a9.upd ht;refine⟨_,rfl,.ref t,x,(2*p.1,2*p.2),z,rfl,T2.c ⟨t,rfl,a8⟩,cz _,fun n H5 s5 t5=>?_⟩;have h5:=s5 _ _ (s4 _ _ h3);have xg:=a9.trans s4 s5;refine⟨f,xs,n,rfl,rfl,h5,few (m:=2000) (by omega),xs++[n],_,rfl,a9.put (a9.trans s3 xg) (lj od),(tq.mono xg).upd h5,a8,?_⟩;rw[RM.EN p hz,<- dv];exact aZ (t5.upd h5) (aJ (fun _ _ y=>(y.mono xg).upd h5) pr)
  ·rintro σ H3 ⟨xs,v3,rfl,s3,tq,h3,pr⟩;refine⟨xs,_,_,rfl,s3,h3,?_⟩;rw[RM.yJ hp2];have e:qs.length=4:=pairs_len xh;rw[e]at pr;exact pr
 ·rintro σ H2 ⟨xs,v2,v3,rfl,s2,h2,pr⟩;have el:(kvF k2 (CS C)).length=(RM.iW C).length:=by rw[fE,qH];simp[RM.iW]
  rw[el,bu (ax _)]at pr;have s3:a9 H (upd H2 c (.dT (kvF k2 (CS C)))):=a9.unlock hC s2;have h3:(upd H2 c (.dT (kvF k2 (CS C)))) f=some (.lst xs):=by rw[aC nc.symm];exact h2
  have hC2:H2 c=some (.frz od (.dT (kvF k2 (CS C)))):=s2 _ _ a8;have nv:Paired (T2 (upd H2 c (.dT (kvF k2 (CS C))))) xs (RM.eV (RM.iW C)):=aJ (fun _ _ z=>z.rF hC2 (by intro _ z;cases z)) pr;refine⟨hC2,?_⟩;generalize (upd H2 c (.dT (kvF k2 (CS C))))=H3 at s3 h3 nv ⊢;obtain⟨as,rfl⟩:=CQ nv;refine⟨_,rfl,f,as,iA H3,rfl,SqL.of h3,fun a _=>by unfold iA;exact cons_ne_nil _ _,y6 nv,fun L out H4 hL pm pw s4 h4=>?_⟩;obtain⟨ys,py,yp,yr⟩:=qL nv pm pw;have ey:=RM.uK nd bd yp yr;subst ey;exact k L H4 (a9.trans s3 s4) (s3.free hL) ⟨L,_,rfl,h4,aJ (fun _ _ z=>z.mono s4) py⟩
abbrev s_id:Stmt:=(top 53)
theorem sc_id:aM ["half","layer","step"] ["half","layer"] (aH s_id):=fS
noncomputable def sp_id(K:W.Frag)(d:Adr):Sp:=fun vs H Q _=>∃(v:V)(p:PI)(l:Addr)(L:List PI),vs=[v,.ref l]/\T2 H v p/\R2 H l (KS L)/\∀H',a9 H H'->Q (.bl ((RM.cP p).all fun q=>L.contains q)) H'
theorem ok_id(F:Fun K "is_deeper" "is_deeper" s_id f fd)(T:Txt K mg base d)(D_m:aS P w K mg base CX0 1 "moved" ["place","step"] (sp_m K d)):bN P w K mg base CX0 2 f fd ["half","layer"] (sp_id K d):=by
 refine F.ok sc_id (fun vs H Q E h=>by obtain⟨v,p,l,L,rfl,_⟩:=h;rfl) (fun _ _ _ _ H _ Q E hr h=>?_);have hu:=bI hr;obtain⟨aHALVES_ABOUT,gQ,c_HALVES_ABOUT⟩:=T.gQ;obtain⟨v,p,l,L,rfl,hv,hL,k⟩:=h;refine⟨_,(aA (c8 PassesOwn.never rfl (j7 (eX gQ rfl)) (pgN (i:=2) sc_id.nd) (aE (cB (e6 (cW hu (aU D_m (hm hr) aX rfl (a7 (pv 0) (a7 (pv 2) aD))) (pv 1))) (aE (aT iR)) bF)))
   (aE (aT iR))),?_⟩
 obtain⟨qs,rq,xh⟩:=c_HALVES_ABOUT;have e8:qs.length=8:=pairs_len xh;refine⟨_,rfl,⟨_,rq _⟩,jJ (K:=K) (a:=aHALVES_ABOUT) (xs:=qs) (fun j σ H2=>∃(v2:Option V),σ=[some v,some (.ref l),v2]/\a9 H H2/\∀m,m<j->∀q,(RM.cP p)[m]? =some q->q∈L)
  ⟨none,rfl,a9.refl _,by intro m hm;omega⟩ (fun i σ H2 _ _=>rq H2) ?_ ?_⟩
 ·rintro j x σ H2 hx ⟨v2,rfl,s2,old⟩;obtain⟨z,hz,cz⟩:=pairs_at xh hx;have ha:=RM.CK p hz;refine⟨_,rfl,_,rfl,v,x,p,z,rfl,(hv.mono s2).c,cz _,fun n H3 s3 t3=>?_⟩;obtain⟨na,rfl,ny⟩:=t3;refine⟨_,rfl,l,_,rfl,R2.get (hL.mono (a9.trans s2 s3)) ny,_,rfl,?_⟩;rw[JG];refine bZ (fun c1=>?_) (fun c1=>?_)
  ·have c1:=rO c1;have h:=k H3 (a9.trans s2 s3);have e:((RM.cP p).all fun q=>L.contains q)=false:=by rw[ig];intro z;rw[ij]at z;have:=z _ (az ha);exact c1 (by simpa using this)
   rw[e]at h;exact h
  ·have c1:=nQ c1;refine⟨_,rfl,a9.trans s2 s3,fun m hm q hq=>?_⟩;by_cases e:m=j
   ·subst e;rw[ha]at hq;cases hq;exact c1
   ·exact old m (by omega) q hq
 ·rintro σ H2 ⟨v2,rfl,s2,old⟩;have h:=k H2 s2;have e:((RM.cP p).all fun q=>L.contains q)=true:=by rw[ij];intro q hq;obtain⟨m,hm⟩:=dz.mp hq;have jz:=uL hm;have hl8:(RM.cP p).length=8:=rfl;have:=old m (by rw[e8];omega) q hm;simpa using this
  rw[e]at h;exact h
abbrev s_do:Stmt:=(top 54)
theorem sc_do:aM ["cells","depths","layer","depth","half","layer_above"] ["cells"] (aH s_do):=fS
noncomputable def sp_do(K:W.Frag)(d:Adr):Sp:=fun vs H Q _=>∃(c:Addr)(C:List (Nat×Nat)),vs=[.ref c]/\D2 H c (CS C)/\C.Nodup/\(∀x∈C,x.1<64/\x.2<64)/\C.length<=256/\C≠[]/\∀r H',a9 H H'->H r=none->D2 H' r (IV (RM.bT (Roof.halvesOf C)))->Q (.ref r) H'
theorem ok_do(F:Fun K "depths_of" "depths_of" s_do f fd)(T:Txt K mg base d)(D_hco:aS P w K mg base CX0 5 "half_cells_of" ["cells"] (sp_hco K d))(D_id:aS P w K mg base CX0 2 "is_deeper" ["half","layer"] (sp_id K d)):bN P w K mg base CX0 6 f fd ["cells"] (sp_do K d):=by
 refine F.ok sc_do (fun vs H Q E h=>by obtain⟨c,C,rfl,_⟩:=h;rfl) (fun _ _ _ _ H _ Q E hr h=>?_);have hu:=bI hr;obtain⟨c,C,rfl,hC,nd,bd,hl,jv,k⟩:=h;have hok:=RM.aO bd;have hhl:=RM.mD C;have hlhs:((Roof.halvesOf C).map RM.hP).length<=1024:=by rw[ai];omega
 have qy:((Roof.halvesOf C).map RM.hP).Nodup:=RM.dY ((RM.iE nd bd).imp fun{a b} h e=>by omega) fun x hx y hy e=>RM.pW (hok x hx) (hok y hy) e
 have hend:∀n,64<=n->RM.aP ((Roof.halvesOf C).map RM.hP) n=[]:=fun n hn=>by rw[RM.dE hok,RM.eS hok hn];rfl
 have hdep:∀n,0<n->RM.aP ((Roof.halvesOf C).map RM.hP) n=[]->RM.iH ((Roof.halvesOf C).map RM.hP) n=RM.bT (Roof.halvesOf C):=fun n h0 e=>RM.CC hok h0 e
 have hne0:RM.aP ((Roof.halvesOf C).map RM.hP) 0≠[]:=by
  intro z;have:((Roof.halvesOf C).map RM.hP).length=0:=by rw[show(Roof.halvesOf C).map RM.hP=[]from z];rfl
  rw[ai,hhl]at this;exact jv (fu (by omega))
 refine⟨_,(aA (psN (i:=1) sc_do.nd eD)
   (aA (psN (i:=2) sc_do.nd (aU D_hco (hm hr) aX rfl (a7 (pv 0) aD)))
   (aA (psN (i:=3) sc_do.nd aL)
   (aA (iQ PassesOwn.never (sW (pv 2) (fun _=>rfl)) (aA (c8 PassesOwn.never rfl (dX (pv 2)) (pgN (i:=4) sc_do.nd) (aE (fK hu (pv 1) (pv 4) (pv 3) rfl)))
   (aA (GX (i:=5) sc_do.nd rfl (Or.inr rfl) (pJ (CH rfl (MQ hr)) (by rfl) T.dict (by rfl) (a7 (HG (own:=[("half",4)]) rfl sc_do.nd (dX (pv 2)) (f6 (by first|decide+kernel|kernel_rfl)) (fun _ _ _ _ _=>(pgN (i:=4) sc_do.nd)) (fun _ _ _ _ _=>rL) (fun _ _ _ _ _=>(cU (a7 (pv 4) (a7 iR aD))))) aD)))
   (aA (sX (i:=2) (own:=[("half",4)]) rfl sc_do.nd rfl rfl (by exact n8 rfl rfl rfl rfl) (dX (pv 2)) (f6 (by first|decide+kernel|kernel_rfl)) (fun _ _ _ _ _=>(pgN (i:=4) sc_do.nd)) (fun _ _ _ _ _=>(CY (j6 (aU D_id (hm hr) aX rfl (a7 (pv 4) (a7 (pv 5) aD))) (fun _=>rfl)))) (fun _ _ _ _ _=>(pv 4)))
   (aE (GY (i:=3) sc_do.nd rfl (Or.inl rfl) aL IQ))))))
   (aE (aT (pv 1))))))),?_⟩
 refine fun d0 xx=>?_
 have nc:c≠d0:=aI hC xx;refine⟨_,rfl,c,C,rfl,by unfold D2;rw[aC nc];exact hC,nd,bd,hl,fun r H1 s1 fr lt=>?_⟩;generalize (Roof.halvesOf C).map RM.hP=hs at*;have s01:a9 H H1:=a9.trans (a9.upd xx) s1;have hD1:D2 H1 d0 []:=s1 _ _ a8;dsimp only[hO,AW,AX,tC];refine iM (fun σ H2=>∃(n:Nat)(la:Addr)(v4 v5:Option V),σ=[some (.ref c),some (.ref d0),some (.ref la),some (.int (n:Int)),v4,v5]/\a9 H H2/\LT H2 (.ref la) (RM.aP hs n)/\D2 H2 d0 (IV (RM.iH hs n)))
  (fun σ _=>100 - cnt σ 3)
  ⟨0,r,none,none,rfl,s01,lt,hD1⟩ ?_ (fun _ _ _ _ f ⟨v,e,k,t,q⟩=>⟨v,e,k,t,f _ _ q⟩)
 rintro σ H2 ⟨n,la,v4,v5,rfl,s2,⟨_,xs,e,xr,pr⟩,hD⟩;cases e;have lx:=pairs_len pr;have lL:(RM.aP hs n).length<=hs.length:=by
  have we:∀n,(RM.aP hs n).Nodup:=fun n=>by
   induction n with
   |zero=>exact qy
   |succ n ih=>exact ih.filter _
  exact RM.cO (we n) fun p hp=>RM.mO hs n p hp
 have we:(RM.aP hs n).Nodup:=by
  clear hD pr lx lL;induction n with
  |zero=>exact qy
  |succ n ih=>exact ih.filter _
 refine⟨_,rfl,_,.inl ⟨_,SqL.of xr,rfl⟩,?_⟩;refine bZ (fun cq=>?_) (fun cq=>?_)
 ·have hn64:n<64:=by apply Nat.lt_of_not_le;intro z;rw[hend n z]at pr;cases pr;cases cq
  have ldT:(RM.iH hs n).length<=1024:=by
   unfold RM.iH;split
   ·simp
   ·rw[ai];exact hlhs
  have nla:la≠d0:=eJ xr hD (by intro z;cases z);refine⟨_,rfl,la,rfl,⟨_,SqL.of xr⟩,gR (K:=K) (a:=la) (xs:=xs) (fun i σ H3=>∃(v4:Option V),σ=[some (.ref c),some (.ref d0),some (.ref la),some (.int (n:Int)),v4,v5]/\But d0 H2 H3/\D2 H3 d0 (IV (RM.cT (RM.iH hs n) (((RM.aP hs n).take i).map fun p=>(p,(n:Int))))))
   ⟨v4,rfl,But.refl _ _,hD⟩ (fun i σ H3 _ ⟨_,_,b3,_⟩=>SqL.of (b3 _ _ nla xr)) ?_ ?_⟩
  ·rintro i x σ H3 hx ⟨v4,rfl,b3,mi⟩;obtain⟨p,hp,tp⟩:=pairs_at pr hx;obtain⟨a,rfl,ha⟩:=tp.SG b3 hD;refine⟨_,rfl,_,rfl,_,rfl,d0,_,rfl,D2.put mi ha _ ?_,_,rfl,b3.here,?_⟩
   ·rw[fJ];have h1:=RM.gE (((RM.aP hs n).take i).map fun p=>(p,(n:Int))) (RM.iH hs n);rw[ai,bz]at h1;exact few (m:=5000) (dj h1 (by omega))
   ·unfold D2;rw[a8,qG,<- RM.u6,RM.take_snoc hp,cj];rfl
  ·rintro σ H3 ⟨v4,rfl,b3,mi⟩;rw[lx,bu (ax _),RM.A4 qy]at mi;have wg:H3 la=some (.lst xs):=b3 _ _ nla xr;have nv:Paired (T2 H3) xs (RM.aP hs n):=aJ (fun _ _ z=>z.SG b3 hD) pr;have s3:a9 H H3:=But.same b3 s2 xx;refine⟨_,rfl,la,rfl,⟨_,SqL.of wg⟩,fun D hD0=>lQ (K:=K) (a:=la) (xs:=xs)
    (fun i H4=>a9 H3 H4/\∃ps:List Addr,H4 D=some (.lst (ps.map V.ref))/\Paired (fun p (q:PI)=>∃a,H4 p=some (.tup [.ref a,.bl true])/\H4 a=some (.tup [.int q.1,.int q.2])) ps ((RM.aP hs n).take i)) ⟨a9.upd hD0,[],a8,.nil⟩ (fun i H4 _ ⟨s4,_⟩=>s4.seq (SqL.of wg)) ?_ ?_⟩
   ·rintro i x H4 hx ⟨s4,ps,h4,pp⟩;obtain⟨p,hp,tp⟩:=pairs_at nv hx;obtain⟨a,rfl,ha⟩:=tp.mono s4;have lp:=pairs_len pp;rw[bz]at lp;have rj:=uL hp;refine⟨rfl,_,rfl,(by show 2<=sizeLine;decide),fun t ht=>?_⟩;have s5:a9 H4 (upd H4 t (.tup [.ref a,.bl true])):=a9.upd ht;have h5:=s5 _ _ h4;have kT:∀b ys,(upd H4 t (.tup [.ref a,.bl true])) b=some (.tup ys)->(upd (upd H4 t (.tup [.ref a,.bl true])) D (.lst (ps.map V.ref++[.ref t]))) b=some (.tup ys):=fun b ys e=>by rw[aC (eJ e h5 (by intro z;cases z))];exact e
    refine⟨_,h5,by rw[ai];exact few (m:=2000) (by omega),a9.put (a9.trans s4 s5) hD0,ps++[t],by rw[a8,cj];rfl,?_⟩;rw[RM.take_snoc hp];exact aZ (R:=fun p' (q:PI)=>∃a',(upd (upd H4 t (.tup [.ref a,.bl true])) D (.lst (ps.map V.ref++[.ref t]))) p'=some (.tup [.ref a',.bl true])/\(upd (upd H4 t (.tup [.ref a,.bl true])) D (.lst (ps.map V.ref++[.ref t]))) a'=some (.tup [.int q.1,.int q.2]))
     ⟨a,kT _ _ a8,kT _ _ (s5 _ _ ha)⟩ (aJ (fun p' q ⟨a',e1,e2⟩=>⟨a',kT _ _ (s5 _ _ e1),kT _ _ (s5 _ _ e2)⟩) pp)
   ·rintro H4 ⟨s4,ps,h4,pp⟩;rw[lx,bu (ax _)]at pp;have pk:Paired (fun p (kv:List Key×V)=>∃q,H4 p=some (.tup [.ref q,kv.2])/\H4 q=some (.tup (kv.1.map kV))) ps (kvF k2 (KS (RM.aP hs n))):=by
     clear wg nv lx lL we mi xr pr hD h4;generalize RM.aP hs n=L at pp;induction pp with
     |nil=>exact .nil
     |cons h _ ih=>exact .cons h ih
    refine⟨D,ps,_,rfl,SqL.of h4,pk,fun ab Ab=>?_⟩;rw[EO we];have s5:a9 H4 (upd H4 ab (.dT (kvF k2 (KS (RM.aP hs n))))):=a9.upd Ab;have hA5:D2 (upd H4 ab (.dT (kvF k2 (KS (RM.aP hs n))))) ab (KS (RM.aP hs n)):=a8;have xg:a9 H3 (upd H4 ab (.dT (kvF k2 (KS (RM.aP hs n))))):=a9.trans s4 s5;generalize (upd H4 ab (.dT (kvF k2 (KS (RM.aP hs n)))))=H5 at s5 hA5 xg ⊢;have Cv:=xg _ _ wg;refine⟨_,rfl,la,rfl,⟨_,SqL.of Cv⟩,fun D2' Dn=>lQ (K:=K) (a:=la) (xs:=xs)
     (fun i H6=>a9 H5 H6/\∃ys,H6 D2'=some (.lst ys)/\Paired (T2 H6) ys (((RM.aP hs n).take i).filter fun p=>(RM.cP p).all fun q=>(RM.aP hs n).contains q)) ⟨a9.upd Dn,[],a8,.nil⟩ (fun i H6 _ ⟨s6,_⟩=>s6.seq (SqL.of Cv)) ?_ ?_⟩
    ·rintro i x H6 hx ⟨s6,ys,h6,py⟩;obtain⟨p,hp,tp⟩:=pairs_at nv hx;have tp6:=tp.mono (a9.trans xg s6);have ly:=pairs_len py;have lf:=gw (fun p=>(RM.cP p).all fun q=>(RM.aP hs n).contains q) ((RM.aP hs n).take i);rw[bz]at lf;refine⟨rfl,_,rfl,_,rfl,x,p,ab,RM.aP hs n,rfl,tp6,R2.mono s6 hA5.rd,fun H7 s7=>⟨_,rfl,?_⟩⟩;have h7:=s7 _ _ h6;refine bZ (fun c1=>?_) (fun c1=>?_)
     ·refine⟨_,rfl,ys,h7,few (m:=2000) (dj (ib ly) (dj lf (by omega))),a9.put (a9.trans s6 s7) Dn,ys++[x],a8,?_⟩;rw[RM.take_snoc hp,gg,List.filter_cons_of_pos (by exact c1),filter_nil];exact aZ ((tp6.mono s7).upd h7) (aJ (fun _ _ z=>(z.mono s7).upd h7) py)
     ·refine⟨a9.trans s6 s7,ys,h7,?_⟩;rw[RM.take_snoc hp,gg,List.filter_cons_of_neg (by exact c1),filter_nil,df];exact aJ (fun _ _ z=>z.mono s7) py
    ·rintro H6 ⟨s6,ys,h6,py⟩;rw[lx,bu (ax _)]at py;have s36:a9 H3 H6:=a9.trans xg s6;refine⟨_,rfl,_,_,rfl,rfl,⟨n+1,D2',_,_,rfl,a9.trans s3 s36,⟨D2',ys,rfl,h6,py⟩,s36 _ _ mi⟩,?_⟩;show 100 - ((n:Int)+1).toNat<100 - ((n:Int)).toNat
     omega
 ·have e:xs=[]:=by
   cases xs with
   |nil=>rfl
   |cons _ _=>exact absurd rfl cq
  subst e;have en:RM.aP hs n=[]:=by
   cases h:RM.aP hs n with
   |nil=>rfl
   |cons _ _=>rw[h]at pr;cases pr
  have n0:0<n:=by apply Nat.pos_of_ne_zero;intro z;subst z;exact hne0 en
  rw[hdep n n0 en]at hD;exact⟨_,rfl,k d0 H2 s2 xx hD⟩
abbrev s_ho:Stmt:=(top 55)
theorem sc_ho:aM ["point","depths","step"] ["point","depths"] (aH s_ho):=fS
noncomputable def sp_ho(K:W.Frag)(d:Adr):Sp:=fun vs H Q _=>∃(v:V)(p:PI)(dA:Addr)(h:List Nat),vs=[v,.ref dA]/\T2 H v p/\R2 H dA (IV (RM.bT h))/\∀m H',a9 H H'->m∈RM.cS h p->(∀x∈RM.cS h p,m<=x)->Q (.int m) H'
theorem ok_ho(F:Fun K "height_over" "height_over" s_ho f fd)(T:Txt K mg base d)(D_m:aS P w K mg base CX0 1 "moved" ["place","step"] (sp_m K d)):bN P w K mg base CX0 2 f fd ["point","depths"] (sp_ho K d):=by
 refine F.ok sc_ho (fun vs H Q E h=>by obtain⟨v,p,dA,h,rfl,_⟩:=h;rfl) (fun _ _ _ _ H _ Q E hr h=>?_);have hu:=bI hr;obtain⟨aHALVES_AT_A_POINT,e7,c_HALVES_AT_A_POINT⟩:=T.e7;obtain⟨v,p,dA,h,rfl,hv,hA,k⟩:=h;refine⟨_,(aE (aT (bY (NC rfl) (by rfl) T.min (by rfl) (a7 (HG (own:=[("step",2)]) rfl sc_ho.nd (j7 (eX e7 rfl)) (f6 (by first|decide+kernel|kernel_rfl)) (fun _ _ _ _ _=>(pgN (i:=2) sc_ho.nd)) (fun _ _ _ _ _=>rL) (fun _ _ _ _ _=>(d8 kE (HH hu (pv 1) (aU D_m (hm hr) aX rfl (a7 (pv 0) (a7 (pv 2) aD))) (LJ GC aL) ⟨rfl,rfl,rfl,rfl⟩) aL))) aD)))),?_⟩;obtain⟨qs,rq,xh⟩:=c_HALVES_AT_A_POINT;have e4:qs.length=4:=pairs_len xh;refine⟨_,rfl,⟨_,rq _⟩,fun D hD=>IF (K:=K) (a:=aHALVES_AT_A_POINT) (xs:=qs)
  (fun i H2=>a9 H H2/\H2 D=some (.lst (((RM.cS h p).take i).map V.int))) ⟨a9.upd hD,a8⟩ (fun i H2 _ _=>rq H2) ?_ ?_⟩
 ·rintro i x H2 hx ⟨s2,h2⟩;obtain⟨z,hz,cz⟩:=pairs_at xh hx;have hat:=RM.L7 h p hz;refine⟨rfl,_,rfl,dA,rfl,.inr ⟨_,hA.mono s2⟩,_,rfl,_,rfl,v,x,p,z,rfl,(hv.mono s2).c,cz _,fun n H3 s3 t3=>?_⟩;obtain⟨na,rfl,ny⟩:=t3;have h3:=s3 _ _ h2;have eg:(RM.aN (IV (RM.bT h)) (p.1+z.1,p.2+z.2)).getD (V.int (-1))=V.int (RM.aR h (p.1+z.1,p.2+z.2)):=by rw[f9,<- RM.J7];cases RM.aN (RM.bT h) (p.1+z.1,p.2+z.2)<;>rfl
  refine⟨_,rfl,_,R2.get (p:=(p.1+z.1,p.2+z.2)) (hA.mono (a9.trans s2 s3)) ny,RM.aR h (p.1+z.1,p.2+z.2),1,eg,rfl,_,h3,?_,a9.put (a9.trans s2 s3) hD,?_⟩
  ·rw[ai,bz];have:(RM.cS h p).length=4:=rfl;exact few (m:=10) (by omega)
  ·rw[a8,RM.take_snoc hat];simp
 ·rintro H2 ⟨s2,h2⟩;rw[e4]at h2;have h2:H2 D=some (.lst ((RM.cS h p).map V.int)):=h2;exact⟨D,RM.cS h p,rfl,SqL.of h2,by show 0<4;decide,fun m hm qf=>k m H2 s2 hm qf⟩
abbrev s_ho2:Stmt:=(top 56)
theorem sc_ho2:aM ["depths","heights","half","side","point"] ["depths"] (aH s_ho2):=fS
noncomputable def sp_ho2(K:W.Frag)(d:Adr):Sp:=fun vs H Q _=>∃(dA:Addr)(h:List Nat),vs=[.ref dA]/\D2 H dA (IV (RM.bT h))/\(∀r∈h,RM.okR r)/\h.length<=1024/\∀r ht H',a9 H H'->H r=none->D2 H' r (IV ht)->RM.AF h ht->Q (.ref r) H'
theorem ok_ho2(F:Fun K "heights_of" "heights_of" s_ho2 f fd)(T:Txt K mg base d)(D_ss:aS P w K mg base CX0 2 "side_start" ["square","side"] (sp_ss K d))(D_ho:aS P w K mg base CX0 2 "height_over" ["point","depths"] (sp_ho K d)):bN P w K mg base CX0 3 f fd ["depths"] (sp_ho2 K d):=by
 refine F.ok sc_ho2 (fun vs H Q E h=>by obtain⟨dA,h,rfl,_⟩:=h;rfl) (fun _ _ _ _ H _ Q E hr h=>?_);have hu:=bI hr;obtain⟨aALL_SIDES,bB,c_ALL_SIDES⟩:=T.bB;obtain⟨dA,h,rfl,hA,hok,hl,k⟩:=h;refine⟨_,(aA (psN (i:=1) sc_ho2.nd eD)
   (aA (lG (c8 PassesOwn.never rfl (nG (pv 0)) (pgN (i:=2) sc_ho2.nd) (aE (c8 PassesOwn.never rfl (j7 (eX bB rfl)) (pgN (i:=3) sc_ho2.nd) (aA (psN (i:=4) sc_ho2.nd (aU D_ss (hm hr) aX rfl (a7 (pv 2) (a7 (pv 3) aD))))
   (aE (cB (e6 (cW hu (pv 4) (pv 1))) (aE (fK hu (pv 1) (pv 4) (aU D_ho (hm hr) aX rfl (a7 (pv 4) (a7 (pv 0) aD))) rfl)) bF)))))))
   (aE (aT (pv 1))))),?_⟩
 refine fun f hf=>?_
 have nc:dA≠f:=aI hA hf;have lj:∀od,(upd H dA (.frz od (.dT (kvF k2 (IV (RM.bT h)))))) f=none:=fun od=>gI hA hf
 have Dw:(IV (RM.bT h)).map (·.1)=h.map RM.hP:=by rw[xX];unfold RM.bT;rw[RM.fQ]
 refine⟨dA,.dT (kvF k2 (IV (RM.bT h))),by rw[aC nc];exact hA,trivial,fun od=>⟨_,rfl,dA,od,rfl,.inr ⟨_,a8,oB (d:=dA) (od:=od) (kvs:=kvF k2 (IV (RM.bT h)))
  (fun i σ H2=>∃(ht:List (PI×Int))(v2 v3 v4:Option V),σ=[some (.ref dA),some (.ref f),v2,v3,v4]/\a9 (upd H dA (.frz od (.dT (kvF k2 (IV (RM.bT h)))))) H2/\D2 H2 f (IV ht)/\RM.gB h ht i 0)
  ⟨[],none,none,none,rfl,a9.both (a9.upd hf),by unfold D2;rw[aC nc.symm,a8];rfl,RM.gB.start h⟩ (fun i σ H2 ⟨_,_,_,_,_,s2,_⟩=>s2 _ _ a8) ?_ ?_⟩⟩⟩
 ·rintro i kk vv q σ H2 hi hq ⟨ht,v2,v3,v4,rfl,s2,hD,pre⟩;obtain⟨p,hp,rfl⟩:=tI hi;have hp2:(h.map RM.hP)[i]? =some p:=by have:=congrArg (Option.map Prod.fst) hp;rw[<- bc,Dw]at this;exact this
  obtain⟨r,hr,rfl⟩:∃r,h[i]? =some r/\p=RM.hP r:=by
   rw[bc]at hp2;cases e:h[i]? with
   |none=>rw[e]at hp2;cases hp2
   |some r=>rw[e]at hp2;exact⟨r,rfl,(Option.some.inj hp2).symm⟩
  have rj:=uL hr;refine⟨_,rfl,⟨_,c_ALL_SIDES _⟩,jJ (K:=K) (a:=aALL_SIDES) (xs:=[.int 0,.int 1,.int 2,.int 3]) (fun j σ H3=>∃(ht:List (PI×Int))(v3 v4:Option V),σ=[some (.ref dA),some (.ref f),some (.ref q),v3,v4]/\a9 (upd H dA (.frz od (.dT (kvF k2 (IV (RM.bT h)))))) H3/\T2 H3 (.ref q) (RM.hP r)/\D2 H3 f (IV ht)/\RM.gB h ht i j)
   ⟨ht,v3,v4,rfl,s2,⟨q,rfl,hq⟩,hD,pre⟩ (fun i σ H2 _ _=>c_ALL_SIDES H2) ?_ ?_⟩
  ·rintro j x σ H3 hx ⟨ht,v3,v4,rfl,s3,tq,hD,pre⟩;obtain⟨hj,rfl⟩:=j4 hx;refine⟨_,rfl,_,rfl,.ref q,RM.hP r,j,rfl,tq.c,hj,fun n H4 s4 t4=>?_⟩;obtain⟨na,rfl,ny⟩:=t4;have kz:D2 H4 f (IV ht):=s4 _ _ hD;refine⟨_,rfl,_,rfl,f,_,rfl,R2.get (p:=RM.aB (RM.hP r) j) kz.rd ny,_,rfl,?_⟩;rw[AE];refine bZ (fun c1=>?_) (fun c1=>?_)
   ·refine⟨_,rfl,_,rfl,.ref na,RM.aB (RM.hP r) j,dA,h,rfl,⟨na,rfl,ny⟩,.inr ⟨od,(a9.trans s3 s4) _ _ a8⟩,fun m H5 s5 hm qf=>?_⟩;have em:=RM.DI hok (az hr) hm qf;subst em;have mh:D2 H5 f (IV ht):=s5 _ _ kz;have lp:=pre.len;refine⟨_,rfl,_,rfl,f,_,rfl,D2.put mh (s5 _ _ ny) _ (by rw[fJ];exact few (m:=5000) (by omega)),_,_,_,rfl,a9.put (a9.trans s3 (a9.trans s4 s5)) (lj od),T2.rF (tq.mono (a9.trans s4 s5)) mh (by intro _ z;cases z),?_,pre.put hr⟩;unfold D2;rw[a8,qG]
   ·have c1:(RM.aN ht (RM.aB (RM.hP r) j)).isSome=true:=by
     cases e:(RM.aN ht (RM.aB (RM.hP r) j)).isSome with
     |true=>rfl
     |false=>rw[e]at c1;exact absurd rfl c1
    exact⟨ht,_,_,rfl,a9.trans s3 s4,tq.mono s4,kz,pre.keep hr c1⟩
  ·rintro σ H3 ⟨ht,v3,v4,rfl,s3,tq,hD,pre⟩;exact⟨ht,_,_,_,rfl,s3,hD,pre.next⟩
 ·rintro σ H2 ⟨ht,v2,v3,v4,rfl,s2,hD,pre⟩;have el:(kvF k2 (IV (RM.bT h))).length=h.length:=by rw[fE,fJ];unfold RM.bT;rw[ai,ai]
  rw[el]at pre;exact⟨s2 _ _ a8,_,rfl,k f ht _ (a9.unlock hA s2) hf (by unfold D2;rw[aC nc.symm];exact hD) pre.done⟩
abbrev s_fo2:Stmt:=(top 59)
theorem sc_fo2:aM ["half","side","depth","heights","start_is_low","end_is_low"] ["half","side","depth","heights"] (aH s_fo2):=fS
noncomputable def sp_fo2(K:W.Frag)(d:Adr):Sp:=fun vs H Q _=>∃(v:V)(r s0:Nat)(h:List Nat)(hA:Addr)(ht:List (PI×Int)),vs=[v,.int (s0:Nat),.int (RM.aR h (RM.hP r)),.ref hA]/\T2 H v (RM.hP r)/\s0<4/\r∈h/\R2 H hA (IV ht)/\RM.AF h ht/\∀H',a9 H H'->Q (.int (RM.e9 h ((RM.hP r).1,(RM.hP r).2,(s0:Int)))) H'
theorem ok_fo2(F:Fun K "facing_of" "facing_of" s_fo2 f fd)(T:Txt K mg base d)(D_ss:aS P w K mg base CX0 2 "side_start" ["square","side"] (sp_ss K d))(D_se:aS P w K mg base CX0 3 "side_end" ["square","side"] (sp_se K d))(D_lo:aS P w K mg base CX0 1 "left_of" ["direction"] (sp_lo K d))(D_ro:aS P w K mg base CX0 1 "right_of" ["direction"] (sp_ro K d))(D_o:aS P w K mg base CX0 1 "opposite" ["direction"] (sp_o K d)):bN P w K mg base CX0 4 f fd ["half","side","depth","heights"] (sp_fo2 K d):=by
 refine F.ok sc_fo2 (fun vs H Q E h=>by obtain⟨v,r,s0,h,hA,ht,rfl,_⟩:=h;rfl) (fun _ _ _ _ H _ Q E hr h=>?_);have hu:=bI hr;obtain⟨v,r,s0,h,hA,ht,rfl,hv,hs,hrm,hT,ok,k⟩:=h;have g1:=ok.all r hrm s0 hs;have ec:RM.aB (RM.hP r) ((s0+1)%4)=RM.aB (RM.hP r) (s0+1):=by unfold RM.aB;rw[mod_mod]
 have g2:RM.aN ht (RM.aB (RM.hP r) (s0+1))=some (RM.hgt h (RM.aB (RM.hP r) (s0+1))):=by rw[<- ec];exact ok.all r hrm ((s0+1)%4) (by omega)
 have ef:RM.e9 h ((RM.hP r).1,(RM.hP r).2,(s0:Int))=RM.zW s0 (RM.hgt h (RM.aB (RM.hP r) s0)) (RM.hgt h (RM.aB (RM.hP r) (s0+1))) (RM.aR h (RM.hP r)):=by unfold RM.e9;simp
 rw[ef]at k;generalize RM.hgt h (RM.aB (RM.hP r) s0)=u at*;generalize RM.hgt h (RM.aB (RM.hP r) (s0+1))=w at*;generalize RM.aR h (RM.hP r)=dd at*;refine⟨_,(aA (psN (i:=4) sc_fo2.nd (wW gY (fL hu (pv 3) (aU D_ss (hm hr) aX rfl (a7 (pv 0) (a7 (pv 1) aD))) (fun _ _=>rfl)) (pv 2) (bU _)))
   (aA (psN (i:=5) sc_fo2.nd (wW gY (fL hu (pv 3) (aU D_se (hm hr) aX rfl (a7 (pv 0) (a7 (pv 1) aD))) (fun _ _=>rfl)) (pv 2) (bU _)))
   (aA (cB (PW.pt (pG (j6 (pv 4) (fun _=>rfl)) (nE (j6 (pv 5) (fun _=>rfl))))) (aE (aT (pv 1))) bF)
   (aA (cB (j6 (pv 5) (fun _=>rfl)) (aE (aT (aU D_lo (hm hr) aX rfl (a7 (pv 1) aD)))) bF)
   (aA (cB (j6 (pv 4) (fun _=>rfl)) (aE (aT (aU D_ro (hm hr) aX rfl (a7 (pv 1) aD)))) bF)
   (aE (aT (aU D_o (hm hr) aX rfl (a7 (pv 1) aD))))))))),?_⟩
 refine⟨_,rfl,_,rfl,_,rfl,v,RM.hP r,s0,rfl,hv.c,hs,fun n H1 s1 t1=>?_⟩;obtain⟨na,rfl,ny⟩:=t1;have d1:lB H1 hA (.ref na) (some (.int u)):=by have:=(hT.mono s1).get (p:=RM.aB (RM.hP r) s0) ny;rw[f9,g1]at this;exact this
 refine⟨hA,_,rfl,d1,_,rfl,rfl,?_⟩;refine⟨_,rfl,_,rfl,_,rfl,v,RM.hP r,s0,rfl,(hv.mono s1).c,hs,fun n H2 s2 t2=>?_⟩;obtain⟨ma,rfl,hma⟩:=t2;have d2:lB H2 hA (.ref ma) (some (.int w)):=by have:=(hT.mono (a9.trans s1 s2)).get (p:=RM.aB (RM.hP r) (s0+1)) hma;rw[f9,g2]at this;exact this
 refine⟨hA,_,rfl,d2,_,rfl,rfl,?_⟩;have k:=k H2 (a9.trans s1 s2);unfold RM.zW at k;have du:decide (V.int u=V.int dd)=true↔u=dd:=by rw[decide_eq_true_iff];exact⟨V.int.inj,fun z=>by rw[z]⟩
 have dw:decide (V.int w=V.int dd)=true↔w=dd:=by rw[decide_eq_true_iff];exact⟨V.int.inj,fun z=>by rw[z]⟩
 by_cases cu:u=dd
 ·by_cases cw:w=dd
  ·rw[ag ⟨cu,cw⟩]at k;rw[du.mpr cu,dw.mpr cw];exact⟨_,rfl,_,rfl,_,rfl,_,rfl,_,rfl,k⟩
  ·rw[af (fun z=>cw z.2),af cw,ag cu]at k;have e2:decide (V.int w=V.int dd)=false:=by rw[ig];exact fun z=>cw (dw.mp z)
   rw[du.mpr cu,e2];exact⟨_,rfl,_,rfl,_,rfl,_,rfl,_,rfl,_,rfl,_,rfl,_,rfl,_,rfl,_,rfl,k⟩
 ·by_cases cw:w=dd
  ·rw[af (fun z=>cu z.1),ag cw]at k;have e1:decide (V.int u=V.int dd)=false:=by rw[ig];exact fun z=>cu (du.mp z)
   rw[e1,dw.mpr cw];exact⟨_,rfl,_,rfl,_,rfl,_,rfl,_,rfl,_,rfl,k⟩
  ·rw[af (fun z=>cu z.1),af cw,af cu]at k;have e1:decide (V.int u=V.int dd)=false:=by rw[ig];exact fun z=>cu (du.mp z)
   have e2:decide (V.int w=V.int dd)=false:=by rw[ig];exact fun z=>cw (dw.mp z)
   rw[e1,e2];exact⟨_,rfl,_,rfl,_,rfl,_,rfl,_,rfl,_,rfl,_,rfl,_,rfl,k⟩
abbrev s_fo3:Stmt:=(top 60)
theorem sc_fo3:aM ["depths","heights","facings","half","depth","side"] ["depths","heights"] (aH s_fo3):=fS
theorem L0{h:List Nat}{i:Nat}{p:PI}{v:V}(hp:(IV (RM.bT h))[i]? =some (p,v)):∃r,h[i]? =some r/\p=RM.hP r/\v=.int (RM.aR h (RM.hP r)):=by
 unfold IV RM.bT at hp;rw[bc,bc,bc]at hp;cases e:h[i]? with
 |none=>rw[e]at hp;cases hp
 |some r=>rw[e]at hp;cases hp;exact⟨r,rfl,rfl,rfl⟩
noncomputable def sp_fo3(K:W.Frag)(d:Adr):Sp:=fun vs H Q _=>∃(dA hA:Addr)(h:List Nat)(ht:List (PI×Int)),vs=[.ref dA,.ref hA]/\D2 H dA (IV (RM.bT h))/\D2 H hA (IV ht)/\dA≠hA/\RM.AF h ht/\(h.map RM.hP).Nodup/\h.length<=1024/\∀r H',a9 H H'->H r=none->D3 H' r (IV (RM.d5 h))->Q (.ref r) H'
theorem ok_fo3(F:Fun K "facings_of" "facings_of" s_fo3 f fd)(T:Txt K mg base d)(D_fo2:aS P w K mg base CX0 4 "facing_of" ["half","side","depth","heights"] (sp_fo2 K d)):bN P w K mg base CX0 5 f fd ["depths","heights"] (sp_fo3 K d):=by
 refine F.ok sc_fo3 (fun vs H Q E h=>by obtain⟨dA,hA,h,ht,rfl,_⟩:=h;rfl) (fun _ _ _ _ H _ Q E hr h=>?_);have hu:=bI hr;obtain⟨aALL_SIDES,bB,c_ALL_SIDES⟩:=T.bB;obtain⟨dA,hA,h,ht,rfl,hD,hT,nAT,ok,qy,hl,k⟩:=h;refine⟨_,(aA (psN (i:=2) sc_fo3.nd eD)
   (aA (lG (c8 PassesOwn.never rfl (vF (pv 0)) (kC rfl (bW (pgN (i:=3) sc_fo3.nd) (bW (pgN (i:=4) sc_fo3.nd) gW))) (aE (c8 PassesOwn.never rfl (j7 (eX bB rfl)) (pgN (i:=5) sc_fo3.nd) (aE (fK hu (pv 2) (cU (a7 (bH bD (pv 3) aL (fun _ _=>rfl)) (a7 (bH bD (pv 3) aL (fun _ _=>rfl)) (a7 (pv 5) aD)))) (aU D_fo2 (hm hr) aX rfl (a7 (pv 3) (a7 (pv 5) (a7 (pv 4) (a7 (pv 1) aD))))) rfl))))))
   (aE (aT (pv 2))))),?_⟩
 refine fun f hf=>?_
 have nc:dA≠f:=aI hD hf;have lj:∀od,(upd H dA (.frz od (.dT (kvF k2 (IV (RM.bT h)))))) f=none:=fun od=>gI hD hf
 have Bt:∀od,D2 (upd H dA (.frz od (.dT (kvF k2 (IV (RM.bT h)))))) hA (IV ht):=fun od=>by unfold D2;rw[aC nAT.symm];exact hT
 refine⟨dA,.dT (kvF k2 (IV (RM.bT h))),by rw[aC nc];exact hD,trivial,fun od=>⟨_,rfl,dA,od,_,rfl,a8,vS (d:=dA) (od:=od) (kvs:=kvF k2 (IV (RM.bT h)))
  (fun i σ H2=>∃(v3 v4 v5:Option V),σ=[some (.ref dA),some (.ref hA),some (.ref f),v3,v4,v5]/\a9 (upd H dA (.frz od (.dT (kvF k2 (IV (RM.bT h)))))) H2/\D3 H2 f (IV ((RM.fN ((h.map RM.hP).take i)).map fun t=>(t,RM.e9 h t))))
  ⟨none,none,none,rfl,a9.both (a9.upd hf),by unfold D3;rw[aC nc.symm,a8];rfl⟩ (fun i σ H2 ⟨_,_,_,_,s2,_⟩=>s2 _ _ a8) ?_ ?_⟩⟩
 ·rintro i kk vv q T2' σ H2 hi hq yc ⟨v3,v4,v5,rfl,s2,hF⟩;obtain⟨p,hp,rfl⟩:=tI hi;obtain⟨r,hr',rfl,rfl⟩:=L0 hp;have hp2:(h.map RM.hP)[i]? =some (RM.hP r):=by rw[bc,hr'];rfl
  have rj:=uL hr';have s3:a9 H2 (upd H2 T2' (.tup [.ref q,.int (RM.aR h (RM.hP r))])):=a9.upd yc;refine⟨T2',_,rfl,SqT.of a8,rfl,_,_,rfl,_,_,rfl,rfl,?_⟩;have hF3:D3 (upd H2 T2' (.tup [.ref q,.int (RM.aR h (RM.hP r))])) f _:=s3 _ _ hF;have uz:=s3 _ _ hq;have yn:=a9.trans s2 s3;generalize (upd H2 T2' (.tup [.ref q,.int (RM.aR h (RM.hP r))]))=H3 at s3 hF3 uz yn ⊢;refine⟨_,rfl,⟨_,c_ALL_SIDES _⟩,jJ (K:=K) (a:=aALL_SIDES) (xs:=[.int 0,.int 1,.int 2,.int 3]) (fun j σ H4=>∃(v5:Option V),σ=[some (.ref dA),some (.ref hA),some (.ref f),some (.ref q),some (.int (RM.aR h (RM.hP r))),v5]/\a9 (upd H dA (.frz od (.dT (kvF k2 (IV (RM.bT h)))))) H4/\T2 H4 (.ref q) (RM.hP r)/\D3 H4 f (IV ((RM.fN ((h.map RM.hP).take i)++(RM.wK (RM.hP r)).take j).map fun t=>(t,RM.e9 h t))))
   ⟨v5,rfl,yn,⟨q,rfl,uz⟩,by rw[take_zero,df];exact hF3⟩ (fun i σ H2 _ _=>c_ALL_SIDES H2) ?_ ?_⟩
  ·rintro j x σ H4 hx ⟨v5,rfl,s4,tq,hF⟩;obtain⟨hj,rfl⟩:=j4 hx;refine⟨_,rfl,_,rfl,_,rfl,_,rfl,.ref q,r,j,h,hA,ht,rfl,tq,hj,az hr',R2.mono s4 (Bt od).rd,ok,fun H5 s5=>?_⟩;obtain⟨_,e,hq5⟩:=tq.mono s5;cases e;refine⟨_,rfl,_,rfl,q,_,_,_,rfl,rfl,SqT.of hq5,aW (by decide) rfl,_,rfl,q,_,_,_,rfl,rfl,SqT.of hq5,aW (by decide) rfl,_,rfl,(by show 3<=sizeLine;decide),fun t Cd=>?_⟩;have s6:a9 H5 (upd H5 t (.tup [.int (RM.hP r).1,.int (RM.hP r).2,.int (j:Int)])):=a9.upd Cd;have Dm:D3 (upd H5 t (.tup [.int (RM.hP r).1,.int (RM.hP r).2,.int (j:Int)])) f (IV ((RM.fN ((h.map RM.hP).take i)++(RM.wK (RM.hP r)).take j).map fun t=>(t,RM.e9 h t))):=s6 _ _ (s5 _ _ hF);refine⟨f,_,rfl,D3.put (p:=((RM.hP r).1,(RM.hP r).2,(j:Int))) Dm a8 _ ?_,_,rfl,a9.put (a9.trans s4 (a9.trans s5 s6)) (lj od),T2.rF (tq.mono (a9.trans s5 s6)) Dm (by intro _ z;cases z),?_⟩
   ·rw[fJ,ai,aj,bz];have h1:=RM.EG (h.map RM.hP) i;rw[ai]at h1;have h2:(RM.wK (RM.hP r)).length=4:=rfl;exact few (m:=5000) (by omega)
   ·unfold D3;rw[a8,qG,RM.fV,RM.EI (RM.hP r) hj]
    ·simp
    ·rw[RM.fQ];exact RM.EH qy hp2 hj
  ·rintro σ H4 ⟨v5,rfl,s4,tq,hF⟩;refine⟨_,_,_,rfl,s4,?_⟩;rw[RM.AQ hp2];exact hF
 ·rintro σ H2 ⟨v3,v4,v5,rfl,s2,hF⟩;have el:(kvF k2 (IV (RM.bT h))).length=(h.map RM.hP).length:=by rw[fE,fJ];unfold RM.bT;rw[ai]
  rw[el,bu (ax _)]at hF;exact⟨s2 _ _ a8,_,rfl,k f _ (a9.unlock hD s2) hf (by unfold D3;rw[aC nc.symm];exact hF)⟩
abbrev s_ta:Stmt:=(top 61)
theorem sc_ta:aM ["triangle","across","i","j","side"] ["triangle"] (aH s_ta):=fS
noncomputable def sp_ta(K:W.Frag)(d:Adr):Sp:=fun vs H Q _=>∃(v:V)(t:PI3),vs=[v]/\T3 H v t/\0<=t.2.2/\t.2.2<4/\∀r H',a9 H H'->T3 H' r ((RM.aK (t.1,t.2.1) t.2.2.toNat).1,(RM.aK (t.1,t.2.1) t.2.2.toNat).2,(t.2.2+2)%4)->Q r H'
theorem ok_ta(F:Fun K "triangle_across" "triangle_across" s_ta f fd)(T:Txt K mg base d)(D_b:aS P w K mg base CX0 2 "beyond" ["place","direction"] (sp_b K d))(D_o:aS P w K mg base CX0 1 "opposite" ["direction"] (sp_o K d)):bN P w K mg base CX0 3 f fd ["triangle"] (sp_ta K d):=by
 refine F.ok sc_ta (fun vs H Q E h=>by obtain⟨v,t,rfl,_⟩:=h;rfl) (fun _ _ _ _ H _ Q E hr h=>?_);have hu:=bI hr;obtain⟨v,t,rfl,⟨a,rfl,ha⟩,h0,h4,k⟩:=h;refine⟨_,(aA (B4 (pv 0) (kC rfl (bW (pgN (i:=2) sc_ta.nd) (bW (pgN (i:=3) sc_ta.nd) (bW (pgN (i:=4) sc_ta.nd) gW)))))
   (aA (psN (i:=1) sc_ta.nd (aU D_b (hm hr) aX rfl (a7 (cU (a7 (pv 2) (a7 (pv 3) aD))) (a7 (pv 4) aD))))
   (aE (aT (cU (a7 (bH bD (pv 1) aL (fun _ _=>rfl)) (a7 (bH bD (pv 1) aL (fun _ _=>rfl)) (a7 (aU D_o (hm hr) aX rfl (a7 (pv 4) aD)) aD)))))))),?_⟩
 refine⟨_,rfl,a,_,rfl,SqT.of ha,rfl,_,_,rfl,_,_,rfl,_,_,rfl,rfl,?_⟩;refine⟨_,rfl,_,rfl,(by show 2<=sizeLine;decide),fun b hb=>?_⟩;have s1:a9 H (upd H b (.tup [.int t.1,.int t.2.1])):=a9.upd hb;refine⟨_,rfl,.ref b,(t.1,t.2.1),t.2.2.toNat,congrArg (fun z=>[V.ref b,V.int z]) (cb h0).symm,T2.c ⟨b,rfl,a8⟩,by omega,fun n H2 s2 t2=>?_⟩;obtain⟨na,rfl,ny⟩:=t2;refine⟨_,rfl,na,_,_,_,rfl,rfl,SqT.of ny,aW (by decide) rfl,_,rfl,na,_,_,_,rfl,rfl,SqT.of ny,aW (by decide) rfl,_,rfl,_,rfl,(by show 3<=sizeLine;decide),fun c hc=>?_⟩;exact k _ _ (a9.trans s1 (a9.trans s2 (a9.upd hc))) ⟨c,rfl,a8⟩
abbrev s_tol:Stmt:=(top 62)
theorem sc_tol:aM ["triangle","i","j","side"] ["triangle"] (aH s_tol):=fS
noncomputable def sp_tol(K:W.Frag)(d:Adr):Sp:=fun vs H Q _=>∃(v:V)(t:PI3),vs=[v]/\T3 H v t/\∀r H',a9 H H'->T3 H' r (t.1,t.2.1,(t.2.2+1)%4)->Q r H'
theorem ok_tol(F:Fun K "triangle_on_left" "triangle_on_left" s_tol f fd)(T:Txt K mg base d)(D_lo:aS P w K mg base CX0 1 "left_of" ["direction"] (sp_lo K d)):bN P w K mg base CX0 2 f fd ["triangle"] (sp_tol K d):=by
 refine F.ok sc_tol (fun vs H Q E h=>by obtain⟨v,t,rfl,_⟩:=h;rfl) (fun _ _ _ _ H _ Q E hr h=>?_);have hu:=bI hr;obtain⟨v,t,rfl,⟨a,rfl,ha⟩,k⟩:=h;refine⟨_,(aA (B4 (pv 0) (kC rfl (bW (pgN (i:=1) sc_tol.nd) (bW (pgN (i:=2) sc_tol.nd) (bW (pgN (i:=3) sc_tol.nd) gW)))))
   (aE (aT (cU (a7 (pv 1) (a7 (pv 2) (a7 (aU D_lo (hm hr) aX rfl (a7 (pv 3) aD)) aD))))))),?_⟩
 refine⟨_,rfl,a,_,rfl,SqT.of ha,rfl,_,_,rfl,_,_,rfl,_,_,rfl,rfl,?_⟩;refine⟨_,rfl,_,rfl,_,rfl,_,rfl,(by show 3<=sizeLine;decide),fun c hc=>?_⟩;exact k _ _ (a9.upd hc) ⟨c,rfl,a8⟩
abbrev s_tor:Stmt:=(top 63)
theorem sc_tor:aM ["triangle","i","j","side"] ["triangle"] (aH s_tor):=fS
noncomputable def sp_tor(K:W.Frag)(d:Adr):Sp:=fun vs H Q _=>∃(v:V)(t:PI3),vs=[v]/\T3 H v t/\∀r H',a9 H H'->T3 H' r (t.1,t.2.1,(t.2.2+3)%4)->Q r H'
theorem ok_tor(F:Fun K "triangle_on_right" "triangle_on_right" s_tor f fd)(T:Txt K mg base d)(D_ro:aS P w K mg base CX0 1 "right_of" ["direction"] (sp_ro K d)):bN P w K mg base CX0 2 f fd ["triangle"] (sp_tor K d):=by
 refine F.ok sc_tor (fun vs H Q E h=>by obtain⟨v,t,rfl,_⟩:=h;rfl) (fun _ _ _ _ H _ Q E hr h=>?_);have hu:=bI hr;obtain⟨v,t,rfl,⟨a,rfl,ha⟩,k⟩:=h;refine⟨_,(aA (B4 (pv 0) (kC rfl (bW (pgN (i:=1) sc_tor.nd) (bW (pgN (i:=2) sc_tor.nd) (bW (pgN (i:=3) sc_tor.nd) gW)))))
   (aE (aT (cU (a7 (pv 1) (a7 (pv 2) (a7 (aU D_ro (hm hr) aX rfl (a7 (pv 3) aD)) aD))))))),?_⟩
 refine⟨_,rfl,a,_,rfl,SqT.of ha,rfl,_,_,rfl,_,_,rfl,_,_,rfl,rfl,?_⟩;refine⟨_,rfl,_,rfl,_,rfl,_,rfl,(by show 3<=sizeLine;decide),fun c hc=>?_⟩;exact k _ _ (a9.upd hc) ⟨c,rfl,a8⟩
abbrev s_nf:Stmt:=(top 64)
theorem sc_nf:aM ["first","number","facings","numbers","facing","waiting","triangle"] ["first","number","facings","numbers"] (aH s_nf):=fS
noncomputable def sp_nf(K:W.Frag)(d:Adr):Sp:=fun vs H Q _=>∃(v:V)(n:Int)(fA nA:Addr)(fac kb:List (PI3×Int))(t0:PI3),vs=[v,.int n,.ref fA,.ref nA]/\T3 H v t0/\R3 H fA (IV fac)/\D3 H nA (IV kb)/\fA≠nA/\(∀t z,RM.aN fac t=some z->0<=t.2.2/\t.2.2<4)/\(RM.aN fac t0).isSome=true/\RM.aN kb t0=none/\fac.length<=4096/\(kb.map (·.1)).Nodup/\(∀t∈kb.map (·.1),t∈fac.map (·.1))/\∀(N:List PI3)(H':Hp),But nA H H'->D3 H' nA (IV (kb++N.map fun p=>(p,n)))->N.Nodup->(∀p,p∈N↔RM.Rch (RM.okT (RM.aN fac) t0) RM.nbP (RM.isN (RM.aN kb)) t0 p)->Q .non H'
theorem ok_nf(F:Fun K "number_face" "number_face" s_nf f fd)(T:Txt K mg base d)(D_tol:aS P w K mg base CX0 2 "triangle_on_left" ["triangle"] (sp_tol K d))(D_tor:aS P w K mg base CX0 2 "triangle_on_right" ["triangle"] (sp_tor K d))(D_ta:aS P w K mg base CX0 3 "triangle_across" ["triangle"] (sp_ta K d)):bN P w K mg base CX0 4 f fd ["first","number","facings","numbers"] (sp_nf K d):=by
 refine F.ok sc_nf (fun vs H Q E h=>by obtain⟨v,n,fA,nA,fac,kb,t0,rfl,_⟩:=h;rfl) (fun _ _ _ _ H _ Q E hr h=>?_);have hu:=bI hr;obtain⟨v,n,fA,nA,fac,kb,t0,rfl,⟨a0,rfl,ha0⟩,hF,hN,nFN,Ce,h0s,h0n,kc,nnd,nsub,k⟩:=h;obtain⟨fz,hfz⟩:∃fz,RM.aN fac t0=some fz:=by
  cases e:RM.aN fac t0 with
  |none=>rw[e]at h0s;cases h0s
  |some z=>exact⟨z,rfl⟩
 have hFb:∀H',But nA H H'->R3 H' fA (IV fac):=fun H' e=>by
  rcases hF with h|⟨o,h⟩
  ·exact .inl (e _ _ nFN h)
  ·exact .inr ⟨o,e _ _ nFN h⟩
 have d0:lB H fA (.ref a0) (some (.int fz)):=by have:=hF.get (p:=t0) ha0;rw[f9,hfz]at this;exact this
 refine⟨_,(aA (psN (i:=4) sc_nf.nd (fL hu (pv 2) (pv 0) (fun _ _=>rfl)))
   (aA (psN (i:=5) sc_nf.nd (fB (a7 (pv 0) aD)))
   (aE (iQ PassesOwn.never (sW (pv 5) (fun _=>rfl)) (aA (psN (i:=6) sc_nf.nd (B7 PySem.F.plainAttrs_list PySem.F.slot_list_pop PySem.F.type_list_pop BG (pv 5)))
   (aE (cB (PW.pt (pG (bK gY (HI hu (pv 2) (pv 6) ⟨rfl,rfl,rfl,rfl⟩) (pv 4) (bU _)) (nE (e6 (cW hu (pv 6) (pv 3)))))) (aA (fK hu (pv 3) (pv 6) (pv 1) rfl)
   (aA (d6 (gX PySem.F.plainAttrs_list PySem.F.slot_list_append PySem.F.type_list_append cC (pv 5) (a7 (aU D_tol (hm hr) aX rfl (a7 (pv 6) aD)) aD)))
   (aA (d6 (gX PySem.F.plainAttrs_list PySem.F.slot_list_append PySem.F.type_list_append cC (pv 5) (a7 (aU D_tor (hm hr) aX rfl (a7 (pv 6) aD)) aD)))
   (aE (d6 (gX PySem.F.plainAttrs_list PySem.F.slot_list_append PySem.F.type_list_append cC (pv 5) (a7 (aU D_ta (hm hr) aX rfl (a7 (pv 6) aD)) aD))))))) bF))))))),?_⟩
 refine⟨_,rfl,_,rfl,fA,_,rfl,d0,_,rfl,(by show 1<=sizeLine;decide),fun w hw=>?_⟩;have Bn:w≠nA:=(aI hN hw).symm;have s1:a9 H (upd H w (.lst [.ref a0])):=a9.upd hw;dsimp only[hO,AW,AX,tC];refine iM (fun σ H2=>∃(xs:List V)(ws N:List PI3)(v6:Option V),σ=[some (.ref a0),some (.int n),some (.ref fA),some (.ref nA),some (.int fz),some (.ref w),v6]/\But nA H H2/\H2 w=some (.lst xs)/\Paired (T3 H2) xs ws/\D3 H2 nA (IV (kb++N.map fun p=>(p,n)))/\RM.gF (RM.okT (RM.aN fac) t0) RM.nbP (RM.isN (RM.aN kb)) t0 N ws/\N.Nodup/\(∀p∈N,(RM.aN fac p).isSome=true/\RM.aN kb p=none)/\xs.length<=1+3*N.length)
  (fun _ H2=>nS H2 w+4*(10000 - m5 H2 nA))
  ⟨[.ref a0],[t0],[],none,rfl,a9.but s1,a8,.cons ⟨a0,rfl,s1 _ _ ha0⟩ .nil,by rw[jd,df];exact s1 _ _ hN,RM.gF.first,nodup_nil,fun p hp=>(by cases hp),by simp⟩ ?_ (fun _ _ _ _ f ⟨v,e,k,t,q⟩=>⟨v,e,k,t,f _ _ q⟩)
 rintro σ H2 ⟨xs,ws,N,v6,rfl,b2,h2,pr,hD,sr,Nnd,Nin,lxs⟩;have xl:(kb++N.map fun p=>(p,n)).map (·.1)=kb.map (·.1)++N:=by rw[cj];congr 1;rw[gb];exact map_id N
 have tot:kb.length+N.length<=4096:=by
  have hnd2:(kb.map (·.1)++N).Nodup:=by rw[de];exact⟨nnd,Nnd,fun a ha b hb e=>RM.lZ.mp (Nin b hb).2 (e▸ha)⟩
  have:=RM.cO hnd2 (b:=fac.map (·.1)) fun p hp=>by
   rcases aw.mp hp with hp|hp
   ·exact nsub p hp
   ·exact(RM.aV p fac).mp (Nin p hp).1
  rw[aj,ai,ai]at this;omega
 refine⟨_,rfl,_,.inl ⟨_,SqL.of h2,rfl⟩,?_⟩;refine bZ (fun cq=>?_) (fun cq=>?_)
 ·have jv:xs≠[]:=by intro z;rw[z]at cq;cases cq
  have hpos:0<xs.length:=gm.mpr jv;obtain⟨y,hy⟩:∃y,xs[xs.length - 1]? =some y:=⟨_,bj (by omega)⟩
  obtain⟨q,hq,ty⟩:=pairs_at pr hy;have ews:=KA (pairs_len pr).symm hq;refine⟨_,rfl,.inl ⟨rfl,_,SqL.of h2⟩,w,xs,y,rfl,rfl,h2,hy,?_⟩;have b4:But nA H (upd H2 w (.lst xs.dropLast)):=b2.put hw;have vz:Paired (T3 (upd H2 w (.lst xs.dropLast))) xs.dropLast ws.dropLast:=aJ (fun _ _ z=>z.upd h2) (eY pr);have kz:D3 (upd H2 w (.lst xs.dropLast)) nA (IV (kb++N.map fun p=>(p,n))):=by unfold D3;rw[aC Bn.symm];exact hD
  have Bf:T3 (upd H2 w (.lst xs.dropLast)) y q:=ty.upd h2;have h4:(upd H2 w (.lst xs.dropLast)) w=some (.lst xs.dropLast):=a8;have ml:nS H2 w=xs.length:=lO h2;have mt:m5 H2 nA=kb.length+N.length:=by rw[IE hD,fJ,aj,ai]
  generalize (upd H2 w (.lst xs.dropLast))=H4 at b4 vz kz Bf h4 ⊢;rw[ews]at sr;obtain⟨ya,rfl,ud⟩:=Bf;have ld:xs.dropLast.length=xs.length - 1:=gx ..;have less:nS H4 w+4*(10000 - m5 H4 nA)<nS H2 w+4*(10000 - m5 H2 nA):=by rw[ml,mt,lO h4,IE kz,fJ,aj,ai,ld];omega
  have o0:RM.okT (RM.aN fac) t0 t0:=rfl;have u0:¬RM.isN (RM.aN kb) t0:=by unfold RM.isN;rw[h0n];intro z;cases z
  have skip:(¬RM.okT (RM.aN fac) t0 q\/RM.isN (RM.aN kb) q\/q∈N)->∃(qt:List V)(ws' N':List PI3)(v6':Option V),([some (.ref a0),some (.int n),some (.ref fA),some (.ref nA),some (.int fz),some (.ref w),some (.ref ya)]:List (Option V))=[some (.ref a0),some (.int n),some (.ref fA),some (.ref nA),some (.int fz),some (.ref w),v6']/\But nA H H4/\H4 w=some (.lst qt)/\Paired (T3 H4) qt ws'/\D3 H4 nA (IV (kb++N'.map fun p=>(p,n)))/\RM.gF (RM.okT (RM.aN fac) t0) RM.nbP (RM.isN (RM.aN kb)) t0 N' ws'/\N'.Nodup/\(∀p∈N',(RM.aN fac p).isSome=true/\RM.aN kb p=none)/\qt.length<=1+3*N'.length:=
   fun z=>⟨xs.dropLast,ws.dropLast,N,some (.ref ya),rfl,b4,h4,vz,kz,sr.pop o0 u0 z,Nnd,Nin,by omega⟩
  have gq:=(hFb H4 b4).get (p:=q) ud;rw[f9]at gq;cases eq:RM.aN fac q with
  |none=>rw[eq]at gq;refine⟨_,rfl,fA,rfl,.inr ⟨_,hFb H4 b4⟩,_,rfl,_,gq,_,rfl,rfl,_,rfl,?_⟩;refine⟨skip (.inl fun z=>?_),less⟩;have z:RM.aN fac q=RM.aN fac t0:=z;rw[eq,hfz]at z;cases z
  |some z=>
   rw[eq]at gq;refine⟨_,rfl,fA,rfl,.inr ⟨_,hFb H4 b4⟩,_,rfl,_,gq,_,rfl,rfl,_,rfl,?_⟩;refine bZ (fun c1=>?_) (fun c1=>IK ⟨skip (.inl fun z'=>c1 (decide_eq_true ?_)),less⟩)
   ·have c1:z=fz:=V.int.inj (ay c1);have okq:RM.okT (RM.aN fac) t0 q:=by
     show RM.aN fac q=RM.aN fac t0
     rw[eq,hfz,c1]
    refine⟨_,rfl,_,rfl,nA,_,rfl,R3.get (p:=q) kz.rd ud,_,rfl,?_⟩;rw[AE];refine bZ (fun c2=>?_) (fun c2=>?_)
    ·have c2:q∉ (kb++N.map fun p=>(p,n)).map (·.1):=fun z=>by rw[(RM.aV q _).mpr z]at c2;cases c2
     have c3:q∉kb.map (·.1)/\q∉N:=by rw[xl]at c2;exact⟨fun z=>c2 (cf _ z),fun z=>c2 (bf _ z)⟩
     have nq:=RM.lZ.mpr c3.1;have uq:¬RM.isN (RM.aN kb) q:=by unfold RM.isN;rw[nq];intro z;cases z
     have sr5:=sr.push okq uq;obtain⟨sd0,sd4⟩:=Ce q z eq;refine⟨_,rfl,_,rfl,_,rfl,nA,_,rfl,D3.put kz ud _ (by rw[fJ,aj,ai];exact few (m:=5000) (by omega)),?_⟩;rw[qG,RM.fV _ c2];have eN:kb++N.map (fun p=>(p,n))++[(q,n)]=kb++(N++[q]).map fun p=>(p,n):=by simp
     rw[eN];have xb:H4 nA=some (.dT (kvF k3 (IV (kb++N.map fun p=>(p,n))))):=kz;have tK:∀{v:V}{p:PI3},T3 H4 v p->T3 (upd H4 nA (.dT (kvF k3 (IV (kb++(N++[q]).map fun p=>(p,n)))))) v p:=fun t=>t.rF xb (by intro _ z;cases z)
     have b5:But nA H (upd H4 nA (.dT (kvF k3 (IV (kb++(N++[q]).map fun p=>(p,n)))))):=b4.here;have h5:(upd H4 nA (.dT (kvF k3 (IV (kb++(N++[q]).map fun p=>(p,n)))))) w=some (.lst xs.dropLast):=by rw[aC Bn];exact h4
     have xi:=aJ (fun _ _ t=>tK t) vz;have ty5:=tK ⟨ya,rfl,ud⟩;have mh:D3 (upd H4 nA (.dT (kvF k3 (IV (kb++(N++[q]).map fun p=>(p,n)))))) nA (IV (kb++(N++[q]).map fun p=>(p,n))):=a8;generalize (upd H4 nA (.dT (kvF k3 (IV (kb++(N++[q]).map fun p=>(p,n))))))=H5 at b5 h5 xi ty5 mh ⊢;refine⟨_,rfl,.inl ⟨rfl,_,SqL.of h5⟩,_,rfl,.ref ya,q,rfl,ty5,fun r1 H6 s6 t6=>?_⟩;have h6:=s6 _ _ h5;refine⟨w,xs.dropLast,r1,rfl,rfl,h6,few (m:=20000) (by omega),?_⟩;have b7:But nA H (upd H6 w (.lst (xs.dropLast++[r1]))):=(b5.trans (a9.but s6)).put hw;have pr7:Paired (T3 (upd H6 w (.lst (xs.dropLast++[r1])))) (xs.dropLast++[r1]) (ws.dropLast++[(q.1,q.2.1,(q.2.2+1)%4)]):=aZ (t6.upd h6) (aJ (fun _ _ t=>(t.mono s6).upd h6) xi);have ty7:T3 (upd H6 w (.lst (xs.dropLast++[r1]))) (.ref ya) q:=(ty5.mono s6).upd h6;have Ba:D3 (upd H6 w (.lst (xs.dropLast++[r1]))) nA (IV (kb++(N++[q]).map fun p=>(p,n))):=by unfold D3;rw[aC Bn.symm];exact s6 _ _ mh
     have h7:(upd H6 w (.lst (xs.dropLast++[r1]))) w=some (.lst (xs.dropLast++[r1])):=a8;generalize (upd H6 w (.lst (xs.dropLast++[r1])))=H7 at b7 pr7 ty7 Ba h7 ⊢;refine⟨_,rfl,.inl ⟨rfl,_,SqL.of h7⟩,_,rfl,.ref ya,q,rfl,ty7,fun r2 H8 s8 t8=>?_⟩;have h8:=s8 _ _ h7;refine⟨w,_,r2,rfl,rfl,h8,few (m:=20000) (by rw[aj];simp;omega),?_⟩;have b9:But nA H (upd H8 w (.lst (xs.dropLast++[r1]++[r2]))):=(b7.trans (a9.but s8)).put hw;have pr9:=aZ (t8.upd (o:=.lst (xs.dropLast++[r1]++[r2])) h8) (aJ (fun _ _ t=>(t.mono s8).upd h8) pr7);have ty9:T3 (upd H8 w (.lst (xs.dropLast++[r1]++[r2]))) (.ref ya) q:=(ty7.mono s8).upd h8;have Az:D3 (upd H8 w (.lst (xs.dropLast++[r1]++[r2]))) nA (IV (kb++(N++[q]).map fun p=>(p,n))):=by unfold D3;rw[aC Bn.symm];exact s8 _ _ Ba
     have h9:(upd H8 w (.lst (xs.dropLast++[r1]++[r2]))) w=some (.lst (xs.dropLast++[r1]++[r2])):=a8;generalize (upd H8 w (.lst (xs.dropLast++[r1]++[r2])))=H9 at b9 pr9 ty9 Az h9 ⊢;refine⟨_,rfl,.inl ⟨rfl,_,SqL.of h9⟩,_,rfl,.ref ya,q,rfl,ty9,sd0,sd4,fun r3 HA sA tA=>?_⟩;have hA:=sA _ _ h9;have hDA:D3 (upd HA w (.lst (xs.dropLast++[r1]++[r2]++[r3]))) nA (IV (kb++(N++[q]).map fun p=>(p,n))):=by unfold D3;rw[aC Bn.symm];exact sA _ _ Az
     refine⟨w,_,r3,rfl,rfl,hA,few (m:=20000) (by rw[aj,aj];simp;omega),⟨_,_,N++[q],_,rfl,(b9.trans (a9.but sA)).put hw,a8,aZ (tA.upd hA) (aJ (fun _ _ t=>(t.mono sA).upd hA) pr9),hDA,?_,?_,?_,?_⟩,?_⟩
     ·have e:ws.dropLast++RM.nbP q=ws.dropLast++[(q.1,q.2.1,(q.2.2+1)%4)]++[(q.1,q.2.1,(q.2.2+3)%4)]++[((RM.aK (q.1,q.2.1) q.2.2.toNat).1,(RM.aK (q.1,q.2.1) q.2.2.toNat).2,(q.2.2+2)%4)]:=by unfold RM.nbP;simp
      rw[e]at sr5;exact sr5
     ·rw[de];exact⟨Nnd,by simp,fun a ha b hb e=>c3.2 (by simp at hb;rw[<- hb,<- e];exact ha)⟩
     ·intro p hp;rcases aw.mp hp with hp|hp
      ·exact Nin p hp
      ·have:p=q:=by simpa using hp
       rw[this];exact⟨by rw[eq];rfl,nq⟩
     ·simp only[aj,br,fh];omega
     ·rw[ml,mt,lO a8,IE hDA,fJ];simp only[aj,ai,br,fh];omega
    ·have c2:q∈kb.map (·.1)++N:=by
      rw[<- xl];refine(RM.aV q _).mp ?_;cases e:(RM.aN (kb++N.map fun p=>(p,n)) q).isSome with
      |true=>rfl
      |false=>rw[e]at c2;exact absurd rfl c2
     refine⟨skip (.inr ?_),less⟩;rcases aw.mp c2 with z|z
     ·exact .inl ((RM.aV q kb).mpr z)
     ·exact .inr z
   ·have z':RM.aN fac q=RM.aN fac t0:=z';rw[eq,hfz]at z';rw[Option.some.inj z'];rfl
 ·have e:xs=[]:=by
   cases xs with
   |nil=>rfl
   |cons _ _=>exact absurd rfl cq
  subst e;cases pr;exact k N H2 b2 hD Nnd fun p=>sr.done p
abbrev s_no:Stmt:=(top 65)
theorem sc_no:aM ["facings","numbers","count","triangle"] ["facings"] (aH s_no):=fS
noncomputable def sp_no(K:W.Frag)(d:Adr):Sp:=fun vs H Q _=>∃(fA:Addr)(h:List Nat),vs=[.ref fA]/\D3 H fA (IV (RM.d5 h))/\(∀r∈h,RM.okR r)/\h.length<=1024/\∀r Ns H',a9 H H'->H r=none->D3 H' r (IV (RM.aF 0 Ns))->RM.Numbering h (Roof.trianglesOf h).length Ns->Q (.ref r) H'
theorem ok_no(F:Fun K "numbers_of" "numbers_of" s_no f fd)(T:Txt K mg base d)(D_nf:aS P w K mg base CX0 4 "number_face" ["first","number","facings","numbers"] (sp_nf K d)):bN P w K mg base CX0 5 f fd ["facings"] (sp_no K d):=by
 refine F.ok sc_no (fun vs H Q E h=>by obtain⟨fA,h,rfl,_⟩:=h;rfl) (fun _ _ _ _ H _ Q E hr h=>?_);have hu:=bI hr;obtain⟨fA,h,rfl,hF,hok,hl,k⟩:=h;have tl:=RM.yA h;have jz:(Roof.trianglesOf h).length<Roof.NONE:=by unfold Roof.NONE;omega
 have fl:(RM.d5 h).length<=4096:=by have:=congrArg List.length (RM.lU h);rw[ai,ai]at this;omega
 refine⟨_,(aA (psN (i:=1) sc_no.nd eD)
   (aA (psN (i:=2) sc_no.nd aL)
   (aA (lG (c8 PassesOwn.never rfl (nG (pv 0)) (pgN (i:=3) sc_no.nd) (aE (cB (e6 (cW hu (pv 3) (pv 1))) (aA (d6 (aU D_nf (hm hr) aX rfl (a7 (pv 3) (a7 (pv 2) (a7 (pv 0) (a7 (pv 1) aD))))))
   (aE (GY (i:=2) sc_no.nd rfl (Or.inl rfl) aL IQ))) bF))))
   (aE (aT (pv 1)))))),?_⟩
 refine fun f hf=>?_
 have nc:fA≠f:=aI hF hf;have lj:∀od,(upd H fA (.frz od (.dT (kvF k3 (IV (RM.d5 h)))))) f=none:=fun od=>gI hF hf
 refine⟨fA,.dT (kvF k3 (IV (RM.d5 h))),by rw[aC nc];exact hF,trivial,fun od=>⟨_,rfl,fA,od,rfl,.inr ⟨_,a8,oB (d:=fA) (od:=od) (kvs:=kvF k3 (IV (RM.d5 h)))
  (fun i σ H2=>∃(Ns:List (List PI3))(v3:Option V),σ=[some (.ref fA),some (.ref f),some (.int (Ns.length:Nat)),v3]/\a9 (upd H fA (.frz od (.dT (kvF k3 (IV (RM.d5 h)))))) H2/\D3 H2 f (IV (RM.aF 0 Ns))/\RM.Numbering h i Ns)
  ⟨[],none,rfl,a9.both (a9.upd hf),by unfold D3;rw[aC nc.symm,a8];rfl,RM.Numbering.start hok⟩ (fun i σ H2 ⟨_,_,_,s2,_⟩=>s2 _ _ a8) ?_ ?_⟩⟩⟩
 ·rintro i kk vv q σ H2 hi hq ⟨Ns,v3,rfl,s2,hD,R⟩;obtain⟨t,ht,rfl⟩:=IG hi;obtain⟨tn,Cc,rfl⟩:∃tn,(Roof.trianglesOf h)[i]? =some tn/\t=RM.tP tn:=by
   have:=congrArg (Option.map Prod.fst) ht;rw[<- bc,xX,RM.lU,bc]at this;cases e:(Roof.trianglesOf h)[i]? with
   |none=>rw[e]at this;cases this
   |some tn=>rw[e]at this;exact⟨tn,rfl,(Option.some.inj this).symm⟩
  have hm:=az Cc;refine⟨_,rfl,_,rfl,f,_,rfl,R3.get (p:=RM.tP tn) hD.rd hq,_,rfl,?_⟩;rw[AE];refine bZ (fun c1=>?_) (fun c1=>?_)
  ·have c1:RM.aN (RM.aF 0 Ns) (RM.tP tn)=none:=by
    cases e:RM.aN (RM.aF 0 Ns) (RM.tP tn)with
    |none=>rfl
    |some z=>rw[e]at c1;cases c1
   obtain⟨ka,kx,O,_,_⟩:=R.ex;have ki:=RM.DM hok tn hm;refine⟨_,rfl,_,rfl,_,rfl,_,rfl,.ref q,(Ns.length:Int),fA,f,RM.d5 h,RM.aF 0 Ns,RM.tP tn,rfl,⟨q,rfl,hq⟩,.inr ⟨od,s2 _ _ a8⟩,hD,nc,fun t z e=>RM.FJ e,by rw[ki];rfl,c1,fl,by rw[RM.bE];exact O.nd,fun t ht=>by rw[RM.bE]at ht;rw[RM.lU];exact O.sub t ht,fun N H3 b3 mi nd3 hN=>?_⟩;have s3:a9 (upd H fA (.frz od (.dT (kvF k3 (IV (RM.d5 h)))))) H3:=But.same b3 s2 (lj od);refine⟨_,rfl,_,_,rfl,rfl,Ns++[N],some (.ref q),?_,s3,by rw[RM.iT];exact mi,R.face hok (fun t ht=>RM.DM hok t ht) (fun p hp=>RM.zU h p hp) jz Cc c1 hN nd3⟩;have el:((Ns++[N]).length:Int)=(Ns.length:Int)+1:=by rw[aj];simp
   rw[el];rfl
  ·have c1:(RM.aN (RM.aF 0 Ns) (RM.tP tn)).isSome=true:=by
    cases e:(RM.aN (RM.aF 0 Ns) (RM.tP tn)).isSome with
    |true=>rfl
    |false=>rw[e]at c1;exact absurd rfl c1
   exact⟨Ns,_,rfl,s2,hD,R.skip Cc c1⟩
 ·rintro σ H2 ⟨Ns,v3,rfl,s2,hD,R⟩;have el:(kvF k3 (IV (RM.d5 h))).length=(Roof.trianglesOf h).length:=by have:=congrArg List.length (RM.lU h);rw[ai,ai]at this;rw[fE,fJ,this]
  rw[el]at R;exact⟨s2 _ _ a8,_,rfl,k f Ns _ (a9.unlock hF s2) hf (by unfold D3;rw[aC nc.symm];exact hD) R⟩
abbrev s_fo:Stmt:=(top 66)
theorem sc_fo:aM ["numbers","faces","triangle","number"] ["numbers"] (aH s_fo):=fS
noncomputable def sp_fo(K:W.Frag)(d:Adr):Sp:=fun vs H Q _=>∃(nA:Addr)(Ns:List (List PI3)),vs=[.ref nA]/\D3 H nA (IV (RM.aF 0 Ns))/\(∀N∈Ns,N≠[])/\(RM.aF 0 Ns).length<=4096/\∀r H',a9 H H'->H r=none->LLS H' r Ns->Q (.ref r) H'
theorem ok_fo(F:Fun K "faces_of" "faces_of" s_fo f fd)(T:Txt K mg base d):bN P w K mg base CX0 1 f fd ["numbers"] (sp_fo K d):=by
 refine F.ok sc_fo (fun vs H Q E h=>by obtain⟨nA,Ns,rfl,_⟩:=h;rfl) (fun _ _ _ _ H _ Q E hr h=>?_);have hu:=bI hr;obtain⟨nA,Ns,rfl,hN,jv,hl,k⟩:=h;refine⟨_,(aA (psN (i:=1) sc_fo.nd (fB aD))
   (aA (lG (c8 PassesOwn.never rfl (vF (pv 0)) (kC rfl (bW (pgN (i:=2) sc_fo.nd) (bW (pgN (i:=3) sc_fo.nd) gW))) (aA (cB (bK gY (pv 3) (bY c7 (by rfl) T.len PySem.boot_len (a7 (pv 1) aD)) (bU _)) (aE (d6 (gX PySem.F.plainAttrs_list PySem.F.slot_list_append PySem.F.type_list_append cC (pv 1) (a7 (fB aD) aD)))) bF)
   (aE (d6 (gX PySem.F.plainAttrs_list PySem.F.slot_list_append PySem.F.type_list_append cC (bH jD (pv 1) (pv 3) (fun _ _=>rfl)) (a7 (pv 2) aD)))))))
   (aE (aT (pv 1))))),?_⟩
 refine⟨cv _,fun f hf=>?_⟩;have nc:nA≠f:=aI hN hf;have lj:∀od,(upd H nA (.frz od (.dT (kvF k3 (IV (RM.aF 0 Ns)))))) f=none:=fun od=>gI hN hf
 refine⟨nA,.dT (kvF k3 (IV (RM.aF 0 Ns))),by rw[aC nc];exact hN,trivial,fun od=>⟨_,rfl,nA,od,_,rfl,a8,vS (d:=nA) (od:=od) (kvs:=kvF k3 (IV (RM.aF 0 Ns)))
  (fun i σ H2=>∃(bs:List Addr)(Fs:List (List PI3))(v2 v3:Option V),σ=[some (.ref nA),some (.ref f),v2,v3]/\a9 (upd H nA (.frz od (.dT (kvF k3 (IV (RM.aF 0 Ns)))))) H2/\H2 f=some (.lst (bs.map V.ref))/\Paired (LS H2) bs Fs/\(f::bs).Nodup/\(∀b∈bs,(upd H nA (.frz od (.dT (kvF k3 (IV (RM.aF 0 Ns)))))) b=none)/\RM.qF Ns i Fs)
  ⟨[],[],none,none,rfl,a9.both (a9.upd hf),by rw[aC nc.symm,a8];rfl,.nil,by simp,fun b hb=>(by cases hb),RM.qF.start Ns⟩ (fun i σ H2 ⟨_,_,_,_,_,s2,_⟩=>s2 _ _ a8) ?_ ?_⟩⟩
 ·rintro i kk vv q T' σ H2 hi hq hT' ⟨bs,Fs,v2,v3,rfl,s2,hf2,pr,nd,fr,pre⟩;obtain⟨t,ht,rfl⟩:=IG hi;obtain⟨m,hm,rfl⟩:∃m,(RM.aF 0 Ns)[i]? =some (t,m)/\vv=.int m:=by
   unfold IV at ht;rw[bc]at ht;cases e:(RM.aF 0 Ns)[i]? with
   |none=>rw[e]at ht;cases ht
   |some x=>rw[e]at ht;cases ht;exact⟨x.2,rfl,rfl⟩
  have s3:a9 H2 (upd H2 T' (.tup [.ref q,.int m])):=a9.upd hT';refine⟨T',_,rfl,SqT.of a8,rfl,_,_,rfl,_,_,rfl,rfl,?_⟩;have yn:=a9.trans s2 s3;have zy:=s3 _ _ hf2;have Ai:T3 (upd H2 T' (.tup [.ref q,.int m])) (.ref q) t:=⟨q,rfl,s3 _ _ hq⟩;have nv:=aJ (fun _ _ z=>LS.mono s3 z) pr;generalize (upd H2 T' (.tup [.ref q,.int m]))=H3 at s3 yn zy Ai nv ⊢;have rj:=uL hm;have lb:=pairs_len pr;have lFs:Fs.length<=4096:=by have h1:=RM.kN pre.ne;have h2:=congrArg List.length (RM.bE Fs 0);rw[ai,pre.eq,bz]at h2;omega
  have fin:∀(H5:Hp)(cs:List Addr)(b:Addr)(F:List (List PI3))(L:List PI3),a9 (upd H nA (.frz od (.dT (kvF k3 (IV (RM.aF 0 Ns)))))) H5->H5 f=some (.lst ((cs++[b]).map V.ref))->Paired (LS H5) cs F->LS H5 b L->(f::(cs++[b])).Nodup->(∀c∈cs++[b],(upd H nA (.frz od (.dT (kvF k3 (IV (RM.aF 0 Ns)))))) c=none)->T3 H5 (.ref q) t->m=(F.length:Int)->RM.qF Ns (i+1) (F++[L++[t]]) ->
    ∃ys,H5 b=some (.lst ys)/\ys.length<=4096/\((cs++[b]).map V.ref)[m.toNat]? =some (.ref b)/\∃(bs:List Addr)(Fs:List (List PI3))(v2 v3:Option V),([some (.ref nA),some (.ref f),some (.ref q),some (.int m)]:List (Option V))=[some (.ref nA),some (.ref f),v2,v3]/\a9 (upd H nA (.frz od (.dT (kvF k3 (IV (RM.aF 0 Ns)))))) (upd H5 b (.lst (ys++[.ref q])))/\(upd H5 b (.lst (ys++[.ref q]))) f=some (.lst (bs.map V.ref))/\Paired (LS (upd H5 b (.lst (ys++[.ref q])))) bs Fs/\(f::bs).Nodup/\(∀b∈bs,(upd H nA (.frz od (.dT (kvF k3 (IV (RM.aF 0 Ns)))))) b=none)/\RM.qF Ns (i+1) Fs:=by
   intro H5 cs b F L s5 hf5 pF pL nd5 fr5 tq5 em rn;obtain⟨ys,Aa,py⟩:=pL;have hat:((cs++[b]).map V.ref)[m.toNat]? =some (.ref b):=by
    have e1:m.toNat=F.length:=by omega
    have e2:=pairs_len pF;rw[e1,<- e2,cj,dm (by simp)];simp
   have ly:=pairs_len py;have lL:L.length<=4096:=by have h2:=congrArg List.length rn.eq;have h3:=congrArg List.length (RM.bE (F++[L++[t]]) 0);rw[ai]at h3;rw[bz]at h2;rw[gp,aj]at h3;simp at h3;omega
   have ndp:=dc.mp nd5;have nbf:b≠f:=fun z=>ndp.1 (z▸bf _ bh)
   have ncb:∀c∈cs,c≠b:=fun c hc=>(de.mp ndp.2).2.2 c hc b bh
   refine⟨ys,Aa,by omega,hat,cs++[b],F++[L++[t]],_,_,rfl,a9.put s5 (fr5 b (bf _ bh)),by rw[aC nbf.symm];exact hf5,?_,nd5,fr5,rn⟩;exact aZ ⟨ys++[.ref q],a8,aZ (tq5.upd Aa) (aJ (fun _ _ z=>z.upd Aa) py)⟩ (aJ (fun c G ⟨hc,_,z⟩=>z.upd Aa (ncb c hc)) (lH pF))
  refine⟨_,rfl,_,rfl,f,_,rfl,.inl (SqL.of zy),rfl,_,rfl,?_⟩;rw[ai,lb];rcases pre.step jv hm with⟨em,rn⟩|⟨F,L,eF,em,rn⟩
  ·refine bZ (fun c1=>?_) (fun c1=>absurd (decide_eq_true (by rw[em])) c1);refine⟨_,rfl,.inl ⟨rfl,_,SqL.of zy⟩,cv _,fun l rh=>?_⟩;have s4:a9 H3 (upd H3 l (.lst [])):=a9.upd rh;have hf4:=s4 _ _ zy;have nlf:l≠f:=fun z=>by rw[z,zy]at rh;cases rh
   refine⟨f,_,.ref l,rfl,rfl,hf4,by rw[ai,lb];exact few (m:=4096) lFs,?_⟩;have nlb:∀b∈bs,b≠l:=fun b hb z=>by obtain⟨j,hj⟩:=dz.mp hb;obtain⟨_,_,⟨ys,hy,_⟩⟩:=pairs_at nv hj;rw[z,rh]at hy;cases hy
   have nbf:∀b∈bs,b≠f:=fun b hb z=>(dc.mp nd).1 (z▸hb)
   have eb:bs.map V.ref++[V.ref l]=(bs++[l]).map V.ref:=by simp
   rw[eb];have hf5:(upd (upd H3 l (.lst [])) f (.lst ((bs++[l]).map V.ref))) f=some (.lst ((bs++[l]).map V.ref)):=a8;obtain⟨ys,y1,y2,y3,y4⟩:=fin (upd (upd H3 l (.lst [])) f (.lst ((bs++[l]).map V.ref))) bs l Fs [] (a9.put (a9.trans yn s4) (lj od)) hf5 (aJ (fun b F ⟨hb,_,z⟩=>(LS.mono s4 z).upd hf4 (nbf b hb)) (lH nv)) ⟨[],by rw[aC nlf,a8],.nil⟩ (by
     rw[dc]at nd ⊢;refine⟨fun z=>?_,?_⟩
     ·rcases aw.mp z with z|z
      ·exact nd.1 z
      ·exact nlf (iw.mp z).symm
     ·rw[de];exact⟨nd.2,by simp,fun a ha b hb e=>nlb a ha (by simp at hb;rw[e,hb])⟩) (by
     intro c hc;rcases aw.mp hc with hc|hc
     ·exact fr c hc
     ·have:c=l:=by simpa using hc
      rw[this];exact yn.free rh) ((Ai.mono s4).upd hf4) em rn
   exact⟨_,rfl,_,rfl,f,_,_,_,rfl,rfl,SqL.of hf5,aW (by omega) y3,.inl ⟨rfl,_,SqL.of y1⟩,_,rfl,l,ys,.ref q,rfl,rfl,y1,few y2,y4⟩
  ·refine bZ (fun c1=>?_) (fun c1=>?_)
   ·have c1:=V.int.inj (ay c1);rw[eF,aj]at c1;simp at c1;omega
   ·subst eF;obtain⟨cs,b,eb,p1,p2⟩:=qQ nv;subst eb;obtain⟨ys,y1,y2,y3,y4⟩:=fin _ cs b F L yn zy p1 p2 nd fr Ai em rn;exact⟨_,rfl,_,rfl,f,_,_,_,rfl,rfl,SqL.of zy,aW (by omega) y3,.inl ⟨rfl,_,SqL.of y1⟩,_,rfl,b,ys,.ref q,rfl,rfl,y1,few y2,y4⟩
 ·rintro σ H2 ⟨bs,Fs,v2,v3,rfl,s2,hf2,pr,nd,fr,pre⟩;have el:(kvF k3 (IV (RM.aF 0 Ns))).length=(RM.aF 0 Ns).length:=by rw[fE,fJ]
  rw[el]at pre;have e:=pre.done jv;subst e;have hN2:H2 nA=some (.frz od (.dT (kvF k3 (IV (RM.aF 0 Fs))))):=s2 _ _ a8;refine⟨hN2,_,rfl,k f _ (a9.unlock hN s2) hf ⟨bs,by rw[aC nc.symm];exact hf2,aJ (fun b F ⟨xs,h1,h2⟩=>⟨xs,?_,aJ (fun _ _ z=>z.rF hN2 (by intro _ z;cases z)) h2⟩) pr⟩⟩;rw[aC (eJ h1 hN2 (by intro z;cases z))];exact h1
abbrev s_i:Stmt:=(inClass (top 58) 0)
theorem sc_i:aM ["self","cells"] ["self","cells"] (aH s_i):=fS
structure jP(C:List (Nat×Nat))(R:Addr)(H:Hp)(x:Addr)(cA dA hA fA nA gA:Addr)(ht:List (PI×Int))(Ns:List (List PI3)):Prop where
 ins:∃dx fs,H x=some (.ins R dx fs)/\fs.lookup ("cells" : Str)=some (.ref cA)/\fs.lookup ("depths" : Str)=some (.ref dA)/\fs.lookup ("heights" : Str)=some (.ref hA)/\fs.lookup ("facings" : Str)=some (.ref fA)/\fs.lookup ("numbers" : Str)=some (.ref nA)/\fs.lookup ("faces" : Str)=some (.ref gA)
 cells:D2 H cA (CS C)
 CA:D2 H dA (IV (RM.bT (Roof.halvesOf C)))
 DJ:D2 H hA (IV ht)
 hok:RM.AF (Roof.halvesOf C) ht
 DN:D3 H fA (IV (RM.d5 (Roof.halvesOf C)))
 K3:D3 H nA (IV (RM.aF 0 Ns))
 nok:RM.Numbering (Roof.halvesOf C) (Roof.trianglesOf (Roof.halvesOf C)).length Ns
 faces:LLS H gA Ns
 apart:[cA,dA,hA,fA,nA,gA].Nodup
theorem jP.mono{C:List (Nat×Nat)}{R:Addr}{H H':Hp}{x cA dA hA fA nA gA:Addr}{ht:List (PI×Int)}{Ns:List (List PI3)}(r:jP C R H x cA dA hA fA nA gA ht Ns)(e:a9 H H'):jP C R H' x cA dA hA fA nA gA ht Ns:=
 ⟨let⟨dx,fs,h,q⟩:=r.ins;⟨dx,fs,e _ _ h,q⟩,e _ _ r.cells,e _ _ r.CA,e _ _ r.DJ,r.hok,e _ _ r.DN,e _ _ r.K3,r.nok,r.faces.mono e,r.apart⟩
theorem LLS.SK{H:Hp}{a x:Addr}{Fs:List (List PI3)}{C dx:Addr}{fs:List (Str×V)}{o:HO}(h:LLS H a Fs)(hx:H x=some (.ins C dx fs)):LLS (upd H x o) a Fs:=by obtain⟨bs,h1,h2⟩:=h;refine⟨bs,by rw[aC (eJ h1 hx (by intro z;cases z))];exact h1,aJ (fun b F ⟨xs,e1,e2⟩=>⟨xs,by rw[aC (eJ e1 hx (by intro z;cases z))];exact e1,aJ (fun _ _ z=>z.rF hx (by intro _ z;cases z)) e2⟩) h2⟩
noncomputable def sp_i(K:W.Frag)(d:Adr):Sp:=fun vs H Q _=>∃(x dx cA:Addr)(C:List (Nat×Nat)),vs=[.ref x,.ref cA]/\H x=some (.ins d.Roof dx [])/\D2 H cA (CS C)/\C.Nodup/\(∀c∈C,c.1<64/\c.2<64)/\C.length<=256/\C≠[]/\∀dA hA fA nA gA ht Ns H',(∀b o,H b=some o->b≠x->H' b=some o)->jP C d.Roof H' x cA dA hA fA nA gA ht Ns->Q .non H'
theorem ok_i(F:Fun K "__init__" "Roof.__init__" s_i f fd)(T:Txt K mg base d)(D_do:aS P w K mg base CX0 6 "depths_of" ["cells"] (sp_do K d))(D_ho2:aS P w K mg base CX0 3 "heights_of" ["depths"] (sp_ho2 K d))(D_fo3:aS P w K mg base CX0 5 "facings_of" ["depths","heights"] (sp_fo3 K d))(D_no:aS P w K mg base CX0 5 "numbers_of" ["facings"] (sp_no K d))(D_fo:aS P w K mg base CX0 1 "faces_of" ["numbers"] (sp_fo K d)):bN P w K mg base CX0 7 f fd ["self","cells"] (sp_i K d):=by
 refine F.ok sc_i (fun vs H Q E h=>by obtain⟨x,dx,cA,C,rfl,_⟩:=h;rfl) (fun _ _ _ _ H _ Q E hr h=>?_);have hu:=bI hr;obtain⟨x,dx,cA,C,rfl,hx,hC,nd,bd,um,jv,k⟩:=h;have hok:=RM.aO bd;have hhl:=RM.mD C;have hl:(Roof.halvesOf C).length<=1024:=by omega
 have qy:((Roof.halvesOf C).map RM.hP).Nodup:=RM.dY ((RM.iE nd bd).imp fun{a b} h e=>by omega) fun a ha b hb e=>RM.pW (hok a ha) (hok b hb) e
 refine⟨_,(aA (pH (pv 0) (pv 1) rfl)
   (aA (pH (pv 0) (aU D_do (hm hr) aX rfl (a7 (pv 1) aD)) rfl)
   (aA (pH (pv 0) (aU D_ho2 (hm hr) aX rfl (a7 (gM (pv 0) rfl) aD)) rfl)
   (aA (pH (pv 0) (aU D_fo3 (hm hr) aX rfl (a7 (gM (pv 0) rfl) (a7 (gM (pv 0) rfl) aD))) rfl)
   (aA (pH (pv 0) (aU D_no (hm hr) aX rfl (a7 (gM (pv 0) rfl) aD)) rfl)
   (aE (pH (pv 0) (aU D_fo (hm hr) aX rfl (a7 (gM (pv 0) rfl) aD)) rfl))))))),?_⟩
 refine⟨_,rfl,_,rfl,x,d.Roof,dx,[],rfl,hx,T.cR,T.D7,by decide,?_⟩;have yq:cA≠x:=eJ hC hx (by intro z;cases z);have c1:But x H (upd H x (.ins d.Roof dx (bX "cells" (.ref cA) []))):=(But.refl x H).here;have x1:(upd H x (.ins d.Roof dx (bX "cells" (.ref cA) []))) x=some (.ins d.Roof dx (bX "cells" (.ref cA) [])):=a8;have l1:=dO "cells" (.ref cA) [];generalize e1:bX "cells" (V.ref cA) []=fs1 at c1 x1 l1 ⊢;have q1:fs1.lookup ("cells" : Str)=some (.ref cA):=by rw[<- e1,bR,ag rfl]
 generalize (upd H x (.ins d.Roof dx fs1))=H1 at c1 x1 ⊢;have hC1:D2 H1 cA (CS C):=c1 _ _ yq hC;refine⟨_,rfl,cA,C,rfl,hC1,nd,bd,um,jv,fun dA H2 s2 fd2 Dn=>?_⟩;refine⟨_,rfl,x,d.Roof,dx,fs1,rfl,s2 _ _ x1,T.cR,T.kF,by simp at l1;omega,?_⟩;have c2:But x H (upd H2 x (.ins d.Roof dx (bX "depths" (.ref dA) fs1))):=(c1.trans (a9.but s2)).here;have x2:(upd H2 x (.ins d.Roof dx (bX "depths" (.ref dA) fs1))) x=some (.ins d.Roof dx (bX "depths" (.ref dA) fs1)):=a8;have xk:dA≠x:=eJ Dn (s2 _ _ x1) (by intro z;cases z);have mi:D2 (upd H2 x (.ins d.Roof dx (bX "depths" (.ref dA) fs1))) dA (IV (RM.bT (Roof.halvesOf C))):=by unfold D2;rw[aC xk];exact Dn
 have l2:=dO "depths" (.ref dA) fs1;have a2:∀g,g≠("depths" : Str)->(bX "depths" (.ref dA) fs1).lookup g=fs1.lookup g:=fun g hg=>by rw[bR,af hg]
 have q2:(bX "depths" (.ref dA) fs1).lookup ("depths" : Str)=some (.ref dA):=by rw[bR,ag rfl]
 have ncd:cA≠dA:=fun z=>by have:=hC1;unfold D2 at this;rw[z,fd2]at this;cases this
 generalize bX "depths" (V.ref dA) fs1=fs2 at*;generalize (upd H2 x (.ins d.Roof dx fs2))=H3 at c2 x2 mi ⊢;refine⟨_,rfl,x,d.Roof,dx,fs2,_,rfl,x2,T.cR,T.kF,q2,?_⟩;refine⟨dA,Roof.halvesOf C,rfl,mi,hok,hl,fun hA ht H4 s4 fh4 hH4 Cb=>?_⟩;refine⟨_,rfl,x,d.Roof,dx,fs2,rfl,s4 _ _ x2,T.cR,T.lI,by simp at l1;omega,?_⟩;have c3:But x H (upd H4 x (.ins d.Roof dx (bX "heights" (.ref hA) fs2))):=(c2.trans (a9.but s4)).here;have x3:(upd H4 x (.ins d.Roof dx (bX "heights" (.ref hA) fs2))) x=some (.ins d.Roof dx (bX "heights" (.ref hA) fs2)):=a8;have nhx:hA≠x:=eJ hH4 (s4 _ _ x2) (by intro z;cases z);have hH5:D2 (upd H4 x (.ins d.Roof dx (bX "heights" (.ref hA) fs2))) hA (IV ht):=by unfold D2;rw[aC nhx];exact hH4
 have mh:D2 (upd H4 x (.ins d.Roof dx (bX "heights" (.ref hA) fs2))) dA (IV (RM.bT (Roof.halvesOf C))):=by unfold D2;rw[aC xk];exact s4 _ _ mi
 have l3:=dO "heights" (.ref hA) fs2;have a3:∀g,g≠("heights" : Str)->(bX "heights" (.ref hA) fs2).lookup g=fs2.lookup g:=fun g hg=>by rw[bR,af hg]
 have q3:(bX "heights" (.ref hA) fs2).lookup ("heights" : Str)=some (.ref hA):=by rw[bR,ag rfl]
 have yt:cA≠hA:=fun z=>by have:=c2 _ _ yq hC;rw[z,fh4]at this;cases this
 have ndh:dA≠hA:=fun z=>by have:=mi;unfold D2 at this;rw[z,fh4]at this;cases this
 generalize bX "heights" (V.ref hA) fs2=fs3 at*;generalize (upd H4 x (.ins d.Roof dx fs3))=H5 at c3 x3 hH5 mh ⊢;have q32:fs3.lookup ("depths" : Str)=some (.ref dA):=by rw[a3 _ (by decide)];exact q2
 refine⟨_,rfl,x,d.Roof,dx,fs3,_,rfl,x3,T.cR,T.kF,q32,_,rfl,x,d.Roof,dx,fs3,_,rfl,x3,T.cR,T.lI,q3,?_⟩;refine⟨dA,hA,Roof.halvesOf C,ht,rfl,mh,hH5,ndh,Cb,qy,hl,fun fA H6 s6 ff6 Dm=>?_⟩;refine⟨_,rfl,x,d.Roof,dx,fs3,rfl,s6 _ _ x3,T.cR,T.lJ,by simp at l1;omega,?_⟩;have c4:But x H (upd H6 x (.ins d.Roof dx (bX "facings" (.ref fA) fs3))):=(c3.trans (a9.but s6)).here;have x4:(upd H6 x (.ins d.Roof dx (bX "facings" (.ref fA) fs3))) x=some (.ins d.Roof dx (bX "facings" (.ref fA) fs3)):=a8;have nfx:fA≠x:=eJ Dm (s6 _ _ x3) (by intro z;cases z);have hF7:D3 (upd H6 x (.ins d.Roof dx (bX "facings" (.ref fA) fs3))) fA (IV (RM.d5 (Roof.halvesOf C))):=by unfold D3;rw[aC nfx];exact Dm
 have hH7:D2 (upd H6 x (.ins d.Roof dx (bX "facings" (.ref fA) fs3))) hA (IV ht):=by unfold D2;rw[aC nhx];exact s6 _ _ hH5
 have Ba:D2 (upd H6 x (.ins d.Roof dx (bX "facings" (.ref fA) fs3))) dA (IV (RM.bT (Roof.halvesOf C))):=by unfold D2;rw[aC xk];exact s6 _ _ mh
 have l4:=dO "facings" (.ref fA) fs3;have a4:∀g,g≠("facings" : Str)->(bX "facings" (.ref fA) fs3).lookup g=fs3.lookup g:=fun g hg=>by rw[bR,af hg]
 have q4:(bX "facings" (.ref fA) fs3).lookup ("facings" : Str)=some (.ref fA):=by rw[bR,ag rfl]
 have ncf:cA≠fA:=fun z=>by have:=c3 _ _ yq hC;rw[z,ff6]at this;cases this
 have ndf:dA≠fA:=fun z=>by have:=mh;unfold D2 at this;rw[z,ff6]at this;cases this
 have nhf:hA≠fA:=fun z=>by have:=hH5;unfold D2 at this;rw[z,ff6]at this;cases this
 generalize bX "facings" (V.ref fA) fs3=fs4 at*;generalize (upd H6 x (.ins d.Roof dx fs4))=H7 at c4 x4 hF7 hH7 Ba ⊢;refine⟨_,rfl,x,d.Roof,dx,fs4,_,rfl,x4,T.cR,T.lJ,q4,?_⟩;refine⟨fA,Roof.halvesOf C,rfl,hF7,hok,hl,fun nA Ns H8 s8 fn8 hN8 nok=>?_⟩;refine⟨_,rfl,x,d.Roof,dx,fs4,rfl,s8 _ _ x4,T.cR,T.vM,by simp at l1;omega,?_⟩;have c5:But x H (upd H8 x (.ins d.Roof dx (bX "numbers" (.ref nA) fs4))):=(c4.trans (a9.but s8)).here;have x5:(upd H8 x (.ins d.Roof dx (bX "numbers" (.ref nA) fs4))) x=some (.ins d.Roof dx (bX "numbers" (.ref nA) fs4)):=a8;have nnx:nA≠x:=eJ hN8 (s8 _ _ x4) (by intro z;cases z);have hN9:D3 (upd H8 x (.ins d.Roof dx (bX "numbers" (.ref nA) fs4))) nA (IV (RM.aF 0 Ns)):=by unfold D3;rw[aC nnx];exact hN8
 have hF9:D3 (upd H8 x (.ins d.Roof dx (bX "numbers" (.ref nA) fs4))) fA (IV (RM.d5 (Roof.halvesOf C))):=by unfold D3;rw[aC nfx];exact s8 _ _ hF7
 have hH9:D2 (upd H8 x (.ins d.Roof dx (bX "numbers" (.ref nA) fs4))) hA (IV ht):=by unfold D2;rw[aC nhx];exact s8 _ _ hH7
 have Az:D2 (upd H8 x (.ins d.Roof dx (bX "numbers" (.ref nA) fs4))) dA (IV (RM.bT (Roof.halvesOf C))):=by unfold D2;rw[aC xk];exact s8 _ _ Ba
 have l5:=dO "numbers" (.ref nA) fs4;have a5:∀g,g≠("numbers" : Str)->(bX "numbers" (.ref nA) fs4).lookup g=fs4.lookup g:=fun g hg=>by rw[bR,af hg]
 have q5:(bX "numbers" (.ref nA) fs4).lookup ("numbers" : Str)=some (.ref nA):=by rw[bR,ag rfl]
 have ncn:cA≠nA:=fun z=>by have:=c4 _ _ yq hC;rw[z,fn8]at this;cases this
 have ndn:dA≠nA:=fun z=>by have:=Ba;unfold D2 at this;rw[z,fn8]at this;cases this
 have nhn:hA≠nA:=fun z=>by have:=hH7;unfold D2 at this;rw[z,fn8]at this;cases this
 have nfn:fA≠nA:=fun z=>by have:=hF7;unfold D3 at this;rw[z,fn8]at this;cases this
 generalize bX "numbers" (V.ref nA) fs4=fs5 at*;generalize (upd H8 x (.ins d.Roof dx fs5))=H9 at c5 x5 hN9 hF9 hH9 Az ⊢;obtain⟨ka,kx,O,_,_⟩:=nok.ex;have tl:=RM.yA (Roof.halvesOf C);have nl:(RM.aF 0 Ns).length<=4096:=by have h1:=congrArg List.length (RM.bE Ns 0);have h2:=RM.cO O.nd O.sub;rw[ai]at h1 h2;omega
 refine⟨_,rfl,x,d.Roof,dx,fs5,_,rfl,x5,T.cR,T.vM,q5,?_⟩;refine⟨nA,Ns,rfl,hN9,O.ne,nl,fun gA HA sA Dv hG=>?_⟩;refine⟨_,rfl,x,d.Roof,dx,fs5,rfl,sA _ _ x5,T.cR,T.K4,by simp at l1;omega,?_⟩;have a6:∀g,g≠("faces" : Str)->(bX "faces" (.ref gA) fs5).lookup g=fs5.lookup g:=fun g hg=>by rw[bR,af hg]
 have q6:(bX "faces" (.ref gA) fs5).lookup ("faces" : Str)=some (.ref gA):=by rw[bR,ag rfl]
 have xA:=sA _ _ x5;have ncg:cA≠gA:=fun z=>by have:=c5 _ _ yq hC;rw[z,Dv]at this;cases this
 have ndg:dA≠gA:=fun z=>by have:=Az;unfold D2 at this;rw[z,Dv]at this;cases this
 have nhg:hA≠gA:=fun z=>by have:=hH9;unfold D2 at this;rw[z,Dv]at this;cases this
 have nfg:fA≠gA:=fun z=>by have:=hF9;unfold D3 at this;rw[z,Dv]at this;cases this
 have nng:nA≠gA:=fun z=>by have:=hN9;unfold D3 at this;rw[z,Dv]at this;cases this
 refine k dA hA fA nA gA ht Ns _ (fun b o e nb=>by rw[aC nb];exact sA _ _ (c5 b o nb e)) ⟨⟨dx,_,a8,?_,?_,?_,?_,?_,q6⟩,?_,?_,?_,Cb,?_,?_,nok,LLS.SK hG xA,?_⟩
 ·rw[a6 _ (by decide),a5 _ (by decide),a4 _ (by decide),a3 _ (by decide),a2 _ (by decide)];exact q1
 ·rw[a6 _ (by decide),a5 _ (by decide),a4 _ (by decide)];exact q32
 ·rw[a6 _ (by decide),a5 _ (by decide),a4 _ (by decide)];exact q3
 ·rw[a6 _ (by decide),a5 _ (by decide)];exact q4
 ·rw[a6 _ (by decide)];exact q5
 ·unfold D2;rw[aC yq];exact sA _ _ (c5 _ _ yq hC)
 ·unfold D2;rw[aC xk];exact sA _ _ Az
 ·unfold D2;rw[aC nhx];exact sA _ _ hH9
 ·unfold D3;rw[aC nfx];exact sA _ _ hF9
 ·unfold D3;rw[aC nnx];exact sA _ _ hN9
 ·simp only[dc,ak,fo,or_false,not_or,not_false_eq_true,nodup_nil,and_true];exact⟨⟨ncd,yt,ncf,ncn,ncg⟩,⟨ndh,ndf,ndn,ndg⟩,⟨nhf,nhn,nhg⟩,⟨nfn,nfg⟩,nng⟩
abbrev s_ct:Stmt:=(top 79)
theorem sc_ct:aM ["i","j","s"] ["i","j","s"] (aH s_ct):=fS
noncomputable def sp_ct(K:W.Frag)(d:Adr):Sp:=fun vs H Q E=>∃i j s0:Int,vs=[.int i,.int j,.int s0]/\(i<=127->j<=127->s0<=3->Q .non H)/\(¬(i<=127/\j<=127/\s0<=3)->E (.ref d.bM) none H)
theorem ok_ct(F:Fun K "check_triangle" "check_triangle" s_ct f fd)(T:Txt K mg base d):bN P w K mg base CXf 1 f fd ["i","j","s"] (sp_ct K d):=by
 refine okX F sc_ct (fun vs H Q E h=>by obtain⟨i,j,s0,rfl,_⟩:=h;rfl) (fun _ _ _ _ H _ Q E hr hok h=>?_);have hu:=bI hr;obtain⟨i,j,s0,rfl,k1,k2⟩:=h;refine⟨_,(aE (cB (PW.pt (sU (bK nK (pv 0) (cH T.jT rfl) (bU _)) (sU (bK nK (pv 1) (cH T.jT rfl) (bU _)) (pE (bK nK (pv 2) (cH T.rH rfl) (bU _)))))) (aE (dG hok PySem.F.excBase_Exception T.uG rfl)) bF)),?_⟩;refine⟨_,rfl,_,_,rfl,rfl,_,rfl,?_⟩;refine bZ (fun c=>zA (k2 ?_)) (fun c=>?_)
 ·have c:=ay c;omega
 have c:i<=127:=by
  have:¬i>127:=fun z=>c (decide_eq_true z)
  omega
 refine⟨_,rfl,_,_,rfl,rfl,_,rfl,?_⟩;refine bZ (fun c2=>zA (k2 ?_)) (fun c2=>?_)
 ·have c2:=ay c2;omega
 have c2:j<=127:=by
  have:¬j>127:=fun z=>c2 (decide_eq_true z)
  omega
 refine⟨_,rfl,_,_,rfl,rfl,_,rfl,?_⟩;refine bZ (fun c3=>k2 ?_) (fun c3=>k1 c c2 ?_)
 ·have c3:=ay c3;omega
 ·have:¬s0>3:=fun z=>c3 (decide_eq_true z)
  omega
abbrev s_rt:Stmt:=(top 80)
theorem sc_rt:aM ["t"] ["t"] (aH s_rt):=fS
structure wJ(h:List Nat)(R:Addr)(H:Hp)(x:Addr):Prop where
 ex:∃dx fs dA hA fA ht,H x=some (.ins R dx fs)/\fs.lookup ("depths" : Str)=some (.ref dA)/\fs.lookup ("heights" : Str)=some (.ref hA)/\fs.lookup ("facings" : Str)=some (.ref fA)/\R2 H dA (IV (RM.bT h))/\R2 H hA (IV ht)/\RM.AF h ht/\R3 H fA (IV (RM.d5 h))
theorem wJ.mono{h:List Nat}{R:Addr}{H H':Hp}{x:Addr}(r:wJ h R H x)(e:a9 H H'):wJ h R H' x:=
 let⟨dx,fs,dA,hA,fA,ht,h1,q1,q2,q3,h2,h3,h4,h5⟩:=r.ex
 ⟨dx,fs,dA,hA,fA,ht,e _ _ h1,q1,q2,q3,h2.mono e,h3.mono e,h4,h5.mono e⟩
theorem jP.l{C:List (Nat×Nat)}{R:Addr}{H:Hp}{x cA dA hA fA nA gA:Addr}{ht:List (PI×Int)}{Ns:List (List PI3)}(r:jP C R H x cA dA hA fA nA gA ht Ns):wJ (Roof.halvesOf C) R H x:=
 let⟨dx,fs,h1,_,q2,q3,q4,_⟩:=r.ins
 ⟨dx,fs,dA,hA,fA,ht,h1,q2,q3,q4,r.CA.rd,r.DJ.rd,r.hok,r.DN.rd⟩
noncomputable def sp_rt(K:W.Frag)(d:Adr):Sp:=fun vs H Q E=>∃(a:Addr)(ns:List Int),vs=[.ref a]/\SqL K H a (ns.map V.int)/\ns.length<=4096/\RM.inB ns/\(∀F,Roof.houseOf (RoofBNeutral.text ns)=some (RM.aQ F)->Roof.isHouse (RM.aQ F)=true->∀x cA dA hA fA nA gA ht Ns H',a9 H H'->jP (RM.aQ F) d.Roof H' x cA dA hA fA nA gA ht Ns->Q (.ref x) H')/\(Roof.houseOf (RoofBNeutral.text ns)=none->E (.ref d.cF) none H)
theorem ok_rt(F:Fun K "roof_told" "roof_told" s_rt f fd)(T:Txt K mg base d)(D_ht:aS P w K mg base CXf 6 "house_told" ["t"] (sp_ht K d)){fI:Addr}{fdI:FuncData}(ng:Mk K d.Roof fI)(D_i:bN P w K mg base CX0 7 fI fdI ["self","cells"] (sp_i K d))(Dy:Binds K fdI ["self","cells"] []):bN P w K mg base CXf 9 f fd ["t"] (sp_rt K d):=by
 refine okX F sc_rt (fun vs H Q E h=>by obtain⟨a,ns,rfl,_⟩:=h;rfl) (fun _ _ _ _ H _ Q E hr hok h=>?_);have hu:=bI hr;obtain⟨a,ns,rfl,hS,hl,hB,k1,k2⟩:=h;refine⟨_,(aE (aT (JW ng D_i (hm hr) rfl T.MT Dy .nil aX (a7 (aU D_ht (hm hr) (yM hok) rfl (a7 (pv 0) aD)) aD)))),?_⟩;refine⟨_,rfl,a,ns,rfl,hS,hl,hB,fun F hF hH cA H1 s1 fc hC=>?_,k2⟩;obtain⟨um,ro,jv⟩:=mC hH;refine fun x dx nx xk nex=>?_
 have hxx:(upd (upd H1 dx (.own x)) x (.ins d.Roof dx [])) x=some (.ins d.Roof dx []):=a8;refine⟨x,dx,cA,RM.aQ F,rfl,hxx,by unfold D2;rw[aC (aI hC nx),aC (aI hC xk)];exact hC,rA F,fun c hc=>⟨(RM.gS.mp hc).1,(RM.gS.mp hc).2.1⟩,um,jv,fun dA hA fA nA gA ht Ns H2 kp ra=>⟨rfl,k1 F hF hH x cA dA hA fA nA gA ht Ns H2 (a9.trans s1 (a9.made nx xk kp)) ra⟩⟩
abbrev s_fo4:Stmt:=(top 70)
theorem sc_fo4:aM ["half","roof","corners","low","side","corner"] ["half","roof"] (aH s_fo4):=fS
theorem K6{α β:Type}{f:α->β}{l:List α}{i:Nat}{y:β}(h:(l.map f)[i]? =some y):∃x,l[i]? =some x/\y=f x:=by
 rw[bc]at h;cases e:l[i]? with
 |none=>rw[e]at h;cases h
 |some x=>rw[e]at h;cases h;exact⟨x,rfl,rfl⟩
theorem BM(h:List Nat)(p:PI):(∀c,RM.fR h p=some c->((List.range 4).filter fun n=>decide (RM.hgt h (RM.aB p n)=RM.aR h p))=[c])/\(RM.fR h p=none->((List.range 4).filter fun n=>decide (RM.hgt h (RM.aB p n)=RM.aR h p)).length≠1):=by unfold RM.fR;rw[show List.range 4=[0,1,2,3]from rfl];simp only[List.filter_cons,filter_nil];generalize decide (RM.hgt h (RM.aB p 0)=RM.aR h p)=b0;generalize decide (RM.hgt h (RM.aB p 1)=RM.aR h p)=b1;generalize decide (RM.hgt h (RM.aB p 2)=RM.aR h p)=b2;generalize decide (RM.hgt h (RM.aB p 3)=RM.aR h p)=b3;cases b0<;>cases b1<;>cases b2<;>cases b3<;>first|exact⟨fun c h=>(by cases h;rfl),fun h=>(by cases h)⟩|exact⟨fun c h=>(by cases h),fun _=>(by decide)⟩
noncomputable def sp_fo4(K:W.Frag)(d:Adr):Sp:=fun vs H Q _=>∃(v:V)(x:Addr)(r:Nat)(h:List Nat),vs=[v,.ref x]/\T2 H v (RM.hP r)/\r∈h/\wJ h d.Roof H x/\(∀c,RM.fR h (RM.hP r)=some c->∀w H',a9 H H'->T2 H' w (RM.aB (RM.hP r) c)->Q w H')/\(RM.fR h (RM.hP r)=none->∀H',a9 H H'->Q .non H')
theorem ok_fo4(F:Fun K "foot_of" "foot_of" s_fo4 f fd)(T:Txt K mg base d)(D_ss:aS P w K mg base CX0 2 "side_start" ["square","side"] (sp_ss K d)):bN P w K mg base CX0 3 f fd ["half","roof"] (sp_fo4 K d):=by
 refine F.ok sc_fo4 (fun vs H Q E h=>by obtain⟨v,x,r,h,rfl,_⟩:=h;rfl) (fun _ _ _ _ H _ Q E hr h=>?_);have hu:=bI hr;obtain⟨aALL_SIDES,bB,c_ALL_SIDES⟩:=T.bB;obtain⟨v,x,r,h,rfl,⟨a,rfl,ha⟩,rf,hx,k1,k2⟩:=h;obtain⟨dx,fs,dA,hA,fA,ht,x1,x2,x3,x4,x5,x6,x7,x8⟩:=hx.ex;refine⟨_,(aA (sX (i:=2) (own:=[("side",4)]) rfl sc_fo4.nd rfl rfl (by exact n8 rfl rfl rfl rfl) (j7 (eX bB rfl)) (f6 (by first|decide+kernel|kernel_rfl)) (fun _ _ _ _ _=>(pgN (i:=4) sc_fo4.nd)) (fun _ _ _ _ _=>rL) (fun _ _ _ _ _=>(aU D_ss (hm hr) aX rfl (a7 (pv 0) (a7 (pv 4) aD)))))
   (aA (sX (i:=3) (own:=[("corner",5)]) rfl sc_fo4.nd rfl rfl (by exact n8 rfl rfl rfl rfl) (dX (pv 2)) (f6 (by first|decide+kernel|kernel_rfl)) (fun _ _ _ _ _=>(pgN (i:=5) sc_fo4.nd)) (fun _ _ _ _ _=>(CY (bK gY (fL hu (D1 (K:=K) (pv 1) rfl rfl) (pv 5) (fun _ _=>rfl)) (fL hu (D1 (K:=K) (pv 1) rfl rfl) (pv 0) (fun _ _=>rfl)) (bU _)))) (fun _ _ _ _ _=>(pv 5)))
   (aA (cB (bK gY (bY c7 (by rfl) T.len PySem.boot_len (a7 (pv 3) aD)) aL (bU _)) (aE (aT (bH jD (pv 3) aL (fun _ _=>rfl)))) bF)
   (aE (aT HF))))),?_⟩
 refine⟨_,rfl,⟨_,c_ALL_SIDES _⟩,fun D hD=>IF (K:=K) (a:=aALL_SIDES) (xs:=[.int 0,.int 1,.int 2,.int 3])
  (fun i H2=>a9 H H2/\∃cs:List Addr,H2 D=some (.lst (cs.map V.ref))/\Paired (fun c n=>c≠D/\H2 c=some (.tup [.int (RM.aB (RM.hP r) n).1,.int (RM.aB (RM.hP r) n).2])) cs (List.range i)) ⟨a9.upd hD,[],a8,.nil⟩ (fun i H2 _ _=>c_ALL_SIDES H2) ?_ ?_⟩
 ·rintro i v H2 hv ⟨s2,cs,h2,pc⟩;have hi:i<4/\v=.int (i:Nat):=by
   match i,hv with
   |0,hv=>cases hv;exact⟨by decide,rfl⟩
   |1,hv=>cases hv;exact⟨by decide,rfl⟩
   |2,hv=>cases hv;exact⟨by decide,rfl⟩
   |3,hv=>cases hv;exact⟨by decide,rfl⟩
   |n+4,hv=>cases hv
  obtain⟨hi,rfl⟩:=hi;have lc:=pairs_len pc;rw[List.length_range]at lc;refine⟨rfl,_,rfl,_,rfl,.ref a,RM.hP r,i,rfl,T2.c ⟨a,rfl,s2 _ _ ha⟩,hi,fun n H3 s3 t3=>?_⟩;obtain⟨na,rfl,ny⟩:=t3;have nn:na≠D:=eJ ny (s3 _ _ h2) (fun z=>nomatch z);refine⟨_,s3 _ _ h2,by rw[ai];exact few (m:=10) (by omega),a9.put (a9.trans s2 s3) hD,cs++[na],by rw[a8];simp,?_⟩;rw[jf];exact aZ ⟨nn,by rw[aC nn];exact ny⟩ (aJ (fun c n ⟨n1,z⟩=>⟨n1,by rw[aC n1];exact s3 _ _ z⟩) pc)
 ·rintro H2 ⟨s2,cs,h2,pc⟩;have lc:=pairs_len pc;rw[List.length_range]at lc;have lc4:cs.length=4:=lc;have x1:=s2 _ _ x1;have hm:RM.hP r∈h.map RM.hP:=ar.mpr ⟨r,rf,rfl⟩;refine⟨_,rfl,D,rfl,⟨_,SqL.of h2⟩,fun D' Dq=>lQ (K:=K) (a:=D) (xs:=cs.map V.ref)
   (fun i H3=>a9 H2 H3/\∃ls:List Addr,H3 D'=some (.lst (ls.map V.ref))/\ls.length<=i/\Paired (fun c n=>H3 c=some (.tup [.int (RM.aB (RM.hP r) n).1,.int (RM.aB (RM.hP r) n).2])) ls ((List.range i).filter fun n=>decide (RM.hgt h (RM.aB (RM.hP r) n)=RM.aR h (RM.hP r)))) ⟨a9.upd Dq,[],a8,ax _,.nil⟩ (fun i H3 _ ⟨s3,_⟩=>s3.seq (SqL.of h2)) ?_ ?_⟩
  ·rintro i v H3 hv ⟨s3,ls,h3,ll,pl⟩;obtain⟨c,hc,rfl⟩:=K6 hv;obtain⟨n,hn,_,hcn⟩:=pairs_at pc hc;have rj:=uL hc;have en:n=i:=by have:=(ao.mp hn).2;simpa using this.symm
   subst en;have hc3:=s3 _ _ hcn;have sH:=a9.trans s2 s3;have g3:=(x6.mono sH).get (p:=RM.aB (RM.hP r) n) hc3;rw[f9,x7.at hm (by omega)]at g3;have g1:=(x5.mono sH).get (p:=RM.hP r) (sH _ _ ha);rw[f9,RM.FO hm]at g1;refine⟨rfl,_,rfl,x,d.Roof,dx,fs,_,rfl,s3 _ _ x1,T.cR,T.lI,x3,_,rfl,hA,_,rfl,g3,_,rfl,x,d.Roof,dx,fs,_,rfl,s3 _ _ x1,T.cR,T.kF,x2,_,rfl,dA,_,rfl,g1,rfl,_,rfl,?_⟩;rw[jM];refine bZ (fun c0=>?_) (fun c0=>?_)
   ·have c1:RM.hgt h (RM.aB (RM.hP r) n)=RM.aR h (RM.hP r):=by simpa using c0
    refine⟨_,rfl,_,h3,by rw[ai];exact few (m:=10) (by omega),a9.put s3 Dq,ls++[c],by rw[a8,cj];rfl,by rw[aj];exact Nat.succ_le_succ ll,?_⟩;rw[jf,gg,List.filter_cons_of_pos (by rw[c1];exact decide_eq_true rfl),filter_nil];exact aZ (by rw[aC (eJ hc3 h3 (fun z=>nomatch z))];exact hc3) (aJ (fun c n z=>by rw[aC (eJ z h3 (fun z=>nomatch z))];exact z) pl)
   ·have c1:¬RM.hgt h (RM.aB (RM.hP r) n)=RM.aR h (RM.hP r):=by simpa using c0
    refine⟨s3,ls,h3,Nat.le_succ_of_le ll,?_⟩;rw[jf,gg,List.filter_cons_of_neg (by rw[decide_eq_false c1];decide),filter_nil,df];exact pl
  ·rintro H3 ⟨s3,ls,h3,ll,pl⟩;rw[ai,lc4]at pl;have lf:=pairs_len pl;obtain⟨f1,f2⟩:=BM h (RM.hP r);refine⟨_,rfl,D',_,rfl,.inl (SqL.of h3),rfl,_,rfl,?_⟩;rw[jM];refine bZ (fun c0=>?_) (fun c0=>?_)
   ·have c1:ls.length=1:=by simp at c0;omega
    cases hc:RM.fR h (RM.hP r)with
    |none=>exact absurd (lf.symm.trans c1) (f2 hc)
    |some c=>
     rw[f1 c hc]at pl;cases pl with
     |cons z1 z2=>cases z2;refine⟨_,rfl,D',_,_,_,rfl,rfl,SqL.of h3,aW (by decide) rfl,k1 c hc _ _ (a9.trans s2 s3) ⟨_,rfl,z1⟩⟩
   ·have c1:¬ls.length=1:=by simp at c0;omega
    cases hc:RM.fR h (RM.hP r)with
    |none=>exact k2 hc _ (a9.trans s2 s3)
    |some c=>exact absurd (by rw[lf,f1 c hc];rfl) c1
abbrev s_ha:Stmt:=(top 71)
theorem sc_ha:aM ["half","corner"] ["half","corner"] (aH s_ha):=fS
noncomputable def sp_ha(K:W.Frag)(d:Adr):Sp:=fun vs H Q _=>∃(v u:V)(p c:PI),vs=[v,u]/\T2 H v p/\T2 H u c/\∀r H',a9 H H'->T2 H' r (2*c.1 - 1 - p.1,2*c.2 - 1 - p.2)->Q r H'
theorem ok_ha(F:Fun K "half_across" "half_across" s_ha f fd)(T:Txt K mg base d):bN P w K mg base CX0 1 f fd ["half","corner"] (sp_ha K d):=by refine F.ok sc_ha (fun vs H Q E h=>by obtain⟨v,u,p,c,rfl,_⟩:=h;rfl) (fun _ _ _ _ H _ Q E hr h=>?_);have hu:=bI hr;obtain⟨v,u,p,c,rfl,⟨a,rfl,ha⟩,⟨b,rfl,hb⟩,k⟩:=h;refine⟨_,(aE (aT (cU (a7 (d8 pM (d8 pM (d8 sZ aL (bH bD (pv 1) aL (fun _ _=>rfl))) aL) (bH bD (pv 0) aL (fun _ _=>rfl))) (a7 (d8 pM (d8 pM (d8 sZ aL (bH bD (pv 1) aL (fun _ _=>rfl))) aL) (bH bD (pv 0) aL (fun _ _=>rfl))) aD))))),?_⟩;refine⟨_,rfl,b,_,_,_,rfl,rfl,SqT.of hb,aW (by decide) rfl,_,_,rfl,rfl,.inl ⟨by decide,by decide⟩,_,_,rfl,rfl,_,rfl,a,_,_,_,rfl,rfl,SqT.of ha,aW (by decide) rfl,_,_,rfl,rfl,_,rfl,b,_,_,_,rfl,rfl,SqT.of hb,aW (by decide) rfl,_,_,rfl,rfl,.inl ⟨by decide,by decide⟩,_,_,rfl,rfl,_,rfl,a,_,_,_,rfl,rfl,SqT.of ha,aW (by decide) rfl,_,_,rfl,rfl,by show 2<=sizeLine;decide,fun q hq=>k _ _ (a9.upd hq) ⟨q,rfl,a8⟩⟩
abbrev s_we:Stmt:=(top 72)
theorem sc_we:aM ["triangle","roof","half","foot","leaving","below"] ["triangle","roof"] (aH s_we):=fS
noncomputable def N8(h:List Nat)(σ:List (Option V))(H:Hp):Nat:=match σ with|some (.ref a)::_=>(match H a with|some (.tup (.int i::.int j::_))=>(RM.aR h (i,j)).toNat|_=>0)|_=>0
theorem xS{h:List Nat}{a:Addr}{σ:List (Option V)}{H:Hp}{i j:Int}{r:List V}(e:H a=some (.tup (.int i::.int j::r))):N8 h (some (.ref a)::σ) H=(RM.aR h (i,j)).toNat:=by unfold N8;dsimp only;rw[e]
theorem GJ{C:List (Nat×Nat)}(hb:∀c∈C,c.1<64/\c.2<64){u:Nat}{e:Roof.End}(hu:u∈(Roof.topOf C).tris):∀{n:Nat},(Roof.topOf C).endFrom n u=some e->RM.rY (Roof.halvesOf C) (RM.tP u)=.inl (RM.fY e)\/∃u' m,RM.rY (Roof.halvesOf C) (RM.tP u)=.inr (RM.tP u')/\u'∈(Roof.topOf C).tris/\(Roof.topOf C).endFrom m u'=some e/\RM.aR (Roof.halvesOf C) (RM.hP (u'/4))=RM.aR (Roof.halvesOf C) (RM.hP (u/4)) - 1
 |0,h=>by cases h
 |n+1,h=>by
  have ws:=RM.mI hb hu;unfold Roof.Top.endFrom at h;cases hg:(Roof.topOf C).goesOn u with
  |inl e'=>rw[hg]at h ws;cases h;exact .inl ws
  |inr u'=>rw[hg]at h ws;exact .inr ⟨u',n,ws.2.1,ws.1,h,ws.2.2⟩
noncomputable def sp_we(K:W.Frag)(d:Adr):Sp:=fun vs H Q _=>∃(v:V)(x:Addr)(t:Nat)(C:List (Nat×Nat)),vs=[v,.ref x]/\T3 H v (RM.tP t)/\t∈(Roof.topOf C).tris/\(∀c∈C,c.1<64/\c.2<64)/\wJ (Roof.halvesOf C) d.Roof H x/\∀e,(Roof.topOf C).endOf t=some e->∀r H',a9 H H'->H' r=some (.tup ((RM.fY e).map V.int))->Q (.ref r) H'
theorem ok_we(F:Fun K "water_end" "water_end" s_we f fd)(T:Txt K mg base d)(D_fo4:aS P w K mg base CX0 3 "foot_of" ["half","roof"] (sp_fo4 K d))(D_ta:aS P w K mg base CX0 3 "triangle_across" ["triangle"] (sp_ta K d))(D_ha:aS P w K mg base CX0 1 "half_across" ["half","corner"] (sp_ha K d)):bN P w K mg base CX0 4 f fd ["triangle","roof"] (sp_we K d):=by
 refine F.ok sc_we (fun vs H Q E h=>by obtain⟨v,x,t,C,rfl,_⟩:=h;rfl) (fun _ _ _ _ H _ Q E hr h=>?_);have hu:=bI hr;obtain⟨v,x,t,C,rfl,⟨va,rfl,hva⟩,Ar,hb,hx,k⟩:=h;obtain⟨e,he⟩:=RM.J2 hb Ar;have ke:=k e he;clear k;obtain⟨dx,fs,dA,hA,fA,ht,x1,x2,x3,x4,x5,x6,x7,x8⟩:=hx.ex;refine⟨_,(aE (iQ PassesOwn.never (j6 iR (fun _=>rfl)) (aA (psN (i:=2) sc_we.nd (cU (a7 (bH bD (pv 0) aL (fun _ _=>rfl)) (a7 (bH bD (pv 0) aL (fun _ _=>rfl)) aD))))
   (aA (psN (i:=3) sc_we.nd (aU D_fo4 (hm hr) aX rfl (a7 (pv 2) (a7 (pv 1) aD))))
   (aE (cB (e6 (ME (pv 3))) (aA (psN (i:=4) sc_we.nd (cU (a7 (bH bD (pv 2) aL (fun _ _=>rfl)) (a7 (bH bD (pv 2) aL (fun _ _=>rfl)) (a7 (fL hu (gM (pv 1) rfl) (pv 0) (fun _ _=>rfl)) aD)))))
   (aA (psN (i:=0) sc_we.nd (aU D_ta (hm hr) aX rfl (a7 (pv 4) aD)))
   (aE (cB (e6 (cW hu (pv 0) (gM (pv 1) rfl))) (aE (aT (cU (a7 (cH T.FA rfl) (a7 (bH bD (pv 4) aL (fun _ _=>rfl)) (a7 (bH bD (pv 4) aL (fun _ _=>rfl)) (a7 (bH bD (pv 4) aL (fun _ _=>rfl)) aD))))))) bF)))) (aE (cB (bK gY (fL hu (gM (pv 1) rfl) (pv 3) (fun _ _=>rfl)) aL (bU _)) (aE (aT (cU (a7 (cH T.qY rfl) (a7 (bH bD (pv 3) aL (fun _ _=>rfl)) (a7 (bH bD (pv 3) aL (fun _ _=>rfl)) aD)))))) (aA (psN (i:=5) sc_we.nd (aU D_ha (hm hr) aX rfl (a7 (pv 2) (a7 (pv 3) aD))))
   (aE (psN (i:=0) sc_we.nd (cU (a7 (bH bD (pv 5) aL (fun _ _=>rfl)) (a7 (bH bD (pv 5) aL (fun _ _=>rfl)) (a7 (bH bD (pv 0) aL (fun _ _=>rfl)) aD))))))))))))))),?_⟩
 dsimp only[hO,AW];refine iM (fun σ H2=>∃(ta:Addr)(u n:Nat)(o2 o3 o4 o5:Option V),σ=[some (.ref ta),some (.ref x),o2,o3,o4,o5]/\a9 H H2/\H2 ta=some (.tup [.int (RM.tP u).1,.int (RM.tP u).2.1,.int (RM.tP u).2.2])/\u∈(Roof.topOf C).tris/\(Roof.topOf C).endFrom n u=some e)
  (N8 (Roof.halvesOf C)) ⟨va,t,_,_,_,_,_,rfl,a9.refl _,hva,Ar,he⟩ ?_ ?_
 ·rintro σ H2 ⟨ta,u,n,o2,o3,o4,o5,rfl,s2,hta,Bz,hn⟩;have zh:u/4∈Roof.halvesOf C:=RM.cN.mp Bz;have ws:=GJ hb Bz hn;have m0:=xS (h:=Roof.halvesOf C) (σ:=[some (.ref x),o2,o3,o4,o5]) hta;have dp:0<=RM.aR (Roof.halvesOf C) (RM.hP (u/4)):=(RM.jL (RM.aO hb) _).mpr (ar.mpr ⟨_,zh,rfl⟩);refine⟨_,rfl,bZ (fun _=>?_) (fun z=>absurd rfl z)⟩;rw[m0];clear m0;refine⟨_,rfl,ta,_,_,_,rfl,rfl,SqT.of hta,aW (by decide) rfl,_,rfl,ta,_,_,_,rfl,rfl,SqT.of hta,aW (by decide) rfl,by show 2<=sizeLine;decide,fun q hq=>?_⟩;have s3:=a9.trans s2 (a9.upd (o:=.tup [.int (RM.tP u).1,.int (RM.tP u).2.1]) hq);have ht3:=a9.upd (o:=.tup [.int (RM.tP u).1,.int (RM.tP u).2.1]) hq _ _ hta;have uz:(upd H2 q (.tup [.int (RM.tP u).1,.int (RM.tP u).2.1])) q=some (.tup [.int (RM.hP (u/4)).1,.int (RM.hP (u/4)).2]):=a8;generalize (upd H2 q (.tup [.int (RM.tP u).1,.int (RM.tP u).2.1]))=H3 at s3 ht3 uz ⊢;refine⟨_,rfl,_,rfl,.ref q,x,u/4,Roof.halvesOf C,rfl,⟨q,rfl,uz⟩,zh,hx.mono s3,fun c hc w H4 s4 tw=>?_,fun hc H4 s4=>?_⟩
  ·obtain⟨c4,_,_⟩:=RM.lV hb zh hc;have hc:RM.fR (Roof.halvesOf C) ((RM.tP u).1,(RM.tP u).2.1)=some c:=hc;unfold RM.rY at ws;rw[hc]at ws;dsimp only at ws;obtain⟨fa,rfl,Av⟩:=tw;have s5:=a9.trans s3 s4;have g3:=(x6.mono s5).get (p:=RM.aB (RM.hP (u/4)) c) Av;rw[f9,x7.at (ar.mpr ⟨_,zh,rfl⟩) (ir c4)]at g3;refine⟨_,rfl,_,rfl,bZ (fun z=>absurd (ay z) (fun z=>nomatch z)) (fun _=>?_)⟩;refine⟨_,rfl,x,d.Roof,dx,fs,_,rfl,s5 _ _ x1,T.cR,T.lI,x3,_,rfl,hA,_,rfl,g3,rfl,_,rfl,?_⟩;rw[jM];refine bZ (fun c0=>?_) (fun c0=>?_)
   ·have c0:RM.hgt (Roof.halvesOf C) (RM.aB ((RM.tP u).1,(RM.tP u).2.1) c)=0:=eq_of_beq c0;rw[ag c0]at ws;rcases ws with ws|⟨u',m,ws,_⟩
    ·injection ws with ws
     refine⟨_,rfl,fa,_,_,_,rfl,rfl,SqT.of Av,aW (by decide) rfl,_,rfl,fa,_,_,_,rfl,rfl,SqT.of Av,aW (by decide) rfl,by show 3<=sizeLine;decide,fun r hr=>ke r _ (a9.trans s5 (a9.upd hr)) (by rw[a8,<- ws];rfl)⟩
    ·cases ws
   ·have c0:¬RM.hgt (Roof.halvesOf C) (RM.aB ((RM.tP u).1,(RM.tP u).2.1) c)=0:=fun z=>c0 (beq_iff_eq.mpr z)
    rw[af c0]at ws;rcases ws with ws|⟨u',m,ws,qm,hm,dd⟩
    ·cases ws
    ·injection ws with ws
     refine⟨_,rfl,_,rfl,.ref q,.ref fa,RM.hP (u/4),RM.aB (RM.hP (u/4)) c,rfl,⟨q,rfl,s4 _ _ uz⟩,⟨fa,rfl,Av⟩,fun b H5 s6 tb=>?_⟩;obtain⟨ba,rfl,yb⟩:=tb;have ht5:=s6 _ _ (s4 _ _ ht3);refine⟨_,rfl,ba,_,_,_,rfl,rfl,SqT.of yb,aW (by decide) rfl,_,rfl,ba,_,_,_,rfl,rfl,SqT.of yb,aW (by decide) rfl,_,rfl,ta,_,_,_,rfl,rfl,SqT.of ht5,aW (by decide) rfl,by show 3<=sizeLine;decide,fun z hz=>?_⟩;have hd:RM.aR (Roof.halvesOf C) (RM.bQ (RM.hP (u/4)) c)=RM.aR (Roof.halvesOf C) (RM.hP (u/4)) - 1:=(congrArg (fun t:PI3=>RM.aR (Roof.halvesOf C) (t.1,t.2.1)) ws).trans dd;refine⟨⟨z,u',m,_,_,_,_,rfl,a9.trans (a9.trans s5 s6) (a9.upd hz),by rw[a8,<- ws];rfl,qm,hm⟩,?_⟩;refine gh (ib (xS a8)) ?_;show(RM.aR (Roof.halvesOf C) (RM.bQ (RM.hP (u/4)) c)).toNat<(RM.aR (Roof.halvesOf C) (RM.hP (u/4))).toNat
     have:=(RM.jL (RM.aO hb) (RM.hP (u'/4))).mpr (ar.mpr ⟨_,RM.cN.mp qm,rfl⟩);omega
  ·have hc:RM.fR (Roof.halvesOf C) ((RM.tP u).1,(RM.tP u).2.1)=none:=hc;unfold RM.rY at ws;rw[hc]at ws;dsimp only at ws;have s5:=a9.trans s3 s4;have ht4:=s4 _ _ ht3;have hq4:=s4 _ _ uz;have fl:=RM.KW (RM.aO hb) Bz;have g3:=R3.get (p:=RM.tP u) (x8.mono s5) ht4;rw[f9,RM.FI (by show(0:Int)<=((u%4:Nat):Int);omega) (by show((u%4:Nat):Int)<4;omega) (ar.mpr ⟨_,zh,rfl⟩)]at g3;refine⟨_,rfl,_,rfl,bZ (fun _=>?_) (fun z=>absurd (by decide) z)⟩;refine⟨_,rfl,q,_,_,_,rfl,rfl,SqT.of hq4,aW (by decide) rfl,_,rfl,q,_,_,_,rfl,rfl,SqT.of hq4,aW (by decide) rfl,_,rfl,x,d.Roof,dx,fs,_,rfl,s5 _ _ x1,T.cR,T.lJ,x4,_,rfl,fA,_,rfl,g3,by show 3<=sizeLine;decide,fun l hl=>?_⟩;have s6:=a9.trans s5 (a9.upd (o:=.tup [.int (RM.hP (u/4)).1,.int (RM.hP (u/4)).2,.int (RM.e9 (Roof.halvesOf C) (RM.tP u))]) hl);have hl6:(upd H4 l (.tup [.int (RM.hP (u/4)).1,.int (RM.hP (u/4)).2,.int (RM.e9 (Roof.halvesOf C) (RM.tP u))])) l=_:=a8;generalize (upd H4 l (.tup [.int (RM.hP (u/4)).1,.int (RM.hP (u/4)).2,.int (RM.e9 (Roof.halvesOf C) (RM.tP u))]))=H6 at s6 hl6 ⊢;refine⟨_,rfl,.ref l,((RM.hP (u/4)).1,(RM.hP (u/4)).2,RM.e9 (Roof.halvesOf C) (RM.tP u)),rfl,⟨l,rfl,hl6⟩,fl.1,fl.2,fun z H7 s7 tz=>?_⟩;obtain⟨za,rfl,hza⟩:=tz;have s8:=a9.trans s6 s7;have g4:=R3.get (x8.mono s8) hza;refine⟨_,rfl,_,rfl,x,d.Roof,dx,fs,_,rfl,s8 _ _ x1,T.cR,T.lJ,x4,fA,_,rfl,g4,_,rfl,?_⟩
   have fm:(RM.aN (RM.d5 (Roof.halvesOf C)) ((RM.aK ((RM.tP u).1,(RM.tP u).2.1) (RM.e9 (Roof.halvesOf C) (RM.tP u)).toNat).1,(RM.aK ((RM.tP u).1,(RM.tP u).2.1) (RM.e9 (Roof.halvesOf C) (RM.tP u)).toNat).2,(RM.e9 (Roof.halvesOf C) (RM.tP u)+2)%4)).isSome=true↔RM.aK ((RM.tP u).1,(RM.tP u).2.1) (RM.e9 (Roof.halvesOf C) (RM.tP u)).toNat∈(Roof.halvesOf C).map RM.hP:=RM.zV (by dsimp only;omega) (by dsimp only;omega);rw[AE];refine bZ (fun c0=>?_) (fun c0=>?_)
   ·have c1:¬RM.aK ((RM.tP u).1,(RM.tP u).2.1) (RM.e9 (Roof.halvesOf C) (RM.tP u)).toNat∈(Roof.halvesOf C).map RM.hP:=fun z=>absurd (c0.symm.trans (congrArg (! ·) (fm.mpr z))) (by decide)
    rw[af c1]at ws;rcases ws with ws|⟨u',m,ws,_⟩
    ·injection ws with ws
     have hl7:=s7 _ _ hl6;refine⟨_,rfl,l,_,_,_,rfl,rfl,SqT.of hl7,aW (by decide) rfl,_,rfl,l,_,_,_,rfl,rfl,SqT.of hl7,aW (by decide) rfl,_,rfl,l,_,_,_,rfl,rfl,SqT.of hl7,aW (by decide) rfl,by show 4<=sizeLine;decide,fun r hr=>ke r _ (a9.trans s8 (a9.upd hr)) (by rw[a8,<- ws];rfl)⟩
    ·cases ws
   ·have c1:RM.aK ((RM.tP u).1,(RM.tP u).2.1) (RM.e9 (Roof.halvesOf C) (RM.tP u)).toNat∈(Roof.halvesOf C).map RM.hP:=by
     apply fm.mp;apply Classical.byContradiction;exact fun z=>c0 (by rw[Bool.not_eq_true]at z;show(! (RM.aN (RM.d5 (Roof.halvesOf C)) _).isSome)=true;exact congrArg (! ·) z)
    rw[ag c1]at ws;rcases ws with ws|⟨u',m,ws,qm,hm,dd⟩
    ·cases ws
    ·injection ws with ws
     have hd:RM.aR (Roof.halvesOf C) (RM.aK (RM.hP (u/4)) (RM.e9 (Roof.halvesOf C) (RM.tP u)).toNat)=RM.aR (Roof.halvesOf C) (RM.hP (u/4)) - 1:=(congrArg (fun t:PI3=>RM.aR (Roof.halvesOf C) (t.1,t.2.1)) ws).trans dd;refine⟨⟨za,u',m,_,_,_,_,rfl,s8,by rw[hza,<- ws];rfl,qm,hm⟩,?_⟩;refine gh (ib (xS hza)) ?_;show(RM.aR (Roof.halvesOf C) (RM.aK (RM.hP (u/4)) (RM.e9 (Roof.halvesOf C) (RM.tP u)).toNat)).toNat<(RM.aR (Roof.halvesOf C) (RM.hP (u/4))).toNat
     have:=(RM.jL (RM.aO hb) (RM.hP (u'/4))).mpr (ar.mpr ⟨_,RM.cN.mp qm,rfl⟩);omega
 ·exact fun σ H Q Q' f ⟨b,e,z⟩=>⟨b,e,f _ _ z⟩
abbrev s_wn:Stmt:=(top 74)
theorem sc_wn:aM ["walls","numbers","number","feet","foot"] ["walls"] (aH s_wn):=fS
noncomputable def sp_wn(K:W.Frag)(d:Adr):Sp:=fun vs H Q _=>∃(w:Addr)(P:List (List PI)),vs=[.ref w]/\LLT H (.ref w) P/\P.length<=4000/\P.flatten.length<=4000/\P.flatten.Nodup/\∀r nu H',a9 H H'->H r=none->D2 H' r (IV nu)->(∀(j:Nat) L p,P[j]? =some L->p∈L->RM.aN nu p=some (j:Int))->Q (.ref r) H'
theorem ok_wn(F:Fun K "wall_numbers" "wall_numbers" s_wn f fd)(T:Txt K mg base d):bN P w K mg base CX0 1 f fd ["walls"] (sp_wn K d):=by
 refine F.ok sc_wn (fun vs H Q E h=>by obtain⟨w,P,rfl,_⟩:=h;rfl) (fun _ _ _ _ H _ Q E hr h=>?_);have hu:=bI hr;obtain⟨w,P,rfl,hw,hl,Au,nd,k⟩:=h;refine⟨_,(aA (psN (i:=1) sc_wn.nd eD)
   (aA (c8 PassesOwn.never rfl (wV rfl T.enumerate (a7 (pv 0) aD)) (kC rfl (bW (pgN (i:=2) sc_wn.nd) (bW (pgN (i:=3) sc_wn.nd) gW))) (aE (c8 PassesOwn.never rfl (dX (pv 3)) (pgN (i:=4) sc_wn.nd) (aE (fK hu (pv 1) (pv 4) (pv 2) rfl)))))
   (aE (aT (pv 1))))),?_⟩
 obtain⟨_,ys,e,hw,pw⟩:=hw;cases e;have ly:=pairs_len pw;refine fun f hf=>?_
 have s1:a9 H (upd H f (.dT (kvF k2 (IV [])))):=a9.upd hf;have fl:∀j L,P[j]? =some L->(P.take (j+1)).flatten.length=(P.take j).flatten.length+L.length:=fun j L hL=>by rw[RM.take_snoc hL,gp,aj];simp
 refine⟨_,rfl,w,ys,rfl,s1.seq (SqL.of hw),tQ (K:=K) (a:=w) (xs:=ys) (fun j σ H2=>∃(nu:List (PI×Int))(v2 v3 v4:Option V),σ=[some (.ref w),some (.ref f),v2,v3,v4]/\a9 H H2/\D2 H2 f (IV nu)/\nu.length<=(P.take j).flatten.length/\∀(i:Nat) L p,i<j->P[i]? =some L->p∈L->RM.aN nu p=some (i:Int))
  ⟨[],none,none,none,rfl,s1,a8,cv _,fun i L p hi=>absurd hi (Nat.not_lt_zero _)⟩ (fun i σ H2 _ ⟨_,_,_,_,_,s2,_⟩=>s2.seq (SqL.of hw)) ?_ ?_⟩
 ·rintro j v σ H2 Tt hj ⟨nu,v2,v3,v4,rfl,s2,hD,lt,W⟩ hT;obtain⟨L,hL,b,zs,rfl,hb,pb⟩:=pairs_at pw hj;have sT:a9 H2 (upd H2 Tt (.tup [.int (j:Nat),.ref b])):=a9.upd hT;have s3:=a9.trans s2 sT;have mi:D2 (upd H2 Tt (.tup [.int (j:Nat),.ref b])) f (IV nu):=sT _ _ hD;refine⟨Tt,_,rfl,SqT.of a8,rfl,_,_,rfl,_,_,rfl,rfl,?_⟩;generalize (upd H2 Tt (.tup [.int (j:Nat),.ref b]))=H3 at s3 mi ⊢;have flj:=fl j L hL;have fle:(P.take (j+1)).flatten.length<=4000:=by have:=congrArg (fun z:List (List PI)=>z.flatten.length) (List.take_append_drop (j+1) P);simp only[gp,aj]at this;omega
  have lb:=pairs_len pb;refine⟨_,rfl,b,rfl,⟨_,s3.seq (SqL.of hb)⟩,gR (K:=K) (a:=b) (xs:=zs) (fun i' σ H4=>∃(nu:List (PI×Int))(v4:Option V),σ=[some (.ref w),some (.ref f),some (.int (j:Nat)),some (.ref b),v4]/\a9 H H4/\D2 H4 f (IV nu)/\nu.length<=(P.take j).flatten.length+i'/\(∀(i:Nat) L p,i<j->P[i]? =some L->p∈L->RM.aN nu p=some (i:Int))/\∀p∈L.take i',RM.aN nu p=some (j:Int))
   ⟨nu,v4,rfl,s3,mi,lt,W,fun p hp=>(by cases hp)⟩ (fun i σ H4 _ ⟨_,_,_,s4,_⟩=>s4.seq (SqL.of hb)) ?_ ?_⟩
  ·rintro i' z σ H4 hz ⟨nu,v4,rfl,s4,kz,lt4,W4,V4⟩;obtain⟨q,hq,qa,rfl,qw⟩:=pairs_at pb hz;have qp:=uL hq;refine⟨_,rfl,_,rfl,_,rfl,f,_,rfl,D2.put kz (s4 _ _ qw) (.int (j:Nat)) (by rw[fJ];exact few (m:=5000) (by omega)),RM.dN nu q (j:Int),_,rfl,a9.put s4 hf,by unfold D2;rw[a8,<- qG],by have:=RM.kY nu q (j:Int);omega,fun i L' p hi yd hp=>?_,fun p hp=>?_⟩
   ·rw[RM.gT];by_cases c:p=q
    ·subst c;have:=RM.pZ (f:=fun x:List PI=>x) (l:=P) (by rw[List.flatMap_id'];exact nd) i j L' L p yd hL hp (az hq);omega
    ·rw[af c];exact W4 i L' p hi yd hp
   ·rw[RM.gT];by_cases c:p=q
    ·rw[ag c]
    ·rw[af c];rw[RM.take_snoc hq]at hp;rcases aw.mp hp with hp|hp
     ·exact V4 p hp
     ·exact absurd (iw.mp hp) c
  ·rintro σ H4 ⟨nu,v4,rfl,s4,kz,lt4,W4,V4⟩;rw[lb,bu (ax _)]at V4;refine⟨nu,_,_,_,rfl,s4,kz,by omega,fun i L' p hi yd hp=>?_⟩;by_cases c:i<j
   ·exact W4 i L' p c yd hp
   ·have:i=j:=by omega
    subst this;rw[hL]at yd;cases yd;exact V4 p hp
 ·rintro σ H2 ⟨nu,v2,v3,v4,rfl,s2,hD,lt,W⟩;exact⟨_,rfl,k f nu H2 s2 hf hD fun j L p hj hp=>W j L p (by rw[ly];exact uL hj) hj hp⟩
abbrev s_fb:Stmt:=(top 45)
theorem sc_fb:aM ["corner","following","headings","feet","point"] ["corner","following","headings"] (aH s_fb):=fS
def nS(H:Hp)(r:Addr):Nat:=match H r with|some (.lst xs)=>xs.length|_=>0
theorem DB{H:Hp}{r:Addr}{xs:List V}(h:H r=some (.lst xs)):nS H r=xs.length:=by unfold nS;rw[h]
noncomputable def sp_fb(K:W.Frag)(d:Adr):Sp:=fun vs H Q _=>∃(v u:V)(hA:Addr)(a b:Roof.Point)(hs:List (PI×Int)),vs=[v,u,.ref hA]/\T2 H v (RM.iP a)/\T2 H u (RM.iP b)/\R2 H hA (IV hs)/\RM.StP a b/\(∀x∈Roof.feet a b,RM.aN hs (RM.iP x.1)=some (RM.hdg x.2))/\(Roof.feet a b).length<=4000/\∀r H',a9 H H'->H r=none->LT H' (.ref r) ((Roof.feet a b).map fun x=>RM.iP x.1)->Q (.ref r) H'
theorem ok_fb(F:Fun K "feet_between" "feet_between" s_fb f fd)(T:Txt K mg base d)(D_b:aS P w K mg base CX0 2 "beyond" ["place","direction"] (sp_b K d)):bN P w K mg base CX0 3 f fd ["corner","following","headings"] (sp_fb K d):=by
 refine F.ok sc_fb (fun vs H Q E h=>by obtain⟨v,u,hA,a,b,hs,rfl,_⟩:=h;rfl) (fun _ _ _ _ H _ Q E hr h=>?_);have hu:=bI hr;obtain⟨v,u,hA,a,b,hs,rfl,⟨va,rfl,hva⟩,⟨ub,rfl,hub⟩,hH,sp,hh,hl,k⟩:=h;refine⟨_,(aA (psN (i:=3) sc_fb.nd (fB aD))
   (aA (psN (i:=4) sc_fb.nd (pv 0))
   (aA (iQ PassesOwn.never (bK (HM hr.units) (pv 4) (pv 1) (bU _)) (aA (d6 (gX PySem.F.plainAttrs_list PySem.F.slot_list_append PySem.F.type_list_append cC (pv 3) (a7 (pv 4) aD)))
   (aE (psN (i:=4) sc_fb.nd (aU D_b (hm hr) aX rfl (a7 (pv 4) (a7 (fL hu (pv 2) (pv 4) (fun _ _=>rfl)) aD)))))))
   (aE (aT (pv 3)))))),?_⟩
 obtain⟨e0,k0,he0,hk0,b2,b3,rfl⟩:=sp;have fs:=RM.fM he0 b2 b3;rw[fs]at hh hl k;have lk:(RM.bO a e0 k0).length=k0:=by simp[RM.bO]
 refine⟨cv _,fun r rf=>⟨_,rfl,?_⟩⟩;dsimp only[hO,AW];refine iM (fun σ H2=>∃(i:Nat)(pa:Addr)(xs:List V),σ=[some (.ref va),some (.ref ub),some (.ref hA),some (.ref r),some (.ref pa)]/\i<=k0/\a9 H H2/\H2 pa=some (.tup [.int (RM.iP (RM.bG a e0 i)).1,.int (RM.iP (RM.bG a e0 i)).2])/\H2 r=some (.lst xs)/\Paired (T2 H2) xs ((RM.bO a e0 i).map fun x=>RM.iP x.1))
  (fun _ H2=>5000 - nS H2 r)
  ⟨0,va,[],rfl,cv _,a9.upd rf,by rw[RM.D8];exact a9.upd rf _ _ hva,a8,.nil⟩ ?_ (fun _ _ _ _ f ⟨v,e,w,e2,d,e',h1,h2,h3,h4,b,eb,q⟩=>⟨v,e,w,e2,d,e',h1,h2,h3,h4,b,eb,f _ _ q⟩)
 rintro σ H2 ⟨i,pa,xs,rfl,hi,s2,hpa,h2,pr⟩;have lx:=pairs_len pr;have li:(RM.bO a e0 i).length=i:=by simp[RM.bO]
 rw[ai,li]at lx;refine⟨_,rfl,_,rfl,_,_,N6 ⟨pa,rfl,hpa⟩,N6 ⟨ub,rfl,s2 _ _ hub⟩,rfl,rfl,_,rfl,?_⟩;rw[LN];refine bZ (fun c=>?_) (fun c=>?_)
 ·have c:RM.iP (RM.bG a e0 i)≠RM.iP (RM.bG a e0 k0):=by simpa using c
  have jz:i<k0:=by
   rcases Nat.lt_or_ge i k0 with z|z
   ·exact z
   ·exact absurd (by rw[show i=k0 by omega]) c
  have g:=hh (RM.bG a e0 i,e0) (ar.mpr ⟨i,by simpa using jz,rfl⟩);refine⟨_,rfl,.inl ⟨rfl,_,SqL.of h2⟩,_,rfl,r,xs,.ref pa,rfl,rfl,h2,few (m:=5000) (by omega),?_⟩;have t3:=T2.upd (D:=r) (o:=.lst (xs++[.ref pa])) ⟨pa,rfl,hpa⟩ h2;have s3:a9 H (upd H2 r (.lst (xs++[.ref pa]))):=a9.put s2 rf;have h3:(upd H2 r (.lst (xs++[.ref pa]))) r=some (.lst (xs++[.ref pa])):=a8;have nv:Paired (T2 (upd H2 r (.lst (xs++[.ref pa])))) (xs++[.ref pa]) ((RM.bO a e0 (i+1)).map fun x=>RM.iP x.1):=by rw[RM.m9,cj];exact aZ t3 (aJ (fun _ _ z=>z.upd h2) pr)
  generalize (upd H2 r (.lst (xs++[.ref pa])))=H3 at t3 s3 h3 nv ⊢;obtain⟨_,e,Cj⟩:=t3;cases e;have dg:=(R2.mono s3 hH).get (p:=RM.iP (RM.bG a e0 i)) Cj;rw[f9,g]at dg;have xx:0<=RM.hdg e0/\RM.hdg e0<4:=by unfold RM.hdg;omega
  refine⟨_,rfl,_,rfl,_,rfl,hA,_,rfl,dg,.ref pa,RM.iP (RM.bG a e0 i),(RM.hdg e0).toNat,congrArg (fun z=>[V.ref pa,V.int z]) (cb xx.1).symm,T2.c ⟨pa,rfl,Cj⟩,by omega,fun vn H4 s4 t4=>?_⟩;have st:RM.aK (RM.iP (RM.bG a e0 i)) (RM.hdg e0).toNat=RM.iP (RM.bG a e0 (i+1)):=by
   have cs:e0=0\/e0=1\/e0=2\/e0=3:=by omega
   rcases cs with rfl|rfl|rfl|rfl
   ·simp[RM.aK,RM.hdg,RM.iP,RM.bG];omega
   ·simp[RM.aK,RM.hdg,RM.iP,RM.bG];omega
   ·have:=b2 rfl;simp[RM.aK,RM.hdg,RM.iP,RM.bG];omega
   ·have:=b3 rfl;simp[RM.aK,RM.hdg,RM.iP,RM.bG];omega
  rw[st]at t4;obtain⟨na,rfl,ny⟩:=t4;refine⟨⟨i+1,na,_,rfl,jz,a9.trans s3 s4,ny,s4 _ _ h3,aJ (fun _ _ z=>z.mono s4) nv⟩,?_⟩;rw[DB h2,DB (s4 _ _ h3),aj];show 5000 - (xs.length+1)<5000 - xs.length
  omega
 ·have c:RM.iP (RM.bG a e0 i)=RM.iP (RM.bG a e0 k0):=by simpa using c
  have ei:i=k0:=by
   have c1:((RM.bG a e0 i).1:Int)=((RM.bG a e0 k0).1:Int):=congrArg Prod.fst c;have c2:((RM.bG a e0 i).2:Int)=((RM.bG a e0 k0).2:Int):=congrArg Prod.snd c;have cs:e0=0\/e0=1\/e0=2\/e0=3:=by omega
   rcases cs with rfl|rfl|rfl|rfl
   ·simp[RM.bG]at c1;omega
   ·simp[RM.bG]at c2;omega
   ·have:=b2 rfl;simp[RM.bG]at c1;omega
   ·have:=b3 rfl;simp[RM.bG]at c2;omega
  subst ei;exact⟨_,rfl,k r H2 s2 rf ⟨r,xs,rfl,h2,pr⟩⟩
abbrev s_wr2:Stmt:=(top 46)
theorem sc_wr2:aM ["cells","headings","walls","walk","number","corner"] ["cells"] (aH s_wr2):=fS
theorem D9{α β:Type}{f:α->β}{l:List α}{i:Nat}{y:β}(h:(l.map f)[i]? =some y):∃x,l[i]? =some x/\y=f x:=by
 rw[bc]at h;cases e:l[i]? with
 |none=>rw[e]at h;cases h
 |some x=>rw[e]at h;cases h;exact⟨x,rfl,rfl⟩
noncomputable def PLw(w:Addr)(H:Hp)(v:V)(z:List PI):Prop:=∃b,v=V.ref b/\b≠w/\LT H (.ref b) z
theorem PLw.keep{w:Addr}{H H':Hp}{v:V}{z:List PI}{o:List V}(b:But w H H')(hw:H w=some (.lst o))(h:PLw w H v z):PLw w H' v z:=by obtain⟨a,rfl,n,_,ys,e,ha,py⟩:=h;cases e;exact⟨a,rfl,n,a,ys,rfl,b _ _ n ha,aJ (fun _ _ t=>t.but b hw (by intro _ z;cases z)) py⟩
noncomputable def sp_wr2(K:W.Frag)(d:Adr):Sp:=fun vs H Q _=>∃(c:Addr)(C:List (Nat×Nat)),vs=[.ref c]/\D2 H c (CS C)/\C.length<=256/\Roof.pinched C=false/\∀r H',a9 H H'->LLT H' (.ref r) (RM.cQ C)->Q (.ref r) H'
theorem ok_wr2(F:Fun K "walls_round" "walls_round" s_wr2 f fd)(T:Txt K mg base d)(D_haw:aS P w K mg base CX0 3 "headings_along_walls" ["cells"] (sp_haw K d))(D_wr:aS P w K mg base CX0 5 "walks_round" ["cells"] (sp_wr K d))(D_fb:aS P w K mg base CX0 3 "feet_between" ["corner","following","headings"] (sp_fb K d)):bN P w K mg base CX0 6 f fd ["cells"] (sp_wr2 K d):=by
 refine F.ok sc_wr2 (fun vs H Q E h=>by obtain⟨c,C,rfl,_⟩:=h;rfl) (fun _ _ _ _ H _ Q E hr h=>?_);have hu:=bI hr;obtain⟨c,C,rfl,hC,hl,hp,k⟩:=h;refine⟨_,(aA (psN (i:=1) sc_wr2.nd (aU D_haw (hm hr) aX rfl (a7 (pv 0) aD)))
   (aA (psN (i:=2) sc_wr2.nd (fB aD))
   (aA (c8 PassesOwn.never rfl (dX (aU D_wr (hm hr) aX rfl (a7 (pv 0) aD))) (pgN (i:=3) sc_wr2.nd) (aE (c8 PassesOwn.never rfl (wV rfl T.enumerate (a7 (pv 3) aD)) (kC rfl (bW (pgN (i:=4) sc_wr2.nd) (bW (pgN (i:=5) sc_wr2.nd) gW))) (aE (d6 (gX PySem.F.plainAttrs_list PySem.F.slot_list_append PySem.F.type_list_append cC (pv 2) (a7 (aU D_fb (hm hr) aX rfl (a7 (pv 5) (a7 (bH jD (pv 3) (d8 wX (d8 kE (pv 4) aL) (bY c7 (by rfl) T.len PySem.boot_len (a7 (pv 3) aD))) (fun _ _=>rfl)) (a7 (pv 1) aD)))) aD)))))))
   (aE (aT (pv 2)))))),?_⟩
 refine⟨_,rfl,c,C,rfl,hC,hl,fun h H1 s1 hh hH=>?_⟩;refine⟨cv _,fun w hw=>?_⟩;have sw:a9 H1 (upd H1 w (.lst [])):=a9.upd hw;have hw1:(upd H1 w (.lst [])) w=some (.lst []):=a8;have fw:H w=none:=s1.free hw;generalize (upd H1 w (.lst []))=Hw at sw hw1 ⊢;refine⟨_,rfl,c,C,rfl,(a9.trans s1 sw) _ _ hC,hl,hp,fun r H2 s2 hr=>?_⟩;obtain⟨_,ws,e,hr,pr⟩:=hr;cases e;have uw:=s2 _ _ hw1;have s3:=a9.trans (a9.trans s1 sw) s2;have hH2:D2 H2 h (IV (RM.cV (RM.iW C))):=(a9.trans sw s2) _ _ hH;have Am:h≠w:=aI hH hw;have lP:=RM.qI hp;have eP:RM.cQ C=(Roof.wallsOf (Roof.walksOf C)).map RM.wpt:=rfl;rw[eP,ai]at lP;refine⟨r,rfl,⟨_,SqL.of hr⟩,gR (K:=K) (a:=r) (xs:=ws) (fun i σ H3=>∃(xs:List V)(v3 v4 v5:Option V),σ=[some (.ref c),some (.ref h),some (.ref w),v3,v4,v5]/\But w H2 H3/\H3 r=some (.lst ws)/\H3 w=some (.lst xs)/\Paired (PLw w H3) xs ((Roof.wallsOf ((Roof.walksOf C).take i)).map RM.wpt))
  ⟨[],none,none,none,rfl,But.refl _ _,hr,uw,.nil⟩ (fun i σ H3 _ ⟨_,_,_,_,_,_,h3,_⟩=>SqL.of h3) ?_ ?_⟩
 ·rintro i v σ H3 hv ⟨xs,v3,v4,v5,rfl,b3,hr3,hw3,px⟩;obtain⟨z,hz,ba,ys,rfl,yb,py⟩:=pairs_at pr hv;obtain⟨wk,Aq,rfl⟩:=D9 hz;have lw:ys.length=wk.length:=(pairs_len py).trans (ai _);have hm:=az Aq;have lw0:0<wk.length:=by obtain⟨_,_,_,_,e,_⟩:=(RM.dC hp (RM.d7.start C)).1 wk hm;rw[e];exact Nat.zero_lt_succ _
  have nbw:ba≠w:=fun e=>by rw[e,uw]at yb;cases yb;rw[<- lw]at lw0;cases lw0
  have wa:r≠w:=fun e=>by rw[e,uw]at hr;cases hr;cases hv
  have fl:Roof.wallsOf ((Roof.walksOf C).take (i+1))=Roof.wallsOf ((Roof.walksOf C).take i)++Roof.sides wk:=by unfold Roof.wallsOf;rw[RM.take_snoc Aq,gd];simp
  have fle:(Roof.wallsOf ((Roof.walksOf C).take i)).length+wk.length<=1024:=by
   have:=congrArg (fun z=>(Roof.wallsOf z).length) (List.take_append_drop (i+1) (Roof.walksOf C));have e2:∀a b:List Roof.Walk,Roof.wallsOf (a++b)=Roof.wallsOf a++Roof.wallsOf b:=fun a b=>gd
   rw[e2,fl,aj,aj,RM.pB]at this;omega
  refine⟨_,rfl,ba,ys,rfl,SqL.of (b3 _ _ nbw yb),tQ (K:=K) (a:=ba) (xs:=ys) (fun j σ H4=>∃(xs:List V)(v4 v5:Option V),σ=[some (.ref c),some (.ref h),some (.ref w),some (.ref ba),v4,v5]/\But w H2 H4/\H4 w=some (.lst xs)/\Paired (PLw w H4) xs ((Roof.wallsOf ((Roof.walksOf C).take i)).map RM.wpt++((Roof.sides wk).take j).map RM.wpt))
   ⟨xs,v4,v5,rfl,b3,hw3,by rw[take_zero,jd,df];exact px⟩ (fun j σ H4 _ ⟨_,_,_,_,b4,_⟩=>SqL.of (b4 _ _ nbw yb)) ?_ ?_⟩
  ·rintro j v σ H4 Tt hj ⟨xs,v4,v5,rfl,b4,wc,px⟩ hT;obtain⟨_,hp',ca,rfl,Ax⟩:=pairs_at py hj;obtain⟨p,hp0,rfl⟩:=D9 hp';obtain⟨q,hq,hs⟩:=RM.j4 hp0;have hjl:=uL hp0;have rj:(j+1)%wk.length<wk.length:=mod_lt _ lw0;obtain⟨u,qm,tu⟩:∃u,ys[(j+1)%wk.length]? =some u/\T2 H2 u (RM.iP q):=by
    have e:ys[(j+1)%wk.length]? =some (ys[(j+1)%wk.length]'(by rw[lw];exact rj)):=bj _;obtain⟨p2,e2,t2⟩:=pairs_at py e;have e3:(RM.iW wk)[(j+1)%wk.length]? =some (RM.iP q):=by unfold RM.iW;rw[bc,hq];rfl
    rw[e3]at e2;cases e2;exact⟨_,e,t2⟩
   have sT:a9 H4 (upd H4 Tt (.tup [.int (j:Nat),.ref ca])):=a9.upd hT;refine⟨Tt,_,rfl,SqT.of a8,rfl,_,_,rfl,_,_,rfl,rfl,?_⟩;generalize (upd H4 Tt (.tup [.int (j:Nat),.ref ca]))=H5 at sT ⊢;have b5:But w H2 H5:=fun b u n e=>sT _ _ (b4 b u n e)
   have hw5:=sT _ _ wc;have Aa:=b5 _ _ nbw yb;have tt:∀{v:V}{p:PI},T2 H2 v p->T2 H5 v p:=fun t=>t.but b5 uw (by intro _ z;cases z)
   have mem:(p,q)∈Roof.wallsOf (Roof.walksOf C):=bw.mpr ⟨wk,hm,az hs⟩;have lx:=pairs_len px;rw[aj,ai,ai,bz,RM.pB]at lx;have ei:((j:Int)+1)% (ys.length:Int)=(((j+1)%wk.length:Nat):Int):=by rw[lw,Int.natCast_emod];rfl
   have fe:(Roof.feet p q).length<=4*C.length:=RM.G6 hp _ mem;refine⟨_,rfl,.inl ⟨rfl,_,SqL.of hw5⟩,_,rfl,_,rfl,_,rfl,_,_,rfl,rfl,_,rfl,ba,ys,rfl,.inl (SqL.of Aa),_,_,rfl,rfl,by rw[lw];exact Int.ofNat_lt.mpr lw0,ba,_,_,u,rfl,rfl,SqL.of Aa,aW (by rw[ei];exact Int.natCast_nonneg _) (by rw[ei];exact qm),_,rfl,.ref ca,u,h,p,q,RM.cV (RM.iW C),rfl,tt ⟨ca,rfl,Ax⟩,tt tu,D2.rd (b5 _ _ Am hH2),RM.gK hp _ mem,RM.zT hp _ mem,by omega,fun rr H6 s6 fr lt=>?_⟩;have nrr:rr≠w:=fun z=>by rw[z,hw5]at fr;cases fr
   refine⟨w,xs,.ref rr,rfl,rfl,s6 _ _ hw5,few (m:=5000) (by omega),xs++[.ref rr],_,_,rfl,But.here (fun b u n e=>s6 _ _ (b5 b u n e)),a8,?_⟩;rw[RM.take_snoc hs,cj,<- dv];have b6:But w H4 (upd H6 w (.lst (xs++[.ref rr]))):=But.here (fun b u n e=>s6 _ _ (sT _ _ e));exact aZ ⟨rr,rfl,nrr,lt.upd (s6 _ _ hw5) nrr⟩ (aJ (fun v z t=>PLw.keep b6 wc t) px)
  ·rintro σ H4 ⟨xs,v4,v5,rfl,b4,wc,px⟩;rw[lw,<- RM.pB,List.take_length,<- cj,<- fl]at px;exact⟨xs,_,_,_,rfl,b4,b4 _ _ wa hr,wc,px⟩
 ·rintro σ H3 ⟨xs,v3,v4,v5,rfl,b3,hr3,hw3,px⟩;rw[show ws.length=(Roof.walksOf C).length from(pairs_len pr).trans (ai _),List.take_length]at px;exact⟨_,rfl,k w H3 (b3.same s3 fw) ⟨w,xs,rfl,hw3,aJ (fun v z ⟨b,e,_,t⟩=>by rw[e];exact t) px⟩⟩
abbrev s_fa:Stmt:=(top 73)
theorem sc_fa:aM ["end","cell"] ["end"] (aH s_fa):=fS
noncomputable def sp_fa(K:W.Frag)(d:Adr):Sp:=fun vs H Q _=>∃(a:Addr)(e:Roof.End),vs=[.ref a]/\H a=some (.tup ((RM.fY e).map V.int))/\∀r H',a9 H H'->T2 H' r (RM.jV (RM.fY e))->Q r H'
theorem ok_fa(F:Fun K "foot_at" "foot_at" s_fa f fd)(T:Txt K mg base d)(D_ss:aS P w K mg base CX0 2 "side_start" ["square","side"] (sp_ss K d)):bN P w K mg base CX0 3 f fd ["end"] (sp_fa K d):=by
 refine F.ok sc_fa (fun vs H Q E h=>by obtain⟨a,e,rfl,_⟩:=h;rfl) (fun _ _ _ _ H _ Q E hr h=>?_);have hu:=bI hr;obtain⟨a,e,rfl,ha,k⟩:=h;refine⟨_,(aA (psN (i:=1) sc_fa.nd (cU (a7 (d8 D4 (bH bD (pv 0) aL (fun _ _=>rfl)) aL) (a7 (d8 D4 (bH bD (pv 0) aL (fun _ _=>rfl)) aL) aD))))
   (aA (cB (bK gY (bH bD (pv 0) aL (fun _ _=>rfl)) (cH T.qY rfl) (bU _)) (aE (aT (pv 1))) bF)
   (aE (aT (aU D_ss (hm hr) aX rfl (a7 (pv 1) (a7 (bH bD (pv 0) aL (fun _ _=>rfl)) aD))))))),?_⟩
 cases e with
 |eave t=>have ha:H a=some (.tup [.int 0,.int (Roof.iOf (t/4):Int),.int (Roof.jOf (t/4):Int),.int ((t%4:Nat):Int)]):=ha;refine⟨_,rfl,a,_,_,_,rfl,rfl,SqT.of ha,aW (by decide) rfl,_,_,rfl,rfl,⟨by decide,by decide⟩,_,rfl,a,_,_,_,rfl,rfl,SqT.of ha,aW (by decide) rfl,_,_,rfl,rfl,⟨by decide,by decide⟩,by show 2<=sizeLine;decide,fun q hq=>?_⟩;have s1:=a9.upd (o:=.tup [.int ((Roof.iOf (t/4):Int)/2),.int ((Roof.jOf (t/4):Int)/2)]) hq;have ha1:=s1 _ _ ha;refine⟨_,rfl,a,_,_,_,rfl,rfl,SqT.of ha1,aW (by decide) rfl,rfl,_,rfl,?_⟩;rw[jM];refine bZ (fun c=>absurd c (by decide)) (fun c=>?_);refine⟨_,rfl,_,rfl,a,_,_,_,rfl,rfl,SqT.of ha1,aW (by decide) rfl,.ref q,((Roof.iOf (t/4):Int)/2,(Roof.jOf (t/4):Int)/2),t%4,rfl,T2.c ⟨q,rfl,a8⟩,mod_lt _ (by decide),fun r H2 s2 t2=>k r H2 (a9.trans s1 s2) t2⟩
 |corner p=>have ha:H a=some (.tup [.int 1,.int (p.1:Int),.int (p.2:Int)]):=ha;refine⟨_,rfl,a,_,_,_,rfl,rfl,SqT.of ha,aW (by decide) rfl,_,_,rfl,rfl,⟨by decide,by decide⟩,_,rfl,a,_,_,_,rfl,rfl,SqT.of ha,aW (by decide) rfl,_,_,rfl,rfl,⟨by decide,by decide⟩,by show 2<=sizeLine;decide,fun q hq=>?_⟩;have s1:=a9.upd (o:=.tup [.int ((p.1:Int)/2),.int ((p.2:Int)/2)]) hq;have ha1:=s1 _ _ ha;refine⟨_,rfl,a,_,_,_,rfl,rfl,SqT.of ha1,aW (by decide) rfl,rfl,_,rfl,?_⟩;rw[jM];exact bZ (fun c=>⟨_,rfl,k _ _ s1 ⟨q,rfl,a8⟩⟩) (fun c=>absurd (by decide) c)
abbrev s_dr:Stmt:=(top 75)
theorem sc_dr:aM ["triangle","roof","end"] ["triangle","roof"] (aH s_dr):=fS
noncomputable def sp_dr(K:W.Frag)(d:Adr):Sp:=fun vs H Q _=>∃(v:V)(x cA dA hA fA nA gA:Addr)(t:Nat)(C:List (Nat×Nat))(ht:List (PI×Int))(Ns:List (List PI3)),vs=[v,.ref x]/\T3 H v (RM.tP t)/\t∈(Roof.topOf C).tris/\jP C d.Roof H x cA dA hA fA nA gA ht Ns/\Roof.isHouse C=true/\∀e (j:Nat) P,(Roof.topOf C).endOf t=some e->(RM.cQ C)[j]? =some P->RM.jV (RM.fY e)∈P->∀r H',a9 H H'->H r=none->H' r=some (.lst ((RM.fY e++[(j:Int)]).map V.int))->Q (.ref r) H'
theorem ok_dr(F:Fun K "drop_row" "drop_row" s_dr f fd)(T:Txt K mg base d)(D_we:aS P w K mg base CX0 4 "water_end" ["triangle","roof"] (sp_we K d))(D_wn:aS P w K mg base CX0 1 "wall_numbers" ["walls"] (sp_wn K d))(D_wr2:aS P w K mg base CX0 6 "walls_round" ["cells"] (sp_wr2 K d))(D_fa:aS P w K mg base CX0 3 "foot_at" ["end"] (sp_fa K d)):bN P w K mg base CX0 7 f fd ["triangle","roof"] (sp_dr K d):=by
 refine F.ok sc_dr (fun vs H Q E h=>by obtain⟨v,x,cA,dA,hA,fA,nA,gA,t,C,ht,Ns,rfl,_⟩:=h;rfl) (fun _ _ _ _ H _ Q E hr h=>?_);have hu:=bI hr;obtain⟨v,x,cA,dA,hA,fA,nA,gA,t,C,ht,Ns,rfl,hv,Ar,ra,hH,k⟩:=h;refine⟨_,(aA (psN (i:=2) sc_dr.nd (aU D_we (hm hr) aX rfl (a7 (pv 0) (a7 (pv 1) aD))))
   (aE (aT (d8 MG (pJ xU (by rfl) T.list (by rfl) (a7 (pv 2) aD)) (fB (a7 (fL hu (aU D_wn (hm hr) aX rfl (a7 (aU D_wr2 (hm hr) aX rfl (a7 (gM (pv 1) rfl) aD)) aD)) (aU D_fa (hm hr) aX rfl (a7 (pv 2) aD)) (fun _ _=>rfl)) aD)))))),?_⟩
 obtain⟨_,hl,hb,_,hp⟩:=RM.kK hH;obtain⟨dx,fs,hx,q1,_⟩:=ra.ins;obtain⟨e,he⟩:=RM.J2 hb Ar;obtain⟨u,Bz,hg⟩:=RM.last_step hb _ Ar he;obtain⟨j,⟨P',hP,hm⟩,_⟩:=RM.zZ hb hp Bz hg;have k:=k e j P' he hP hm;refine⟨_,rfl,_,rfl,v,x,t,C,rfl,hv,Ar,hb,ra.l,fun e' De r H1 s1 hr=>?_⟩;cases he.symm.trans De;refine⟨_,rfl,r,_,rfl,.inr (SqT.of hr),fun l rh=>?_⟩;have s2:=a9.trans s1 (a9.upd (o:=.lst ((RM.fY e).map V.int)) rh);have hr2:=a9.upd (o:=.lst ((RM.fY e).map V.int)) rh _ _ hr;have Au:(upd H1 l (.lst ((RM.fY e).map V.int))) l=_:=a8;generalize (upd H1 l (.lst ((RM.fY e).map V.int)))=H2 at s2 hr2 Au ⊢;have lf:=RM.jZ hp;have ln:=RM.qI hp;refine⟨_,rfl,x,d.Roof,dx,fs,_,rfl,s2 _ _ hx,T.cR,T.D7,q1,cA,C,rfl,s2 _ _ ra.cells,hl,hp,fun w H3 s3 lw=>?_⟩;refine⟨w,RM.cQ C,rfl,lw,by omega,by omega,RM.rV hp,fun n nu H4 s4 fn hn W=>?_⟩;refine⟨_,rfl,r,e,rfl,s4 _ _ (s3 _ _ hr2),fun y H5 s5 ty=>?_⟩;obtain⟨ya,rfl,ud⟩:=ty;have g:=R2.get (p:=RM.jV (RM.fY e)) (D2.rd (s5 _ _ hn)) ud;rw[f9,W j P' _ hP hm]at g;have s25:=a9.trans (a9.trans s3 s4) s5;refine⟨n,_,rfl,g,by show 1<=sizeLine;decide,fun p hp0=>?_⟩;have sp:=a9.trans s25 (a9.upd (o:=.lst [.int (j:Int)]) hp0);have le:((RM.fY e).map V.int).length+1<=sizeLine:=by
  cases e with
  |eave _=>exact(show 5<=sizeLine by decide)
  |corner _=>exact(show 4<=sizeLine by decide)
 refine⟨l,p,_,_,rfl,rfl,sp _ _ Au,a8,le,fun z hz=>?_⟩;have sz:=a9.trans s2 sp;exact k z _ (a9.trans sz (a9.upd hz)) (sz.free hz) (by rw[a8,cj];rfl)
abbrev s_rwt:Stmt:=(top 81)
theorem sc_rwt:aM ["i","j","s","t","told"] ["i","j","s","t"] (aH s_rwt):=fS
noncomputable def sp_rwt(K:W.Frag)(d:Adr):Sp:=fun vs H Q E=>∃(i j s0:Int)(a:Addr)(ns:List Int),vs=[.int i,.int j,.int s0,.ref a]/\SqL K H a (ns.map V.int)/\ns.length<=4096/\RM.inB ns/\(¬(i<=127/\j<=127/\s0<=3)->E (.ref d.bM) none H)/\(i<=127->j<=127->s0<=3->(Roof.houseOf (RoofBNeutral.text ns)=none->E (.ref d.cF) none H)/\∀F,Roof.houseOf (RoofBNeutral.text ns)=some (RM.aQ F)->Roof.isHouse (RM.aQ F)=true->((i,j)∉ (Roof.halvesOf (RM.aQ F)).map RM.hP->E (.ref d.dZ) none H)/\((i,j)∈(Roof.halvesOf (RM.aQ F)).map RM.hP->∀x cA dA hA fA nA gA ht Ns H',a9 H H'->jP (RM.aQ F) d.Roof H' x cA dA hA fA nA gA ht Ns->Q (.ref x) H'))
theorem ok_rwt(F:Fun K "roof_with_triangle" "roof_with_triangle" s_rwt f fd)(T:Txt K mg base d)(D_ct:aS P w K mg base CXf 1 "check_triangle" ["i","j","s"] (sp_ct K d))(D_rt:aS P w K mg base CXf 9 "roof_told" ["t"] (sp_rt K d)):bN P w K mg base CXf 10 f fd ["i","j","s","t"] (sp_rwt K d):=by
 refine okX F sc_rwt (fun vs H Q E h=>by obtain⟨i,j,s0,a,ns,rfl,_⟩:=h;rfl) (fun _ _ _ _ H _ Q E hr hok h=>?_);have hu:=bI hr;obtain⟨i,j,s0,a,ns,rfl,hS,hl,hB,k1,k2⟩:=h;refine⟨_,(aA (d6 (aU D_ct (hm hr) (yM hok) rfl (a7 (pv 0) (a7 (pv 1) (a7 (pv 2) aD)))))
   (aA (psN (i:=4) sc_rwt.nd (aU D_rt (hm hr) (yM hok) rfl (a7 (pv 3) aD)))
   (aA (cB (e6 (cW hu (cU (a7 (pv 0) (a7 (pv 1) aD))) (gM (pv 4) rfl))) (aE (dG hok PySem.F.excBase_Exception T.ET rfl)) bF)
   (aE (aT (pv 4)))))),?_⟩
 refine⟨_,rfl,_,rfl,_,rfl,i,j,s0,rfl,fun b1 b2 b3=>?_,k1⟩;obtain⟨k2,k3⟩:=k2 b1 b2 b3;refine⟨_,rfl,a,ns,rfl,hS,hl,hB,fun F hF hH x cA dA hA fA nA gA ht Ns H1 s1 ra=>?_,k2⟩;obtain⟨k3,k4⟩:=k3 F hF hH;refine⟨_,rfl,_,rfl,(by show 2<=sizeLine;decide),fun t Cd=>?_⟩;have s2:a9 H1 (upd H1 t (.tup [.int i,.int j])):=a9.upd Cd;have ra2:=ra.mono s2;have zc:(upd H1 t (.tup [.int i,.int j])) t=some (.tup [.int i,.int j]):=a8;generalize (upd H1 t (.tup [.int i,.int j]))=H2 at s2 ra2 zc ⊢;obtain⟨dx,fs,hx,_,qd,_⟩:=ra2.ins;refine⟨_,rfl,x,d.Roof,dx,fs,_,rfl,hx,T.cR,T.kF,qd,dA,_,rfl,R2.get (p:=(i,j)) ra2.CA.rd zc,_,rfl,?_⟩;have hk:(RM.aN (IV (RM.bT (Roof.halvesOf (RM.aQ F)))) ((i,j):PI)).isSome=true↔(i,j)∈(Roof.halvesOf (RM.aQ F)).map RM.hP:=by rw[AE,RM.aV];unfold RM.bT;rw[RM.fQ]
 refine bZ (fun c=>k3 fun z=>?_) (fun c=>?_)
 ·rw[hk.mpr z]at c;cases c
 ·have c:(i,j)∈(Roof.halvesOf (RM.aQ F)).map RM.hP:=hk.mp (by
   cases e:(RM.aN (IV (RM.bT (Roof.halvesOf (RM.aQ F)))) ((i,j):PI)).isSome with
   |true=>rfl
   |false=>rw[e]at c;exact absurd rfl c)
  exact⟨_,rfl,k4 c x cA dA hA fA nA gA ht Ns H2 (a9.trans s1 s2) ra2⟩
abbrev uZ:Stmt:=(top 18)
theorem M6:aM ["tell"] ["tell"] (aH uZ):=fS
noncomputable def hds(d:Adr):List HD:=[⟨"NoHouse",d.cF,1,⟨35,11,35,18⟩,⟨36,17,36,18⟩,⟨36,16,36,18⟩,⟨36,15,36,19⟩,⟨36,8,36,19⟩,⟨35,4,36,19⟩⟩,⟨"OutOfBounds",d.bM,3,⟨37,11,37,22⟩,⟨38,17,38,18⟩,⟨38,16,38,18⟩,⟨38,15,38,19⟩,⟨38,8,38,19⟩,⟨37,4,38,19⟩⟩,⟨"Outside",d.dZ,5,⟨39,11,39,18⟩,⟨40,17,40,18⟩,⟨40,16,40,18⟩,⟨40,15,40,19⟩,⟨40,8,40,19⟩,⟨39,4,40,19⟩⟩,⟨"NoFace",d.iJ,6,⟨41,11,41,17⟩,⟨42,17,42,18⟩,⟨42,16,42,18⟩,⟨42,15,42,19⟩,⟨42,8,42,19⟩,⟨41,4,42,19⟩⟩,⟨"NoSize",d.iI,7,⟨43,11,43,17⟩,⟨44,17,44,18⟩,⟨44,16,44,18⟩,⟨44,15,44,19⟩,⟨44,8,44,19⟩,⟨43,4,44,19⟩⟩]
theorem NH(d:Adr):eZ uZ=[.Try [.Return (some (.Call (.Name "tell" ⟨34,15,34,19⟩) [] [] ⟨34,15,34,21⟩)) ⟨34,8,34,21⟩] ((hds d).map HD.h) [] [] ⟨33,4,44,19⟩]:=rfl
structure Ans(K:W.Frag)(mg:Str->Option Value)(base:Heap)(d:Adr)(fA:Addr)(fdA:FuncData):Prop where
 fn:Fun K "answer_or_refusal" "answer_or_refusal" uZ fA fdA
 at_:mg "answer_or_refusal" =some (.ref fA)
 bind:Binds K fdA ["tell"] []
 j0:mg "NoHouse" =some (.ref d.cF)
 iL:gU base d.cF
 eM:mg "OutOfBounds" =some (.ref d.bM)
 eB:gU base d.bM
 iZ:mg "Outside" =some (.ref d.dZ)
 iK:gU base d.dZ
 kX:mg "NoFace" =some (.ref d.iJ)
 jY:gU base d.iJ
 kW:mg "NoSize" =some (.ref d.iI)
 jX:gU base d.iI
 ap:[d.cF,d.bM,d.dZ,d.iJ,d.iI].Nodup
 bm:NK mg base
theorem Ans.MR{K:W.Frag}{mg:Str->Option Value}{base:Heap}{d:Adr}{fA:Addr}{fdA:FuncData}(A:Ans K mg base d fA fdA):∀h∈hds d,mg h.x=some (.ref h.C)/\(aH uZ).names.lookup h.x=some .globalImplicit/\gU base h.C/\(h.x==("__debug__" : Str))=false:=by
 intro h hh;rcases ak.mp hh with rfl|hh
 ·exact⟨A.j0,rfl,A.iL,rfl⟩
 rcases ak.mp hh with rfl|hh
 ·exact⟨A.eM,rfl,A.eB,rfl⟩
 rcases ak.mp hh with rfl|hh
 ·exact⟨A.iZ,rfl,A.iK,rfl⟩
 rcases ak.mp hh with rfl|hh
 ·exact⟨A.kX,rfl,A.jY,rfl⟩
 rcases ak.mp hh with rfl|hh
 ·exact⟨A.kW,rfl,A.jX,rfl⟩
 exact(nomatch hh)
theorem Ans.BX{K:W.Frag}{mg:Str->Option Value}{base:Heap}{d:Adr}{fA:Addr}{fdA:FuncData}(A:Ans K mg base d fA fdA){H H0:Hp}{Q:VK}(h:∀p,H p=none->Q (.ref p) (upd H p (.lst [.int (-1)]))):XA (hds d) H Q (.ref d.cF) none H0:=by
 have nd:=A.ap;simp only[dc,ak,fo,or_false,not_or]at nd;refine⟨_,rfl,⟨_,az (i:=0) rfl,rfl⟩,fun e he hC p hp=>?_⟩;rcases ak.mp he with rfl|he
 ·exact h p hp
 rcases ak.mp he with rfl|he
 ·exact absurd hC (by intro z;simp_all)
 rcases ak.mp he with rfl|he
 ·exact absurd hC (by intro z;simp_all)
 rcases ak.mp he with rfl|he
 ·exact absurd hC (by intro z;simp_all)
 rcases ak.mp he with rfl|he
 ·exact absurd hC (by intro z;simp_all)
 exact(nomatch he)
theorem Ans.tO{K:W.Frag}{mg:Str->Option Value}{base:Heap}{d:Adr}{fA:Addr}{fdA:FuncData}(A:Ans K mg base d fA fdA){H H0:Hp}{Q:VK}(h:∀p,H p=none->Q (.ref p) (upd H p (.lst [.int (-3)]))):XA (hds d) H Q (.ref d.bM) none H0:=by
 have nd:=A.ap;simp only[dc,ak,fo,or_false,not_or]at nd;refine⟨_,rfl,⟨_,az (i:=1) rfl,rfl⟩,fun e he hC p hp=>?_⟩;rcases ak.mp he with rfl|he
 ·exact absurd hC (by intro z;simp_all)
 rcases ak.mp he with rfl|he
 ·exact h p hp
 rcases ak.mp he with rfl|he
 ·exact absurd hC (by intro z;simp_all)
 rcases ak.mp he with rfl|he
 ·exact absurd hC (by intro z;simp_all)
 rcases ak.mp he with rfl|he
 ·exact absurd hC (by intro z;simp_all)
 exact(nomatch he)
theorem Ans.BW{K:W.Frag}{mg:Str->Option Value}{base:Heap}{d:Adr}{fA:Addr}{fdA:FuncData}(A:Ans K mg base d fA fdA){H H0:Hp}{Q:VK}(h:∀p,H p=none->Q (.ref p) (upd H p (.lst [.int (-5)]))):XA (hds d) H Q (.ref d.dZ) none H0:=by
 have nd:=A.ap;simp only[dc,ak,fo,or_false,not_or]at nd;refine⟨_,rfl,⟨_,az (i:=2) rfl,rfl⟩,fun e he hC p hp=>?_⟩;rcases ak.mp he with rfl|he
 ·exact absurd hC (by intro z;simp_all)
 rcases ak.mp he with rfl|he
 ·exact absurd hC (by intro z;simp_all)
 rcases ak.mp he with rfl|he
 ·exact h p hp
 rcases ak.mp he with rfl|he
 ·exact absurd hC (by intro z;simp_all)
 rcases ak.mp he with rfl|he
 ·exact absurd hC (by intro z;simp_all)
 exact(nomatch he)
theorem M5{K:W.Frag}{H:Hp}{tb a:Addr}{xs:List V}{ps qs:Array Value}(h:SqL K H a xs)(ht:H tb=some (.tbl ps)):SqL K (hT H tb qs) a xs:=by
 rcases h with h|h
 ·left;have n:a≠tb:=fun z=>by rcases h with h|⟨o,h⟩<;>(rw[z,ht]at h;cases h)
  rcases h with h|⟨o,h⟩
  ·exact .inl (by unfold hT;rw[aC n];exact h)
  ·exact .inr ⟨o,by unfold hT;rw[aC n];exact h⟩
 ·exact .inr h
abbrev s_f:Stmt:=(top 82)
theorem sc_f:aM ["i","j","s","t"] ["i","j","s","t"] (aH s_f):=fS
noncomputable def sp_f(K:W.Frag)(tb:Addr):Sp:=fun vs H Q _=>∃(i j s:Int)(rt:Addr)(nt:List Int),vs=[.int i,.int j,.int s,.ref rt]/\SqL K H rt (nt.map V.int)/\nt.length<=4096/\RM.inB nt/\0<=i/\0<=j/\0<=s/\oX tb H/\
 ∀p H',H' p=some (.lst ((RoofBNeutral.f [[4,i,j,s],nt]).map V.int))->Q (.ref p) H'
noncomputable def JL(K:W.Frag)(d:Adr):XK->Hp->TE:=fun E H=>(CP (sp_dr K d) [] (fun _ _ _=>False) (m8 (NN (m8 (wM 0) (m8 (wM 1) (m8 (wM 2) JN)))) (m8 (CP (sp_rwt K d) [] (fun c _ _=>E c none H) (m8 (wM 0) (m8 (wM 1) (m8 (wM 2) (m8 (wM 3) JN))))) JN)))
theorem ok_f{P:Program}{w:World}{K:W.Frag}{mg:Str->Option Value}{base:Heap}{d:Adr}{f fA c tb:Addr}{fd fdA:FuncData}(F:Fun K "drop" "drop" s_f f fd)(T:Txt K mg base d)(AN:Ans K mg base d fA fdA)(Dc:fd.code=.ref c)(hC:W.CodeHd base c tb)(D_dr:aS P w K mg base CX0 7 "drop_row" ["triangle","roof"] (sp_dr K d))(D_rwt:aS P w K mg base CXf 10 "roof_with_triangle" ["i","j","s","t"] (sp_rwt K d)):bN P w K mg base CXf 13 f fd ["i","j","s","t"] (sp_f K tb):=by
 obtain⟨oc,od,kV,md,pm,an,jx,ct,mw,rfl,lk,om⟩:=F.ex;obtain⟨oc2,od2,kV2,doc2,pm2,an2,cdv2,ct2,osl2,e2,lk2,hcd2⟩:=AN.fn.ex;obtain rfl:jx=.ref c:=Dc;subst e2;refine IY lk om sc_f (fun vs H Q E h=>by obtain⟨i,j,s,rt,nt,rfl,_⟩:=h;rfl) (fun A outer s H vs Q E hr hok h=>?_);obtain⟨i,j,s,rt,nt,rfl,hSt,jz,hBt,zi,zj,zs,⟨hE1,hE2⟩,k⟩:=h;refine⟨_,aE (aT (MD (k:=10) (teL:=JL K d) (T:=tb) AN.at_ lk2 hcd2 AN.fn.kp AN.bind M6 rfl (NH d) rfl AN.MR rfl (by decide) hr (fun _=>rfl) rfl hC AN.bm rfl (fun _ _ _ _=>rfl) rfl rfl rfl (by decide+kernel) (fun y hy=>absurd rfl ((by decide+kernel:∀z∈ _,z.2≠NameKind.local) _ (PySem.mem_of_lookup hy))) (fun y hy he=>(by decide+kernel:∀z:Str×NameKind,z∈(_:List (Str×NameKind))->z.2=NameKind.free->(aH s_f).names.lookup z.1=some NameKind.cell) y hy he)
  (fun fl c' cl A outer s H E hr hok=>(aU D_dr (hm hr) aX rfl (a7 (cU (a7 (pv 0) (a7 (pv 1) (a7 (pv 2) aD)))) (a7 (aU D_rwt hr (O4 hok) rfl (a7 (pv 0) (a7 (pv 1) (a7 (pv 2) (a7 (pv 3) aD))))) aD)))))),?_⟩
 refine⟨[.int i,.int j,.int s,.ref rt],#[],rfl,hE1,trivial,rfl,oX.flat hE2,fun more=>?_⟩;have hTb:hT H tb (#[]++more) tb≠none:=by unfold hT;rw[a8];intro z;cases z
 have hQ:∀(r:List Int)(H1:Hp)(p:Addr),RoofBNeutral.f [[4,i,j,s],nt]=r->p≠tb->H1 p=some (.lst (r.map V.int))->Q (.ref p) (upd H1 tb (.tbl (#[]++more))):=fun r H1 p e n q=>k p _ (by rw[aC n,e];exact q)
 have hX:∀r:Int,RoofBNeutral.f [[4,i,j,s],nt]=[r]->∀p,hT H tb (#[]++more) p=none->upd (hT H tb (#[]++more)) p (.lst [.int r]) tb=some (.frz (W.tabObj (#[]++more)) (.tbl (#[]++more)))->Q (.ref p) (upd (upd (hT H tb (#[]++more)) p (.lst [.int r])) tb (.tbl (#[]++more))):=fun r e p hp _=>
  hQ [r] _ p e (fun z=>hTb (z▸hp)) a8
 have xa:hT H tb (#[]++more) tb=some (.frz (W.tabObj (#[]++more)) (.tbl (#[]++more))):=by unfold hT;rw[a8]
 refine⟨_,rfl,_,rfl,_,rfl,(by show 3<=sizeLine;decide),fun t Cc=>?_⟩;have s0:a9 (hT H tb (#[]++more)) (upd (hT H tb (#[]++more)) t (.tup [.int i,.int j,.int s])):=a9.upd Cc;have zc:(upd (hT H tb (#[]++more)) t (.tup [.int i,.int j,.int s])) t=some (.tup [.int i,.int j,.int s]):=a8;refine⟨_,rfl,_,rfl,_,rfl,_,rfl,i,j,s,rt,nt,rfl,s0.seq (M5 hSt hE1),jz,hBt,fun c=>AN.tO (hX _ (RM.C7 zi zj zs c)),fun b0 b1 b2=>⟨fun c=>AN.BX (hX _ (RM.xQ zi zj zs b0 b1 b2 c)),fun F hF hH=>?_⟩⟩;have hb:∀c∈RM.aQ F,c.1<64/\c.2<64:=fun c hc=>⟨(RM.gS.mp hc).1,(RM.gS.mp hc).2.1⟩
 refine⟨fun c=>AN.BW (hX _ (RM.xP zi zj zs b0 b1 b2 hF hb c)),fun c x cA dA hA fA nA gA ht Ns H1 s1 ra=>?_⟩;obtain⟨_,_,_,_,hp⟩:=RM.kK hH;have ho2:((i.toNat:Int),(j.toNat:Int))∈(Roof.halvesOf (RM.aQ F)).map RM.hP:=by rw[cb zi,cb zj];exact c
 have hi:i.toNat<128:=by omega
 have hj:j.toNat<128:=by omega
 have hs:s.toNat<4:=by omega
 have et:=RM.LX (j:=j.toNat) hi hs;rw[cb zi,cb zj,cb zs]at et;exact⟨.ref t,x,cA,dA,hA,fA,nA,gA,RoofB.tri i.toNat j.toNat s.toNat,RM.aQ F,ht,Ns,rfl,⟨t,rfl,by rw[et];exact s1 _ _ zc⟩,RM.yB hb hi hj hs ho2,ra,hH,fun e k P he hk hm r H2 s2 fr hr=>fun _=>hQ _ H2 r (RM.FN zi zj zs b0 b1 b2 hF hb hp c he hk hm) (fun z=>by rw[z,s1 _ _ (s0 _ _ xa)]at fr;cases fr) hr⟩
@[elab_as_elim] theorem el1{α:Type}{C:List α->Prop}:∀(us:List α),us.length=1->(∀x0,C [x0])->C us
 |[x0],_,k=>k x0
@[elab_as_elim] theorem el2{α:Type}{C:List α->Prop}:∀(us:List α),us.length=2->(∀x0 x1,C [x0,x1])->C us
 |[x0,x1],_,k=>k x0 x1
@[elab_as_elim] theorem el3{α:Type}{C:List α->Prop}:∀(us:List α),us.length=3->(∀x0 x1 x2,C [x0,x1,x2])->C us
 |[x0,x1,x2],_,k=>k x0 x1 x2
@[elab_as_elim] theorem el4{α:Type}{C:List α->Prop}:∀(us:List α),us.length=4->(∀x0 x1 x2 x3,C [x0,x1,x2,x3])->C us
 |[x0,x1,x2,x3],_,k=>k x0 x1 x2 x3
theorem JE{P:Program}{w:World}{K:W.Frag}{mg:Str->Option Value}{base:Heap}{d:Adr}(M:Mod K mg base)(T:Txt K mg base d){fI:Addr}{fdI:FuncData}(ng:Mk K d.Roof fI)(F_init:Fun K "__init__" "Roof.__init__" s_i fI fdI)
  (D_m:aG K "moved" s_m)
  (D_ss:aG K "side_start" s_ss)
  (D_fo4:aG K "foot_of" s_fo4)
  (D_b:aG K "beyond" s_b)
  (D_o:aG K "opposite" s_o)
  (D_ta:aG K "triangle_across" s_ta)
  (D_ha:aG K "half_across" s_ha)
  (D_we:aG K "water_end" s_we)
  (D_wn:aG K "wall_numbers" s_wn)
  (D_lo:aG K "left_of" s_lo)
  (D_haw:aG K "headings_along_walls" s_haw)
  (D_br:aG K "by_row" s_br)
  (D_wf:aG K "walk_from" s_wf)
  (D_wr:aG K "walks_round" s_wr)
  (D_fb:aG K "feet_between" s_fb)
  (D_wr2:aG K "walls_round" s_wr2)
  (D_fa:aG K "foot_at" s_fa)
  (D_dr:aG K "drop_row" s_dr)
  (D_ct:aG K "check_triangle" s_ct)
  (D_hco:aG K "half_cells_of" s_hco)
  (D_id:aG K "is_deeper" s_id)
  (D_do:aG K "depths_of" s_do)
  (D_ho:aG K "height_over" s_ho)
  (D_ho2:aG K "heights_of" s_ho2)
  (D_se:aG K "side_end" s_se)
  (D_ro:aG K "right_of" s_ro)
  (D_fo2:aG K "facing_of" s_fo2)
  (D_fo3:aG K "facings_of" s_fo3)
  (D_tol:aG K "triangle_on_left" s_tol)
  (D_tor:aG K "triangle_on_right" s_tor)
  (D_nf:aG K "number_face" s_nf)
  (D_no:aG K "numbers_of" s_no)
  (D_fo:aG K "faces_of" s_fo)
  (D_pb:aG K "parts_between" s_pb)
  (D_dt:aG K "digit_told" s_dt)
  (D_nt:aG K "number_told" s_nt)
  (D_ct2:aG K "corner_told" s_ct2)
  (D_wt:aG K "walk_told" s_wt)
  (D_wt2:aG K "walks_told" s_wt2)
  (D_far:aG K "feet_across_rows" s_far)
  (D_cw:aG K "cells_within" s_cw)
  (D_miap:aG K "meets_in_a_point" s_miap)
  (D_ij:aG K "is_joined" s_ij)
  (D_ih:aG K "is_house" s_ih)
  (D_ht:aG K "house_told" s_ht)
  (D_rt:aG K "roof_told" s_rt)
  (D_rwt:aG K "roof_with_triangle" s_rwt)
  : aS P w K mg base CX0 7 "drop_row" ["triangle","roof"] (sp_dr K d)/\aS P w K mg base CXf 10 "roof_with_triangle" ["i","j","s","t"] (sp_rwt K d):=by
 have E_m:=D_m.ok M (fun _ _ F=>ok_m F T (P:=P) (w:=w)) fun _ _ _ _ _ _ us h=>el2 us h fun _ _=>rfl
 have E_ss:=D_ss.ok M (fun _ _ F=>ok_ss F T E_m) fun _ _ _ _ _ _ us h=>el2 us h fun _ _=>rfl
 have E_fo4:=D_fo4.ok M (fun _ _ F=>ok_fo4 F T E_ss) fun _ _ _ _ _ _ us h=>el2 us h fun _ _=>rfl
 have E_b:=D_b.ok M (fun _ _ F=>ok_b F T E_m) fun _ _ _ _ _ _ us h=>el2 us h fun _ _=>rfl
 have E_o:=D_o.ok M (fun _ _ F=>ok_o F T (P:=P) (w:=w)) fun _ _ _ _ _ _ us h=>el1 us h fun _=>rfl
 have E_ta:=D_ta.ok M (fun _ _ F=>ok_ta F T E_b E_o) fun _ _ _ _ _ _ us h=>el1 us h fun _=>rfl
 have E_ha:=D_ha.ok M (fun _ _ F=>ok_ha F T (P:=P) (w:=w)) fun _ _ _ _ _ _ us h=>el2 us h fun _ _=>rfl
 have E_we:=D_we.ok M (fun _ _ F=>ok_we F T E_fo4 E_ta E_ha) fun _ _ _ _ _ _ us h=>el2 us h fun _ _=>rfl
 have E_wn:=D_wn.ok M (fun _ _ F=>ok_wn F T (P:=P) (w:=w)) fun _ _ _ _ _ _ us h=>el1 us h fun _=>rfl
 have E_lo:=D_lo.ok M (fun _ _ F=>ok_lo F T (P:=P) (w:=w)) fun _ _ _ _ _ _ us h=>el1 us h fun _=>rfl
 have E_haw:=D_haw.ok M (fun _ _ F=>ok_haw F T E_b E_ss E_lo) fun _ _ _ _ _ _ us h=>el1 us h fun _=>rfl
 have E_br:=D_br.ok M (fun _ _ F=>ok_br F T (P:=P) (w:=w)) fun _ _ _ _ _ _ us h=>el1 us h fun _=>rfl
 have E_wf:=D_wf.ok M (fun _ _ F=>ok_wf F T E_b) fun _ _ _ _ _ _ us h=>el3 us h fun _ _ _=>rfl
 have E_wr:=D_wr.ok M (fun _ _ F=>ok_wr F T E_haw E_br E_wf) fun _ _ _ _ _ _ us h=>el1 us h fun _=>rfl
 have E_fb:=D_fb.ok M (fun _ _ F=>ok_fb F T E_b) fun _ _ _ _ _ _ us h=>el3 us h fun _ _ _=>rfl
 have E_wr2:=D_wr2.ok M (fun _ _ F=>ok_wr2 F T E_haw E_wr E_fb) fun _ _ _ _ _ _ us h=>el1 us h fun _=>rfl
 have E_fa:=D_fa.ok M (fun _ _ F=>ok_fa F T E_ss) fun _ _ _ _ _ _ us h=>el1 us h fun _=>rfl
 have E_dr:=D_dr.ok M (fun _ _ F=>ok_dr F T E_we E_wn E_wr2 E_fa) fun _ _ _ _ _ _ us h=>el2 us h fun _ _=>rfl
 have E_ct:=D_ct.ok M (fun _ _ F=>ok_ct F T (P:=P) (w:=w)) fun _ _ _ _ _ _ us h=>el3 us h fun _ _ _=>rfl
 have E_hco:=D_hco.ok M (fun _ _ F=>ok_hco F T E_m E_br) fun _ _ _ _ _ _ us h=>el1 us h fun _=>rfl
 have E_id:=D_id.ok M (fun _ _ F=>ok_id F T E_m) fun _ _ _ _ _ _ us h=>el2 us h fun _ _=>rfl
 have E_do:=D_do.ok M (fun _ _ F=>ok_do F T E_hco E_id) fun _ _ _ _ _ _ us h=>el1 us h fun _=>rfl
 have E_ho:=D_ho.ok M (fun _ _ F=>ok_ho F T E_m) fun _ _ _ _ _ _ us h=>el2 us h fun _ _=>rfl
 have E_ho2:=D_ho2.ok M (fun _ _ F=>ok_ho2 F T E_ss E_ho) fun _ _ _ _ _ _ us h=>el1 us h fun _=>rfl
 have E_se:=D_se.ok M (fun _ _ F=>ok_se F T E_ss E_lo) fun _ _ _ _ _ _ us h=>el2 us h fun _ _=>rfl
 have E_ro:=D_ro.ok M (fun _ _ F=>ok_ro F T (P:=P) (w:=w)) fun _ _ _ _ _ _ us h=>el1 us h fun _=>rfl
 have E_fo2:=D_fo2.ok M (fun _ _ F=>ok_fo2 F T E_ss E_se E_lo E_ro E_o) fun _ _ _ _ _ _ us h=>el4 us h fun _ _ _ _=>rfl
 have E_fo3:=D_fo3.ok M (fun _ _ F=>ok_fo3 F T E_fo2) fun _ _ _ _ _ _ us h=>el2 us h fun _ _=>rfl
 have E_tol:=D_tol.ok M (fun _ _ F=>ok_tol F T E_lo) fun _ _ _ _ _ _ us h=>el1 us h fun _=>rfl
 have E_tor:=D_tor.ok M (fun _ _ F=>ok_tor F T E_ro) fun _ _ _ _ _ _ us h=>el1 us h fun _=>rfl
 have E_nf:=D_nf.ok M (fun _ _ F=>ok_nf F T E_tol E_tor E_ta) fun _ _ _ _ _ _ us h=>el4 us h fun _ _ _ _=>rfl
 have E_no:=D_no.ok M (fun _ _ F=>ok_no F T E_nf) fun _ _ _ _ _ _ us h=>el1 us h fun _=>rfl
 have E_fo:=D_fo.ok M (fun _ _ F=>ok_fo F T (P:=P) (w:=w)) fun _ _ _ _ _ _ us h=>el1 us h fun _=>rfl
 have b_init:Binds K fdI ["self","cells"] []:=F_init.binds fun _ _ _ _ _ _ us hl=>el2 us hl fun _ _=>rfl
 have E_i:bN P w K mg base CX0 7 fI fdI ["self","cells"] (sp_i K d):=ok_i F_init T E_do E_ho2 E_fo3 E_no E_fo;have E_pb:=D_pb.ok M (fun _ _ F=>ok_pb F T (P:=P) (w:=w)) fun _ _ _ _ _ _ us h=>el2 us h fun _ _=>rfl
 have E_dt:=D_dt.ok M (fun _ _ F=>ok_dt F T (P:=P) (w:=w)) fun _ _ _ _ _ _ us h=>el1 us h fun _=>rfl
 have E_nt:=D_nt.ok M (fun _ _ F=>ok_nt F T E_dt) fun _ _ _ _ _ _ us h=>el1 us h fun _=>rfl
 have E_ct2:=D_ct2.ok M (fun _ _ F=>ok_ct2 F T E_pb E_nt) fun _ _ _ _ _ _ us h=>el1 us h fun _=>rfl
 have E_wt:=D_wt.ok M (fun _ _ F=>ok_wt F T E_pb E_ct2) fun _ _ _ _ _ _ us h=>el1 us h fun _=>rfl
 have E_wt2:=D_wt2.ok M (fun _ _ F=>ok_wt2 F T E_pb E_wt) fun _ _ _ _ _ _ us h=>el1 us h fun _=>rfl
 have E_far:=D_far.ok M (fun _ _ F=>ok_far F T (P:=P) (w:=w)) fun _ _ _ _ _ _ us h=>el1 us h fun _=>rfl
 have E_cw:=D_cw.ok M (fun _ _ F=>ok_cw F T E_far) fun _ _ _ _ _ _ us h=>el1 us h fun _=>rfl
 have E_miap:=D_miap.ok M (fun _ _ F=>ok_miap F T E_b E_lo) fun _ _ _ _ _ _ us h=>el2 us h fun _ _=>rfl
 have E_ij:=D_ij.ok M (fun _ _ F=>ok_ij F T E_b) fun _ _ _ _ _ _ us h=>el1 us h fun _=>rfl
 have E_ih:=D_ih.ok M (fun _ _ F=>ok_ih F T E_miap E_ij) fun _ _ _ _ _ _ us h=>el1 us h fun _=>rfl
 have E_ht:=D_ht.ok M (fun _ _ F=>ok_ht F T E_wt2 E_cw E_wr E_ih) fun _ _ _ _ _ _ us h=>el1 us h fun _=>rfl
 have E_rt:=D_rt.ok M (fun _ _ F=>ok_rt F T E_ht ng E_i b_init) fun _ _ _ _ _ _ us h=>el1 us h fun _=>rfl
 have E_rwt:=D_rwt.ok M (fun _ _ F=>ok_rwt F T E_ct E_rt) fun _ _ _ _ _ _ us h=>el4 us h fun _ _ _ _=>rfl
 exact⟨E_dr,E_rwt⟩
abbrev rwL:W.OpenSpec:=PySem.Challenge.rw_rooftold_s04_drop
theorem O0:rwL.wellSaid=true:=by decide+kernel
theorem G2{args:List W.WData}(h:rwL.pre args=true):∃(i:Int)(j:Int)(s:Int)(nt:List Int),0<=i/\0<=j/\0<=s/\nt.length<=4096/\RM.inB nt/\args=[.int i,.int j,.int s,.list (nt.map W.WData.int)]/\
  ∀ds,rwL.claim.post args (.list ((RoofBNeutral.f [[4,i,j,s],nt]).map W.WData.int)) ds=true:=by
 obtain⟨a,h1,h2,rfl⟩:=(W.OpenSpec.pre_iff O0 args).mp h;clear h2 h;have key:∀a:Int×Int×Int×List Int×Unit,W.Codec.withinAll rwL.args a=true->∃(i:Int)(j:Int)(s:Int)(nt:List Int),0<=i/\0<=j/\0<=s/\nt.length<=4096/\RM.inB nt/\W.Codec.encAll rwL.args a=[.int i,.int j,.int s,.list (nt.map W.WData.int)]/\
   ∀ds,rwL.claim.post (W.Codec.encAll rwL.args a) (.list ((RoofBNeutral.f [[4,i,j,s],nt]).map W.WData.int)) ds=true:=by
  rintro⟨i,j,s,nt,u'⟩ h1;have w1:(W.Codec.inInt 0 4294967295 i&& (W.Codec.inInt 0 4294967295 j&& (W.Codec.inInt 0 4294967295 s&& ((W.Codec.inNat 0 4096 nt.length&& nt.all (W.Codec.inInt 0 255))&& true))))=true:=h1;simp only[dk,W.Codec.inInt_iff,W.Codec.inNat_iff,ij]at w1;exact⟨i,j,s,nt,w1.1.1,w1.2.1.1,w1.2.2.1.1,w1.2.2.2.1.1.2,fun x hx=>w1.2.2.2.1.2 x hx,rfl,fun ds=>(W.OpenSpec.post_iff O0 h1 _ ds).mpr rfl⟩
 exact key a h1
theorem E9{K:W.Frag}{w:World}{s1:Shared}{mg mb:Str->Option Value}{q:Program}{loose:List Str}{yu mn:ExcName->Option Value}{cl:Str->Option Addr}{fa f fA fI c tb:Addr}{fd fdA fdI:FuncData}{args:List W.WData}{my:List Value}{d:Adr}{dr:DefRec}
  (KX:K.In s1.heap) (T:PyProof.Rows.Top q loose yu mg mb s1.heap) (hg:s1.gens=#[]) (hmg:mg "drop" =some (.ref fa)) (zl:rwL.pre args=true) (ue:W.WellAll w.params s1.heap my args)
  (TX:∀{mb2:Str->Option Value}{base:Heap},Mod K mg base->W.TopRead q loose mg mb2 base->Txt K mg base d) (ng:Mk K d.Roof fI) (F_init:Fun K "__init__" "Roof.__init__" s_i fI fdI)
  (D_m:aG K "moved" s_m)
  (D_ss:aG K "side_start" s_ss)
  (D_fo4:aG K "foot_of" s_fo4)
  (D_b:aG K "beyond" s_b)
  (D_o:aG K "opposite" s_o)
  (D_ta:aG K "triangle_across" s_ta)
  (D_ha:aG K "half_across" s_ha)
  (D_we:aG K "water_end" s_we)
  (D_wn:aG K "wall_numbers" s_wn)
  (D_lo:aG K "left_of" s_lo)
  (D_haw:aG K "headings_along_walls" s_haw)
  (D_br:aG K "by_row" s_br)
  (D_wf:aG K "walk_from" s_wf)
  (D_wr:aG K "walks_round" s_wr)
  (D_fb:aG K "feet_between" s_fb)
  (D_wr2:aG K "walls_round" s_wr2)
  (D_fa:aG K "foot_at" s_fa)
  (D_dr:aG K "drop_row" s_dr)
  (D_ct:aG K "check_triangle" s_ct)
  (D_hco:aG K "half_cells_of" s_hco)
  (D_id:aG K "is_deeper" s_id)
  (D_do:aG K "depths_of" s_do)
  (D_ho:aG K "height_over" s_ho)
  (D_ho2:aG K "heights_of" s_ho2)
  (D_se:aG K "side_end" s_se)
  (D_ro:aG K "right_of" s_ro)
  (D_fo2:aG K "facing_of" s_fo2)
  (D_fo3:aG K "facings_of" s_fo3)
  (D_tol:aG K "triangle_on_left" s_tol)
  (D_tor:aG K "triangle_on_right" s_tor)
  (D_nf:aG K "number_face" s_nf)
  (D_no:aG K "numbers_of" s_no)
  (D_fo:aG K "faces_of" s_fo)
  (D_pb:aG K "parts_between" s_pb)
  (D_dt:aG K "digit_told" s_dt)
  (D_nt:aG K "number_told" s_nt)
  (D_ct2:aG K "corner_told" s_ct2)
  (D_wt:aG K "walk_told" s_wt)
  (D_wt2:aG K "walks_told" s_wt2)
  (D_far:aG K "feet_across_rows" s_far)
  (D_cw:aG K "cells_within" s_cw)
  (D_miap:aG K "meets_in_a_point" s_miap)
  (D_ij:aG K "is_joined" s_ij)
  (D_ih:aG K "is_house" s_ih)
  (D_ht:aG K "house_told" s_ht)
  (D_rt:aG K "roof_told" s_rt)
  (D_rwt:aG K "roof_with_triangle" s_rwt)
  (n_face:W.nsIn K mainGlobals "drop" =some (some (.ref f))) (F_face:Fun K "drop" "drop" s_f f fd) (Dc:fd.code=.ref c) (nh:W.tabIn K "drop" =some (c,tb)) (zf:(PyProof.Rows.recsOf q).find? (fun e=>e.name==("drop" : Str))=some dr) (Dl:K.lookup tb=none)
  (n_ans:W.nsIn K mainGlobals "answer_or_refusal" =some (some (.ref fA))) (F_ans:Fun K "answer_or_refusal" "answer_or_refusal" uZ fA fdA)
  (j0:W.nsIn K mainGlobals "NoHouse" =some (some (.ref d.cF))) (iL:∀{h:Heap},K.In h->gU h d.cF)
  (eM:W.nsIn K mainGlobals "OutOfBounds" =some (some (.ref d.bM))) (eB:∀{h:Heap},K.In h->gU h d.bM)
  (iZ:W.nsIn K mainGlobals "Outside" =some (some (.ref d.dZ))) (iK:∀{h:Heap},K.In h->gU h d.dZ)
  (kX:W.nsIn K mainGlobals "NoFace" =some (some (.ref d.iJ))) (jY:∀{h:Heap},K.In h->gU h d.iJ)
  (kW:W.nsIn K mainGlobals "NoSize" =some (some (.ref d.iI))) (jX:∀{h:Heap},K.In h->gU h d.iI)
  (ap:[d.cF,d.bM,d.dZ,d.iJ,d.iI].Nodup):
  wpAny (model rwL.prog w) callerA (call (.ref fa) my) (fun v s'=>W.GoodWG rwL.claim cl mn args s1 (.ok (.ret v)) s') (fun e s'=>W.GoodWG rwL.claim cl mn args s1 (.error e) s') s1:=by
 obtain⟨i,j,s,nt,zi,zj,zs,jz,hBt,rfl,Cg⟩:=G2 zl;have e:=hmg.symm.trans (W.mg_of KX T.g n_face);cases e;obtain⟨hC,ht⟩:=W.tab_of (x:= "drop") T KX zf nh;obtain⟨ti,tj,ts,rt,ut,rfl,hOt,hIt⟩:∃ti tj ts rt ut,my=[.int i ti,.int j tj,.int s ts,.ref rt]/\s1.heap.get? rt=some (IA ut)/\PyProof.Rows.IntsAre ut nt:=by
  cases ue with
  |cons hi ue=>
   cases ue with
   |cons hj ue=>
    cases ue with
    |cons hs ue=>
     cases ue with
     |cons ht ue=>
      cases ue;cases hi;cases hj;cases hs;cases ht with
      |list hot hwt=>exact⟨_,_,_,_,_,rfl,hot,uS hwt⟩
 refine wpAny_call (codeAny_mono (F2 (P:=rwL.prog) (w:=w) (K:=K) (k:=13) (tb:=tb) (fd:=fd) (ps:=["i","j","s","t"]) (sp:=sp_f K tb) (LA:=[(rt,ut,nt)]) (vs:=[.int i,.int j,.int s,.ref rt]) (R:=fun r=>r=RoofBNeutral.f [[4,i,j,s],nt])
  KX T.g T.b T.builtins T.nolimit hg ?_ ht (FW hC) Dl ⟨rfl,by decide,by decide⟩ (.cons ⟨ti,rfl⟩ (.cons ⟨tj,rfl⟩ (.cons ⟨ts,rfl⟩ (.cons rfl .nil)))) ?_ ?_ ?_) fun r s' h=>?_)
 ·intro p hp;rcases ak.mp hp with rfl|hp
  ·exact⟨hOt,hIt,dj jz (by decide)⟩
  exact(nomatch hp)
 ·intro base M kp;obtain⟨mb2,hb1,Ay⟩:=M.blt;have TR:W.TopRead q loose mg mb2 base:=⟨M.glob,hb1,M.nolimit,Ay,T.free⟩;have TX0:=TX M TR;have AN:Ans K mg base d fA fdA:=⟨F_ans,W.mg_of M.kin M.glob n_ans,F_ans.binds (fun _ _ _ _ _ _ us hl=>match us,hl with|[_],_=>rfl),W.mg_of M.kin M.glob j0,iL M.kin,W.mg_of M.kin M.glob eM,eB M.kin,W.mg_of M.kin M.glob iZ,iK M.kin,W.mg_of M.kin M.glob kX,jY M.kin,W.mg_of M.kin M.glob kW,jX M.kin,ap,L5 T ht kp⟩;obtain⟨E_dr,E_rwt⟩:=JE (P:=rwL.prog) (w:=w) M TX0 ng F_init D_m D_ss D_fo4 D_b D_o D_ta D_ha D_we D_wn D_lo D_haw D_br D_wf D_wr D_fb D_wr2 D_fa D_dr D_ct D_hco D_id D_do D_ho D_ho2 D_se D_ro D_fo2 D_fo3 D_tol D_tor D_nf D_no D_fo D_pb D_dt D_nt D_ct2 D_wt D_wt2 D_far D_cw D_miap D_ij D_ih D_ht D_rt D_rwt;exact ok_f F_face TX0 AN Dc (A6 hC kp) E_dr E_rwt
 ·exact F_face.binds (ps:=["i","j","s","t"]) (fun _ _ _ _ _ _ us hl=>match us,hl with|[_,_,_,_],_=>rfl) s1 _ KX rfl
 ·intro H hA hS;exact⟨i,j,s,rt,nt,rfl,hS (rt,ut,nt) (bh),jz,hBt,zi,zj,zs,hA,fun p H' hp=>⟨p,_,rfl,hp,rfl⟩⟩
 ·obtain⟨⟨p,its,n,ms,rfl,zu,pr,rfl⟩,h2,h3,h4⟩:=h;exact⟨.inl ⟨.ref p,.list ((RoofBNeutral.f [[4,i,j,s],nt]).map W.WData.int),_,rfl,fun _=>rfl,.list zu rfl rfl (by simpa using sQ pr),Cg _,fun z=>(nomatch z)⟩,h2,h3,h4⟩
structure Facts(K:W.Frag)(d:Adr)(fI:Addr)(fdI:FuncData):Prop where
 txt:∀{p:Program}{loose:List Str}{mg mb:Str->Option Value}{base:Heap},Mod K mg base->W.TopRead p loose mg mb base->Txt K mg base d
 mkR:Mk K d.Roof fI
 init:Fun K "__init__" "Roof.__init__" s_i fI fdI
 j0:W.nsIn K mainGlobals "NoHouse" =some (some (.ref d.cF))
 iL:∀{h:Heap},K.In h->gU h d.cF
 eM:W.nsIn K mainGlobals "OutOfBounds" =some (some (.ref d.bM))
 eB:∀{h:Heap},K.In h->gU h d.bM
 iZ:W.nsIn K mainGlobals "Outside" =some (some (.ref d.dZ))
 iK:∀{h:Heap},K.In h->gU h d.dZ
 kX:W.nsIn K mainGlobals "NoFace" =some (some (.ref d.iJ))
 jY:∀{h:Heap},K.In h->gU h d.iJ
 kW:W.nsIn K mainGlobals "NoSize" =some (some (.ref d.iI))
 jX:∀{h:Heap},K.In h->gU h d.iI
 ap:[d.cF,d.bM,d.dZ,d.iJ,d.iI].Nodup
theorem J0{K:W.Frag}{kq jw ko mq mm kl rALL_SIDES qu rSIDE_STARTS mv rHALVES_ABOUT rHALVES_AT_A_POINT fI:Addr}{tLINE_FEED sj sh tDIGIT_ZERO tDIGIT_NINE tGREATEST_NUMBER tMOST_DIGITS tFEWEST_CORNERS tCELLS_IN_A_ROW tMOST_CELLS tGREATEST_HALF tGREATEST_SIDE tAT_EAVE tAT_CORNER:Tok}
  {nm0 q0 nm1 q1 nm2 q2 nm3 q3 nm4 q4:Str}{N0 N1 N2 N3 N4:Addr}{bs0 sub0 bs1 sub1 bs2 sub2 bs3 sub3 bs4 sub4:List Value}{xx ab0 hd1 ab1 wx ab2 hd3 ab3 hd4 ab4:Bool}{sn0 sn1 sn2 sn3 sn4:List Str}{col0 col1 col2 col3 col4:Option Bool}{dd0 dd1 dd2 dd3 dd4:Option Addr}{u0 v0 w0 x0 y0 u1 v1 w1 x1 y1 u2 v2 w2 x2 y2 u3 v3 w3 x3 y3 u4 v4 w4 x4 y4:Option Value}{id0 id1 id2 id3 id4:String}
  {oc:Value}{od an:Option Addr}{mw:Array (Option Value)}{kV md pm jx ct:Value}
  (n_ALL_SIDES:W.nsIn K mainGlobals "ALL_SIDES" =some (some (.ref rALL_SIDES)))
  (c_ALL_SIDES:wR K rALL_SIDES=true)
  (n_STEPS:W.nsIn K mainGlobals "STEPS" =some (some (.ref qu)))
  (c_STEPS:tZ K qu [(0,-1),(1,0),(0,1),(-1,0)]=true)
  (n_SIDE_STARTS:W.nsIn K mainGlobals "SIDE_STARTS" =some (some (.ref rSIDE_STARTS)))
  (c_SIDE_STARTS:tZ K rSIDE_STARTS [(0,0),(1,0),(1,1),(0,1)]=true)
  (n_QUARTERS:W.nsIn K mainGlobals "QUARTERS" =some (some (.ref mv)))
  (c_QUARTERS:tZ K mv [(0,0),(1,0),(0,1),(1,1)]=true)
  (n_HALVES_ABOUT:W.nsIn K mainGlobals "HALVES_ABOUT" =some (some (.ref rHALVES_ABOUT)))
  (c_HALVES_ABOUT:tZ K rHALVES_ABOUT [(-1,-1),(0,-1),(1,-1),(-1,0),(1,0),(-1,1),(0,1),(1,1)]=true)
  (n_HALVES_AT_A_POINT:W.nsIn K mainGlobals "HALVES_AT_A_POINT" =some (some (.ref rHALVES_AT_A_POINT)))
  (c_HALVES_AT_A_POINT:tZ K rHALVES_AT_A_POINT [(-1,-1),(0,-1),(-1,0),(0,0)]=true)
  (n_LINE_FEED:W.nsIn K mainGlobals "LINE_FEED" =some (some (.int 10 tLINE_FEED)))
  (n_BLANK:W.nsIn K mainGlobals "BLANK" =some (some (.int 32 sj)))
  (n_COMMA:W.nsIn K mainGlobals "COMMA" =some (some (.int 44 sh)))
  (n_DIGIT_ZERO:W.nsIn K mainGlobals "DIGIT_ZERO" =some (some (.int 48 tDIGIT_ZERO)))
  (n_DIGIT_NINE:W.nsIn K mainGlobals "DIGIT_NINE" =some (some (.int 57 tDIGIT_NINE)))
  (n_GREATEST_NUMBER:W.nsIn K mainGlobals "GREATEST_NUMBER" =some (some (.int 64 tGREATEST_NUMBER)))
  (n_MOST_DIGITS:W.nsIn K mainGlobals "MOST_DIGITS" =some (some (.int 2 tMOST_DIGITS)))
  (n_FEWEST_CORNERS:W.nsIn K mainGlobals "FEWEST_CORNERS" =some (some (.int 4 tFEWEST_CORNERS)))
  (n_CELLS_IN_A_ROW:W.nsIn K mainGlobals "CELLS_IN_A_ROW" =some (some (.int 64 tCELLS_IN_A_ROW)))
  (n_MOST_CELLS:W.nsIn K mainGlobals "MOST_CELLS" =some (some (.int 256 tMOST_CELLS)))
  (z_len:W.nsIn K mainGlobals "len" =some none)
  (z_min:W.nsIn K mainGlobals "min" =some none)
  (z_max:W.nsIn K mainGlobals "max" =some none)
  (z_any:W.nsIn K mainGlobals "any" =some none)
  (z_list:W.nsIn K mainGlobals "list" =some none)
  (z_dict:W.nsIn K mainGlobals "dict" =some none)
  (z_sorted:W.nsIn K mainGlobals "sorted" =some none)
  (z_range:W.nsIn K mainGlobals "range" =some none)
  (z_enumerate:W.nsIn K mainGlobals "enumerate" =some none)
  (n_NoHouse:W.nsIn K mainGlobals "NoHouse" =some (some (.ref kq)))
  (e_NoHouse:W.excIn K kq bmE "Exception.__new__" =true)
  (n_Roof:W.nsIn K mainGlobals "Roof" =some (some (.ref kl)))
  (q_pg:W.plainGet K kl Str.empty=true)
  (q_hd:W.hasDictIn K kl=true)
  (q_po:W.plainOver K kl=true)
  (q_sa:W.findIn K (.ref kl) "__setattr__" =some (some (.builtin "object.__setattr__")))
  (f_cells:W.findIn K (.ref kl) "cells" =some none)
  (f_depths:W.findIn K (.ref kl) "depths" =some none)
  (f_heights:W.findIn K (.ref kl) "heights" =some none)
  (f_facings:W.findIn K (.ref kl) "facings" =some none)
  (f_numbers:W.findIn K (.ref kl) "numbers" =some none)
  (xM:W.findIn K (.ref kl) "faces" =some none)
  (n_GREATEST_HALF:W.nsIn K mainGlobals "GREATEST_HALF" =some (some (.int 127 tGREATEST_HALF)))
  (n_GREATEST_SIDE:W.nsIn K mainGlobals "GREATEST_SIDE" =some (some (.int 3 tGREATEST_SIDE)))
  (n_OutOfBounds:W.nsIn K mainGlobals "OutOfBounds" =some (some (.ref jw)))
  (e_OutOfBounds:W.excIn K jw bmE "Exception.__new__" =true)
  (n_Outside:W.nsIn K mainGlobals "Outside" =some (some (.ref ko)))
  (e_Outside:W.excIn K ko bmE "Exception.__new__" =true)
  (n_AT_EAVE:W.nsIn K mainGlobals "AT_EAVE" =some (some (.int 0 tAT_EAVE)))
  (n_AT_CORNER:W.nsIn K mainGlobals "AT_CORNER" =some (some (.int 1 tAT_CORNER)))
  (n_NoFace:W.nsIn K mainGlobals "NoFace" =some (some (.ref mq)))
  (n_NoSize:W.nsIn K mainGlobals "NoSize" =some (some (.ref mm)))
  (l_NoHouse:K.lookup kq=some (excClassObj nm0 q0 kq N0 bs0 bmE xx sn0 sub0 ab0 col0 dd0 u0 v0 w0 x0 y0 id0))
  (l_OutOfBounds:K.lookup jw=some (excClassObj nm1 q1 jw N1 bs1 bmE hd1 sn1 sub1 ab1 col1 dd1 u1 v1 w1 x1 y1 id1))
  (l_Outside:K.lookup ko=some (excClassObj nm2 q2 ko N2 bs2 bmE wx sn2 sub2 ab2 col2 dd2 u2 v2 w2 x2 y2 id2))
  (l_NoFace:K.lookup mq=some (excClassObj nm3 q3 mq N3 bs3 bmE hd3 sn3 sub3 ab3 col3 dd3 u3 v3 w3 x3 y3 id3))
  (l_NoSize:K.lookup mm=some (excClassObj nm4 q4 mm N4 bs4 bmE hd4 sn4 sub4 ab4 col4 dd4 u4 v4 w4 x4 y4 id4))
  (ap:[kq,jw,ko,mq,mm].Nodup)
  (m_mk:W.makesIn K kl=true)
  (m_in:W.findIn K (.ref kl) "__init__" =some (some (.ref fI)))
  (m_fn:W.isFn K (.ref fI)=true)
  (m_kp:W.keepIn K (.ref kl)=true)
  (i_l:K.lookup fI=some ⟨oc,od,.func (W.fnOf "__init__" "Roof.__init__" (hY s_i) (eZ s_i) (aH s_i) .none kV md pm an jx ct),mw⟩)
  (i_c:W.codeIn K jx "Roof.__init__" =true)
  (i_k:W.keepIn K (.ref fI)=true)
  : ∃d fI fdI,Facts K d fI fdI:=
 ⟨⟨kq,jw,ko,mq,mm,kl⟩,fI,_,⟨fun M TR=>⟨⟨rALL_SIDES,W.mg_of M.kin M.glob n_ALL_SIDES,fun H=>GN c_ALL_SIDES H⟩,⟨qu,W.mg_of M.kin M.glob n_STEPS,tY c_STEPS⟩,⟨rSIDE_STARTS,W.mg_of M.kin M.glob n_SIDE_STARTS,tY c_SIDE_STARTS⟩,⟨mv,W.mg_of M.kin M.glob n_QUARTERS,tY c_QUARTERS⟩,⟨rHALVES_ABOUT,W.mg_of M.kin M.glob n_HALVES_ABOUT,tY c_HALVES_ABOUT⟩,⟨rHALVES_AT_A_POINT,W.mg_of M.kin M.glob n_HALVES_AT_A_POINT,tY c_HALVES_AT_A_POINT⟩,⟨tLINE_FEED,W.mg_of M.kin M.glob n_LINE_FEED⟩,⟨sj,W.mg_of M.kin M.glob n_BLANK⟩,⟨sh,W.mg_of M.kin M.glob n_COMMA⟩,⟨tDIGIT_ZERO,W.mg_of M.kin M.glob n_DIGIT_ZERO⟩,⟨tDIGIT_NINE,W.mg_of M.kin M.glob n_DIGIT_NINE⟩,⟨tGREATEST_NUMBER,W.mg_of M.kin M.glob n_GREATEST_NUMBER⟩,⟨tMOST_DIGITS,W.mg_of M.kin M.glob n_MOST_DIGITS⟩,⟨tFEWEST_CORNERS,W.mg_of M.kin M.glob n_FEWEST_CORNERS⟩,⟨tCELLS_IN_A_ROW,W.mg_of M.kin M.glob n_CELLS_IN_A_ROW⟩,⟨tMOST_CELLS,W.mg_of M.kin M.glob n_MOST_CELLS⟩,W.mg_none_of M.kin M.glob z_len,W.mg_none_of M.kin M.glob z_min,W.mg_none_of M.kin M.glob z_max,W.mg_none_of M.kin M.glob z_any,W.mg_none_of M.kin M.glob z_list,W.mg_none_of M.kin M.glob z_dict,W.mg_none_of M.kin M.glob z_sorted,W.mg_none_of M.kin M.glob z_range,W.mg_none_of M.kin M.glob z_enumerate,W.own_of_in M.kin TR n_NoHouse e_NoHouse,W.mg_of M.kin M.glob n_Roof,⟨q_pg,q_hd,q_po,q_sa⟩,f_cells,f_depths,f_heights,f_facings,f_numbers,xM,⟨tGREATEST_HALF,W.mg_of M.kin M.glob n_GREATEST_HALF⟩,⟨tGREATEST_SIDE,W.mg_of M.kin M.glob n_GREATEST_SIDE⟩,W.own_of_in M.kin TR n_OutOfBounds e_OutOfBounds,W.own_of_in M.kin TR n_Outside e_Outside,⟨tAT_EAVE,W.mg_of M.kin M.glob n_AT_EAVE⟩,⟨tAT_CORNER,W.mg_of M.kin M.glob n_AT_CORNER⟩⟩,⟨m_mk,m_in,m_fn,m_kp⟩,BZ i_l i_c i_k,n_NoHouse,(fun X=>oJ X l_NoHouse),n_OutOfBounds,(fun X=>oJ X l_OutOfBounds),n_Outside,(fun X=>oJ X l_Outside),n_NoFace,(fun X=>oJ X l_NoFace),n_NoSize,(fun X=>oJ X l_NoSize),ap⟩⟩
theorem KQ{K:W.Frag}{f c tb:Addr}{oc oc2:Value}{od od2 an:Option Addr}{mw so:Array (Option Value)}{vs:Array Value}{kV md pm jx ct:Value}(a:W.nsIn K mainGlobals "drop" =some (some (.ref f)))
  (l:K.lookup f=some ⟨oc,od,.func (W.fnOf "drop" "drop" (hY s_f) (eZ s_f) (aH s_f) .none kV md pm an jx ct),mw⟩) (e:jx=.ref c) (h:W.codeIn K jx "drop" =true) (k:W.keepIn K (.ref f)=true)
  (l2:K.lookup c=some ⟨oc2,od2,.fields vs,so⟩) (hv:vs[11]? =some (.ref tb)) (kt:K.lookup tb=none):∃f fd c tb,W.nsIn K mainGlobals "drop" =some (some (.ref f))/\Fun K "drop" "drop" s_f f fd/\fd.code=.ref c/\W.tabIn K "drop" =some (c,tb)/\K.lookup tb=none:=
 ⟨f,_,c,tb,a,BZ l h k,e,LV a l e l2 hv,kt⟩
end RT
open PySem
set_option maxHeartbeats 0 in
theorem PySem.Challenge.cw_rooftold_s04_drop_holds : PySem.Challenge.rw_rooftold_s04_drop.Holds := by
 refine W.holds_os (q:=HP.vw) (loose:=[]) (Xt:=HP.xt) (XP:=W.XL HP.vw []) (Yf:=W.Hook.obs (W.kHook HP.hpK HP.as HP.hkE)) (Ya:=W.Hook.val (W.kHook HP.hpK HP.as HP.hkE)) (YP:=W.Hook.says (W.kHook HP.hpK HP.as HP.hkE)) (N:=6416) HP.left (W.Hook.of _) (W.Hook.keeps _) (fun s e=>W.xl_of s (Bool.and_eq_true_iff.mp e).1) W.XL.keeps (by rfl) (by rfl) (by rfl) (fun s e=>W.recFacts_of (Bool.and_eq_true_iff.mp e).2) W.os_shapes (by decide+kernel) (by decide+kernel) ⟨rfl,rfl,rfl,rfl,rfl,by decide+kernel⟩ ⟨[.int 0,.int 0,.int 0,.list []],by decide+kernel,by decide+kernel⟩ ?_;k_fillS;intro w s0 s1 mg mb G Y fa o pm cd md dV kV ho hd om hD hmg hg args my as zl hlay zg ue hlo;have KX:=W.kIn_of Y;have FX:∃d fI fdI,RT.Facts (L2.KOf KX) d fI fdI:=by
  dsimp only[L2.KOf];refine' RT.J0 ?n_ALL_SIDES ?c_ALL_SIDES ?n_STEPS ?c_STEPS ?n_SIDE_STARTS ?c_SIDE_STARTS ?n_QUARTERS ?c_QUARTERS ?n_HALVES_ABOUT ?c_HALVES_ABOUT ?n_HALVES_AT_A_POINT ?c_HALVES_AT_A_POINT ?n_LINE_FEED ?n_BLANK ?n_COMMA ?n_DIGIT_ZERO ?n_DIGIT_NINE ?n_GREATEST_NUMBER ?n_MOST_DIGITS ?n_FEWEST_CORNERS ?n_CELLS_IN_A_ROW ?n_MOST_CELLS ?z_len ?z_min ?z_max ?z_any ?z_list ?z_dict ?z_sorted ?z_range ?z_enumerate ?n_NoHouse ?e_NoHouse ?n_Roof ?q_pg ?q_hd ?q_po ?q_sa ?f_cells ?f_depths ?f_heights ?f_facings ?f_numbers ?xM ?n_GREATEST_HALF ?n_GREATEST_SIDE ?n_OutOfBounds ?e_OutOfBounds ?n_Outside ?e_Outside ?n_AT_EAVE ?n_AT_CORNER ?n_NoFace ?n_NoSize ?l_NoHouse ?l_OutOfBounds ?l_Outside ?l_NoFace ?l_NoSize ?ap ?m_mk ?m_in ?m_fn ?m_kp ?i_l ?i_c ?i_k;case n_ALL_SIDES|n_STEPS|n_SIDE_STARTS|n_QUARTERS|n_HALVES_ABOUT|n_HALVES_AT_A_POINT|n_LINE_FEED|n_BLANK|n_COMMA|n_DIGIT_ZERO|n_DIGIT_NINE|n_GREATEST_NUMBER|n_MOST_DIGITS|n_FEWEST_CORNERS|n_CELLS_IN_A_ROW|n_MOST_CELLS|z_len|z_min|z_max|z_any|z_list|z_dict|z_sorted|z_range|z_enumerate|n_NoHouse|n_Roof|q_pg|q_hd|q_po|q_sa|f_cells|f_depths|f_heights|f_facings|f_numbers|xM|n_GREATEST_HALF|n_GREATEST_SIDE|n_OutOfBounds|n_Outside|n_AT_EAVE|n_AT_CORNER|n_NoFace|n_NoSize|l_NoHouse|l_OutOfBounds|l_Outside|l_NoFace|l_NoSize|m_mk|m_in|m_fn|m_kp|i_l|i_c|i_k=>k_is
  case c_ALL_SIDES|c_STEPS|c_SIDE_STARTS|c_QUARTERS|c_HALVES_ABOUT|c_HALVES_AT_A_POINT=>kernel_rfl
  case e_NoHouse|e_OutOfBounds|e_Outside=>k_exc
  case ap=>decide
 have FF:∃f fd c tb,W.nsIn (L2.KOf KX) mainGlobals "drop" =some (some (.ref f))/\L2.Fun (L2.KOf KX) "drop" "drop" RT.s_f f fd/\fd.code=.ref c/\W.tabIn (L2.KOf KX) "drop" =some (c,tb)/\(L2.KOf KX).lookup tb=none:=by
  dsimp only[L2.KOf];refine' RT.KQ ?a ?l ?e ?h ?k ?l2 ?hv ?kt
  (case a=>k_is)
  (case l=>k_is)
  (case e=>rfl)
  (case h=>k_is)
  (case k=>k_is)
  (case l2=>k_is)
  (case hv=>rfl)
  (case kt=>kernel_rfl)
 have D_m:L3.aG (L2.KOf KX) "moved" RT.s_m:=RT.dI;have D_ss:L3.aG (L2.KOf KX) "side_start" RT.s_ss:=RT.dI;have D_fo4:L3.aG (L2.KOf KX) "foot_of" RT.s_fo4:=RT.dI;have D_b:L3.aG (L2.KOf KX) "beyond" RT.s_b:=RT.dI;have D_o:L3.aG (L2.KOf KX) "opposite" RT.s_o:=RT.dI;have D_ta:L3.aG (L2.KOf KX) "triangle_across" RT.s_ta:=RT.dI;have D_ha:L3.aG (L2.KOf KX) "half_across" RT.s_ha:=RT.dI;have D_we:L3.aG (L2.KOf KX) "water_end" RT.s_we:=RT.dI;have D_wn:L3.aG (L2.KOf KX) "wall_numbers" RT.s_wn:=RT.dI;have D_lo:L3.aG (L2.KOf KX) "left_of" RT.s_lo:=RT.dI;have D_haw:L3.aG (L2.KOf KX) "headings_along_walls" RT.s_haw:=RT.dI;have D_br:L3.aG (L2.KOf KX) "by_row" RT.s_br:=RT.dI;have D_wf:L3.aG (L2.KOf KX) "walk_from" RT.s_wf:=RT.dI;have D_wr:L3.aG (L2.KOf KX) "walks_round" RT.s_wr:=RT.dI;have D_fb:L3.aG (L2.KOf KX) "feet_between" RT.s_fb:=RT.dI;have D_wr2:L3.aG (L2.KOf KX) "walls_round" RT.s_wr2:=RT.dI;have D_fa:L3.aG (L2.KOf KX) "foot_at" RT.s_fa:=RT.dI;have D_dr:L3.aG (L2.KOf KX) "drop_row" RT.s_dr:=RT.dI;have D_ct:L3.aG (L2.KOf KX) "check_triangle" RT.s_ct:=RT.dI;have D_hco:L3.aG (L2.KOf KX) "half_cells_of" RT.s_hco:=RT.dI;have D_id:L3.aG (L2.KOf KX) "is_deeper" RT.s_id:=RT.dI;have D_do:L3.aG (L2.KOf KX) "depths_of" RT.s_do:=RT.dI;have D_ho:L3.aG (L2.KOf KX) "height_over" RT.s_ho:=RT.dI;have D_ho2:L3.aG (L2.KOf KX) "heights_of" RT.s_ho2:=RT.dI;have D_se:L3.aG (L2.KOf KX) "side_end" RT.s_se:=RT.dI;have D_ro:L3.aG (L2.KOf KX) "right_of" RT.s_ro:=RT.dI
 have D_fo2:L3.aG (L2.KOf KX) "facing_of" RT.s_fo2:=RT.dI;have D_fo3:L3.aG (L2.KOf KX) "facings_of" RT.s_fo3:=RT.dI;have D_tol:L3.aG (L2.KOf KX) "triangle_on_left" RT.s_tol:=RT.dI;have D_tor:L3.aG (L2.KOf KX) "triangle_on_right" RT.s_tor:=RT.dI;have D_nf:L3.aG (L2.KOf KX) "number_face" RT.s_nf:=RT.dI;have D_no:L3.aG (L2.KOf KX) "numbers_of" RT.s_no:=RT.dI;have D_fo:L3.aG (L2.KOf KX) "faces_of" RT.s_fo:=RT.dI;have D_pb:L3.aG (L2.KOf KX) "parts_between" RT.s_pb:=RT.dI;have D_dt:L3.aG (L2.KOf KX) "digit_told" RT.s_dt:=RT.dI;have D_nt:L3.aG (L2.KOf KX) "number_told" RT.s_nt:=RT.dI;have D_ct2:L3.aG (L2.KOf KX) "corner_told" RT.s_ct2:=RT.dI;have D_wt:L3.aG (L2.KOf KX) "walk_told" RT.s_wt:=RT.dI;have D_wt2:L3.aG (L2.KOf KX) "walks_told" RT.s_wt2:=RT.dI;have D_far:L3.aG (L2.KOf KX) "feet_across_rows" RT.s_far:=RT.dI;have D_cw:L3.aG (L2.KOf KX) "cells_within" RT.s_cw:=RT.dI;have D_miap:L3.aG (L2.KOf KX) "meets_in_a_point" RT.s_miap:=RT.dI;have D_ij:L3.aG (L2.KOf KX) "is_joined" RT.s_ij:=RT.dI;have D_ih:L3.aG (L2.KOf KX) "is_house" RT.s_ih:=RT.dI;have D_ht:L3.aG (L2.KOf KX) "house_told" RT.s_ht:=RT.dI;have D_rt:L3.aG (L2.KOf KX) "roof_told" RT.s_rt:=RT.dI;have D_rwt:L3.aG (L2.KOf KX) "roof_with_triangle" RT.s_rwt:=RT.dI;have D_answer_or_refusal:L3.aG (L2.KOf KX) "answer_or_refusal" RT.uZ:=RT.dI;obtain⟨d,fI,fdI,FX⟩:=FX;obtain⟨f,fd,c,tb,n_f,F_f,Dc,nh,Dl⟩:=FF;obtain⟨fA,fdA,n_ans,F_ans⟩:=D_answer_or_refusal.ex
 exact RT.E9 KX G.T hg hmg zl ue FX.txt FX.mkR FX.init D_m D_ss D_fo4 D_b D_o D_ta D_ha D_we D_wn D_lo D_haw D_br D_wf D_wr D_fb D_wr2 D_fa D_dr D_ct D_hco D_id D_do D_ho D_ho2 D_se D_ro D_fo2 D_fo3 D_tol D_tor D_nf D_no D_fo D_pb D_dt D_nt D_ct2 D_wt D_wt2 D_far D_cw D_miap D_ij D_ih D_ht D_rt D_rwt n_f F_f Dc nh rfl Dl n_ans F_ans FX.j0 FX.iL FX.eM FX.eB FX.iZ FX.iK FX.kX FX.jY FX.kW FX.jX FX.ap
