import PyProof.Rows.All
import Wide.All
import OpenK.AllK
import Wide.FinOn
import PyProof.EqAt
import PyProof.EqKinds
import PyProof.TupleCall
import KE.BitLaws
import RoofBuilt
import WqajbzNeutral
import KE.KSortTupG
import KE.KLam
import KE.OsGo
import Open.SpecLaws
import PySem.Challenge.RW_rooftold_s08_roof
set_option Elab.async false
set_option linter.all false
set_option genSizeOfSpec false
set_option maxRecDepth 100000
set_option maxHeartbeats 4000000
noncomputable section
namespace HP
open PySem PySem.W PyProof.Rows
noncomputable section
noncomputable def tp(i:Nat):Stmt:=PySem.Challenge.pw_rooftold_s08_roof.main.body.getD i (.Pass ⟨0,0,0,0⟩)
noncomputable def ic(s:Stmt)(j:Nat):Stmt:=match s with
 | .ClassDef _ _ _ body _ _ _ _ _ _ _=>body.getD j (.Pass ⟨0,0,0,0⟩)
 |_=>.Pass ⟨0,0,0,0⟩
noncomputable def dA(s:Stmt):Arguments:=match s with
 | .FunctionDef _ a _ _ _ _ _ _ _ _=>a
 |_=>{posonlyargs:=[],args:=[],vararg:=none,kwonlyargs:=[],kw_defaults:=[],kwarg:=none,defaults:=[]}
def dB(s:Stmt):List Stmt:=match s with
 | .FunctionDef _ _ b _ _ _ _ _ _ _=>b
 |_=>[]
noncomputable def dS(s:Stmt):Scope:=match s with
 | .FunctionDef _ _ _ _ _ _ sc _ _ _=>sc
 |_=>{kind:=.function,names:=[],isGenerator:=false,isCoroutine:=false}
abbrev fl:String:= "/claim/cut.py"
abbrev vs(s:String)(t:Tok):Value:=.str (Str.ofString s) t
abbrev vi(i:Int)(t:Tok):Value:=.int i t
abbrev vr(a:Addr):Value:=.ref a
noncomputable abbrev eN(P:Params)(s:String)(t:Tok)(v:Value):DictEntry:={hash:=PyData.keyHash P (Str.ofString s),key:=.str (Str.ofString s) t,val:=v}
abbrev oT(l:Array Value):Obj:={cls:=.type "tuple",data:=.seq l}
abbrev oK(l:Array Value):Obj:={cls:=.type "code",data:=.fields l}
noncomputable abbrev oC(n:String)(t:Nat)(l c g:Int)(r:Addr)(x:Int)(r1 r2 r3 r4:Addr)(u:Nat):Obj:=oK #[vs n t,vs n (t+1),vs fl (t+2),vi l 0,vi c 0,vi 0 0,vi 0 0,vi g 0,vr r,.bool true,vi x 0,vr r1,.none,vr r2,vr r3,vr r4,vi u 0,vi l 0,vs fl (u+1)]
noncomputable abbrev oF(n q:String)(s:Stmt)(m:String)(t:Tok)(c:Addr):Obj:={cls:=.type "function",data:=.func (fnOf (Str.ofString n) (Str.ofString q) (dA s) (dB s) (dS s) .none .none .none (vs m t) none (.ref c) .none)}
noncomputable abbrev oG(n q:String)(s:Stmt):Obj:={cls:=.none,data:=.func {name:=Str.ofString n,qualname:=Str.ofString q,params:=dA s,body:=.stmts (dB s),scope:=dS s,globals:=0,closure:=[],defaults:=.none,kwdefaults:=.none}}
noncomputable def o2(P:Params):Obj:={cls:=.none,data:=.dict #[eN P "type.__subclasses__.Exception.0" 292 (vi 91 0),eN P "type.__subclasses__.Exception.n" 293 (vi 5 0),eN P "type.__subclasses__.Exception.1" 312 (vi 104 0),eN P "type.__subclasses__.Exception.2" 332 (vi 117 0),eN P "type.__subclasses__.Exception.3" 352 (vi 130 0),eN P "type.__subclasses__.Exception.4" 372 (vi 143 0)] 6}
noncomputable def o3(P:Params):Obj:={cls:=.type "dict",data:=.dict #[eN P "__name__" 165 (vs "rooftold.desk" 845),eN P "__doc__" 166 .none,eN P "__package__" 167 .none,eN P "__loader__" 168 (.builtin "__main__.__loader__#opaque"),eN P "__spec__" 169 .none,eN P "__annotations__" 170 (vr 6),eN P "__builtins__" 171 (vr 4),eN P "__file__" 173 (vs "/claim/cut.py" 172),eN P "__cached__" 174 .none,eN P "ALL_SIDES" 193 (vr 15),eN P "STEPS" 204 (vr 20),eN P "SIDE_STARTS" 213 (vr 25),eN P "left_of" 220 (vr 32),eN P "opposite" 227 (vr 39),eN P "right_of" 234 (vr 46),eN P "moved" 242 (vr 53),eN P "beyond" 250 (vr 60),eN P "side_start" 258 (vr 67),eN P "side_end" 266 (vr 74),eN P "by_row" 273 (vr 81),eN P "NoHouse" 295 (vr 91),eN P "OutOfBounds" 315 (vr 104),eN P "Outside" 335 (vr 117),eN P "NoFace" 355 (vr 130),eN P "NoSize" 375 (vr 143),eN P "answer_or_refusal" 382 (vr 153),eN P "LINE_FEED" 386 (vi 10 385),eN P "BLANK" 388 (vi 32 387),eN P "COMMA" 390 (vi 44 389),eN P "DIGIT_ZERO" 392 (vi 48 391),eN P "DIGIT_NINE" 394 (vi 57 393),eN P "GREATEST_NUMBER" 396 (vi 64 395),eN P "MOST_DIGITS" 398 (vi 2 397),eN P "FEWEST_CORNERS" 400 (vi 4 399),eN P "parts_between" 411 (vr 160),eN P "digit_told" 418 (vr 167),eN P "number_told" 427 (vr 174),eN P "corner_told" 433 (vr 179),eN P "walk_told" 439 (vr 184),eN P "walks_told" 445 (vr 189),eN P "CELLS_IN_A_ROW" 449 (vi 64 448),eN P "MOST_CELLS" 451 (vi 256 450),eN P "feet_across_rows" 464 (vr 196),eN P "cells_within" 476 (vr 203),eN P "is_joined" 487 (vr 210),eN P "meets_in_a_point" 498 (vr 217),eN P "is_house" 504 (vr 222),eN P "headings_along_walls" 514 (vr 229),eN P "walk_from" 527 (vr 236),eN P "walks_round" 538 (vr 243),eN P "house_told" 547 (vr 250),eN P "QUARTERS" 558 (vr 255),eN P "HALVES_ABOUT" 581 (vr 264),eN P "HALVES_AT_A_POINT" 594 (vr 269),eN P "half_cells_of" 604 (vr 276),eN P "is_deeper" 613 (vr 283),eN P "depths_of" 619 (vr 288),eN P "height_over" 625 (vr 293),eN P "heights_of" 636 (vr 300),eN P "Roof" 672 (vr 317),eN P "facing_of" 684 (vr 328),eN P "facings_of" 696 (vr 335),eN P "triangle_across" 707 (vr 342),eN P "triangle_on_left" 717 (vr 349),eN P "triangle_on_right" 727 (vr 356),eN P "number_face" 740 (vr 363),eN P "numbers_of" 750 (vr 370),eN P "faces_of" 760 (vr 377),eN P "GREATEST_MEASURE" 764 (vi 64 763),eN P "is_size" 772 (vr 384),eN P "runs_eastward" 779 (vr 391),eN P "places_on" 794 (vr 398),eN P "tiles_over" 809 (vr 405),eN P "whole_and_cut" 820 (vr 412),eN P "course_count" 826 (vr 417),eN P "places_by_face" 832 (vr 422),eN P "whole_and_cut_together" 838 (vr 427),eN P "roof_row" 844 (vr 432),eN P "check_size" 854 (vr 439),eN P "roof_told" 861 (vr 446),eN P "roof_to_tile" 870 (vr 453),eN P "roof" 882 (vr 460)] 82}
def o11:Obj:=oT #[]
noncomputable def o12:Obj:={cls:=.none,data:=.fields #[(vi 5 0),(vi 0 0),(vr 31),(vi 7 0),(vi 0 0),(vr 38),(vi 9 0),(vi 0 0),(vr 45),(vi 11 0),(vi 0 0),(vr 52),(vi 13 0),(vi 0 0),(vr 59),(vi 15 0),(vi 0 0),(vr 66),(vi 17 0),(vi 0 0),(vr 73),(vi 19 0),(vi 0 0),(vr 80),(vi 22 0),(vi 0 0),(vr 87),(vi 24 0),(vi 0 0),(vr 100),(vi 26 0),(vi 0 0),(vr 113),(vi 28 0),(vi 0 0),(vr 126),(vi 30 0),(vi 0 0),(vr 139),(vi 32 0),(vi 0 0),(vr 152),(vi 54 0),(vi 0 0),(vr 159),(vi 65 0),(vi 0 0),(vr 166),(vi 69 0),(vi 0 0),(vr 173),(vi 80 0),(vi 0 0),(vr 178),(vi 85 0),(vi 0 0),(vr 183),(vi 90 0),(vi 0 0),(vr 188),(vi 99 0),(vi 0 0),(vr 195),(vi 108 0),(vi 0 0),(vr 202),(vi 119 0),(vi 0 0),(vr 209),(vi 129 0),(vi 0 0),(vr 216),(vi 136 0),(vi 0 0),(vr 221),(vi 142 0),(vi 0 0),(vr 228),(vi 149 0),(vi 0 0),(vr 235),(vi 161 0),(vi 0 0),(vr 242),(vi 169 0),(vi 0 0),(vr 249),(vi 179 0),(vi 0 0),(vr 275),(vi 185 0),(vi 0 0),(vr 282),(vi 190 0),(vi 0 0),(vr 287),(vi 201 0),(vi 0 0),(vr 292),(vi 203 0),(vi 0 0),(vr 299),(vi 212 0),(vi 0 0),(vr 306),(vi 221 0),(vi 0 0),(vr 327),(vi 231 0),(vi 0 0),(vr 334),(vi 237 0),(vi 0 0),(vr 341),(vi 241 0),(vi 0 0),(vr 348),(vi 244 0),(vi 0 0),(vr 355),(vi 247 0),(vi 0 0),(vr 362),(vi 257 0),(vi 0 0),(vr 369),(vi 265 0),(vi 0 0),(vr 376),(vi 274 0),(vi 0 0),(vr 383),(vi 276 0),(vi 0 0),(vr 390),(vi 278 0),(vi 0 0),(vr 397),(vi 286 0),(vi 0 0),(vr 404),(vi 294 0),(vi 0 0),(vr 411),(vi 298 0),(vi 0 0),(vr 416),(vi 300 0),(vi 0 0),(vr 421),(vi 302 0),(vi 0 0),(vr 426),(vi 305 0),(vi 0 0),(vr 431),(vi 309 0),(vi 0 0),(vr 438),(vi 312 0),(vi 0 0),(vr 445),(vi 314 0),(vi 0 0),(vr 452),(vi 317 0),(vi 0 0),(vr 459)]}
noncomputable def o13:Obj:=oK #[(vs "<module>" 182),(vs "<module>" 183),(vs fl 184),(vi 1 0),(vi 0 0),(vi 0 0),(vi 0 0),(vi 0 0),(vr 11),.bool false,(vi 181 0),(vr 12),.none,.none,.none,.none,(vi 185 0),(vi 1 0),(vs fl 186)]
noncomputable def o14:Obj:={cls:=.type "frame",slots:=#[some ((vr 13)),some ((vr 3)),some ((vr 3)),none,some ((vs "__main__" 164)),none,some ((vr 0))]}
def o15:Obj:=oT #[(vi 0 189),(vi 1 190),(vi 2 191),(vi 3 192)]
def o16:Obj:=oT #[(vi 0 194),(vi (-1) 196)]
def o17:Obj:=oT #[(vi 1 197),(vi 0 198)]
def o18:Obj:=oT #[(vi 0 199),(vi 1 200)]
def o19:Obj:=oT #[(vi (-1) 202),(vi 0 203)]
def o20:Obj:=oT #[(vr 16),(vr 17),(vr 18),(vr 19)]
def o21:Obj:=oT #[(vi 0 205),(vi 0 206)]
def o22:Obj:=oT #[(vi 1 207),(vi 0 208)]
def o23:Obj:=oT #[(vi 1 209),(vi 1 210)]
def o24:Obj:=oT #[(vi 0 211),(vi 1 212)]
def o25:Obj:=oT #[(vr 21),(vr 22),(vr 23),(vr 24)]
def o27:Obj:={cls:=.none,data:=.fields #[]}
def o28:Obj:=oT #[(vs "direction" 217)]
def o30:Obj:=oG "left_of" "left_of" (tp 4)
def o31:Obj:=oC "left_of" 214 5 1 3 26 181 27 28 29 30 218
def o32:Obj:=oF "left_of" "left_of" (tp 4) "rooftold.compass" 187 31
def o35:Obj:=oT #[(vs "direction" 224)]
def o37:Obj:=oG "opposite" "opposite" (tp 5)
def o38:Obj:=oC "opposite" 221 7 1 3 33 181 34 35 36 37 225
def o39:Obj:=oF "opposite" "opposite" (tp 5) "rooftold.compass" 187 38
def o42:Obj:=oT #[(vs "direction" 231)]
def o44:Obj:=oG "right_of" "right_of" (tp 6)
def o45:Obj:=oC "right_of" 228 9 1 3 40 181 41 42 43 44 232
def o46:Obj:=oF "right_of" "right_of" (tp 6) "rooftold.compass" 187 45
def o49:Obj:=oT #[(vs "place" 238),(vs "step" 239)]
def o51:Obj:=oG "moved" "moved" (tp 7)
def o52:Obj:=oC "moved" 235 11 2 3 47 181 48 49 50 51 240
def o53:Obj:=oF "moved" "moved" (tp 7) "rooftold.compass" 187 52
def o56:Obj:=oT #[(vs "place" 246),(vs "direction" 247)]
def o58:Obj:=oG "beyond" "beyond" (tp 8)
def o59:Obj:=oC "beyond" 243 13 2 3 54 181 55 56 57 58 248
def o60:Obj:=oF "beyond" "beyond" (tp 8) "rooftold.compass" 187 59
def o63:Obj:=oT #[(vs "square" 254),(vs "side" 255)]
def o65:Obj:=oG "side_start" "side_start" (tp 9)
def o66:Obj:=oC "side_start" 251 15 2 3 61 181 62 63 64 65 256
def o67:Obj:=oF "side_start" "side_start" (tp 9) "rooftold.compass" 187 66
def o70:Obj:=oT #[(vs "square" 262),(vs "side" 263)]
def o72:Obj:=oG "side_end" "side_end" (tp 10)
def o73:Obj:=oC "side_end" 259 17 2 3 68 181 69 70 71 72 264
def o74:Obj:=oF "side_end" "side_end" (tp 10) "rooftold.compass" 187 73
def o77:Obj:=oT #[(vs "place" 270)]
def o79:Obj:=oG "by_row" "by_row" (tp 11)
def o80:Obj:=oC "by_row" 267 19 1 3 75 181 76 77 78 79 271
def o81:Obj:=oF "by_row" "by_row" (tp 11) "rooftold.compass" 187 80
def o82:Obj:=oT #[.type "Exception"]
noncomputable def o83:Obj:={cls:=.type "builtin_function_or_method",data:=.fields #[.builtin "type.__prepare__",.type "type"]}
noncomputable def o84(P:Params):Obj:={cls:=.type "dict",data:=.dict #[eN P "__module__" 283 (vs "rooftold.refusals" 274),eN P "__qualname__" 285 (vs "NoHouse" 284),eN P "__firstlineno__" 287 (vi 22 286),eN P "__static_attributes__" 288 (vr 89)] 4}
noncomputable def o87:Obj:=oK #[(vs "NoHouse" 278),(vs "NoHouse" 279),(vs fl 280),(vi 22 0),(vi 0 0),(vi 0 0),(vi 0 0),(vi 0 0),(vr 85),.bool false,(vi 181 0),(vr 86),.none,.none,.none,.none,(vi 281 0),(vi 22 0),(vs fl 282)]
noncomputable def o88:Obj:={cls:=.type "frame",slots:=#[some ((vr 87)),some ((vr 3)),some ((vr 84)),none,some ((vs "rooftold.refusals" 274)),none,some ((vr 0))]}
noncomputable def o90(P:Params):Obj:={cls:=.type "dict",data:=.dict #[eN P "__module__" 283 (vs "rooftold.refusals" 274),eN P "__firstlineno__" 287 (vi 22 286),eN P "__static_attributes__" 288 (vr 89),eN P "__weakref__" 290 (vr 92),eN P "__doc__" 291 .none] 3}
noncomputable def o91:Obj:={cls:=.type "type",data:=.cls {name:=Str.ofString "NoHouse",bases:=[.type "Exception"],mro:=[(vr 91),.type "Exception",.type "BaseException",.type "object"],ns:=90,qualname:=Str.ofString "NoHouse" },slots:=#[some ((vr 82)),none,some ((vs "NoHouse" 276)),some ((vs "NoHouse" 284)),some (.builtin "Exception.__new__"),some (.bool true)]}
noncomputable def o92:Obj:={cls:=.type "getset_descriptor",data:=.fields #[(vs "__weakref__" 289),(vr 91),.builtin "ExceptionGroup.__weakref__",.none]}
def o93:Obj:={cls:=.type "super",data:=.fields #[(vr 91),(vr 91),(vr 91)]}
noncomputable def o94:Obj:={cls:=.type "builtin_function_or_method",data:=.fields #[.builtin "object.__init_subclass__",(vr 91)]}
noncomputable def o97(P:Params):Obj:={cls:=.type "dict",data:=.dict #[eN P "__module__" 303 (vs "rooftold.refusals" 274),eN P "__qualname__" 305 (vs "OutOfBounds" 304),eN P "__firstlineno__" 307 (vi 24 306),eN P "__static_attributes__" 308 (vr 102)] 4}
noncomputable def VU:Obj:=oK #[(vs "OutOfBounds" 298),(vs "OutOfBounds" 299),(vs fl 300),(vi 24 0),(vi 0 0),(vi 0 0),(vi 0 0),(vi 0 0),(vr 98),.bool false,(vi 181 0),(vr 99),.none,.none,.none,.none,(vi 301 0),(vi 24 0),(vs fl 302)]
noncomputable def VT:Obj:={cls:=.type "frame",slots:=#[some ((vr 100)),some ((vr 3)),some ((vr 97)),none,some ((vs "rooftold.refusals" 274)),none,some ((vr 0))]}
noncomputable def QS(P:Params):Obj:={cls:=.type "dict",data:=.dict #[eN P "__module__" 303 (vs "rooftold.refusals" 274),eN P "__firstlineno__" 307 (vi 24 306),eN P "__static_attributes__" 308 (vr 102),eN P "__weakref__" 310 (vr 105),eN P "__doc__" 311 .none] 3}
noncomputable def QR:Obj:={cls:=.type "type",data:=.cls {name:=Str.ofString "OutOfBounds",bases:=[.type "Exception"],mro:=[(vr 104),.type "Exception",.type "BaseException",.type "object"],ns:=103,qualname:=Str.ofString "OutOfBounds" },slots:=#[some ((vr 95)),none,some ((vs "OutOfBounds" 296)),some ((vs "OutOfBounds" 304)),some (.builtin "Exception.__new__"),some (.bool true)]}
noncomputable def QQ:Obj:={cls:=.type "getset_descriptor",data:=.fields #[(vs "__weakref__" 309),(vr 104),.builtin "ExceptionGroup.__weakref__",.none]}
def VS:Obj:={cls:=.type "super",data:=.fields #[(vr 104),(vr 104),(vr 104)]}
noncomputable def VR:Obj:={cls:=.type "builtin_function_or_method",data:=.fields #[.builtin "object.__init_subclass__",(vr 104)]}
noncomputable def VQ(P:Params):Obj:={cls:=.type "dict",data:=.dict #[eN P "__module__" 323 (vs "rooftold.refusals" 274),eN P "__qualname__" 325 (vs "Outside" 324),eN P "__firstlineno__" 327 (vi 26 326),eN P "__static_attributes__" 328 (vr 115)] 4}
noncomputable def VP:Obj:=oK #[(vs "Outside" 318),(vs "Outside" 319),(vs fl 320),(vi 26 0),(vi 0 0),(vi 0 0),(vi 0 0),(vi 0 0),(vr 111),.bool false,(vi 181 0),(vr 112),.none,.none,.none,.none,(vi 321 0),(vi 26 0),(vs fl 322)]
noncomputable def VO:Obj:={cls:=.type "frame",slots:=#[some ((vr 113)),some ((vr 3)),some ((vr 110)),none,some ((vs "rooftold.refusals" 274)),none,some ((vr 0))]}
noncomputable def QP(P:Params):Obj:={cls:=.type "dict",data:=.dict #[eN P "__module__" 323 (vs "rooftold.refusals" 274),eN P "__firstlineno__" 327 (vi 26 326),eN P "__static_attributes__" 328 (vr 115),eN P "__weakref__" 330 (vr 118),eN P "__doc__" 331 .none] 3}
noncomputable def QO:Obj:={cls:=.type "type",data:=.cls {name:=Str.ofString "Outside",bases:=[.type "Exception"],mro:=[(vr 117),.type "Exception",.type "BaseException",.type "object"],ns:=116,qualname:=Str.ofString "Outside" },slots:=#[some ((vr 108)),none,some ((vs "Outside" 316)),some ((vs "Outside" 324)),some (.builtin "Exception.__new__"),some (.bool true)]}
noncomputable def QN:Obj:={cls:=.type "getset_descriptor",data:=.fields #[(vs "__weakref__" 329),(vr 117),.builtin "ExceptionGroup.__weakref__",.none]}
def VN:Obj:={cls:=.type "super",data:=.fields #[(vr 117),(vr 117),(vr 117)]}
noncomputable def VM:Obj:={cls:=.type "builtin_function_or_method",data:=.fields #[.builtin "object.__init_subclass__",(vr 117)]}
noncomputable def VL(P:Params):Obj:={cls:=.type "dict",data:=.dict #[eN P "__module__" 343 (vs "rooftold.refusals" 274),eN P "__qualname__" 345 (vs "NoFace" 344),eN P "__firstlineno__" 347 (vi 28 346),eN P "__static_attributes__" 348 (vr 128)] 4}
noncomputable def VJ:Obj:=oK #[(vs "NoFace" 338),(vs "NoFace" 339),(vs fl 340),(vi 28 0),(vi 0 0),(vi 0 0),(vi 0 0),(vi 0 0),(vr 124),.bool false,(vi 181 0),(vr 125),.none,.none,.none,.none,(vi 341 0),(vi 28 0),(vs fl 342)]
noncomputable def VI:Obj:={cls:=.type "frame",slots:=#[some ((vr 126)),some ((vr 3)),some ((vr 123)),none,some ((vs "rooftold.refusals" 274)),none,some ((vr 0))]}
noncomputable def QM(P:Params):Obj:={cls:=.type "dict",data:=.dict #[eN P "__module__" 343 (vs "rooftold.refusals" 274),eN P "__firstlineno__" 347 (vi 28 346),eN P "__static_attributes__" 348 (vr 128),eN P "__weakref__" 350 (vr 131),eN P "__doc__" 351 .none] 3}
noncomputable def QL:Obj:={cls:=.type "type",data:=.cls {name:=Str.ofString "NoFace",bases:=[.type "Exception"],mro:=[(vr 130),.type "Exception",.type "BaseException",.type "object"],ns:=129,qualname:=Str.ofString "NoFace" },slots:=#[some ((vr 121)),none,some ((vs "NoFace" 336)),some ((vs "NoFace" 344)),some (.builtin "Exception.__new__"),some (.bool true)]}
noncomputable def QK:Obj:={cls:=.type "getset_descriptor",data:=.fields #[(vs "__weakref__" 349),(vr 130),.builtin "ExceptionGroup.__weakref__",.none]}
def VH:Obj:={cls:=.type "super",data:=.fields #[(vr 130),(vr 130),(vr 130)]}
noncomputable def VG:Obj:={cls:=.type "builtin_function_or_method",data:=.fields #[.builtin "object.__init_subclass__",(vr 130)]}
noncomputable def VF(P:Params):Obj:={cls:=.type "dict",data:=.dict #[eN P "__module__" 363 (vs "rooftold.refusals" 274),eN P "__qualname__" 365 (vs "NoSize" 364),eN P "__firstlineno__" 367 (vi 30 366),eN P "__static_attributes__" 368 (vr 141)] 4}
noncomputable def VE:Obj:=oK #[(vs "NoSize" 358),(vs "NoSize" 359),(vs fl 360),(vi 30 0),(vi 0 0),(vi 0 0),(vi 0 0),(vi 0 0),(vr 137),.bool false,(vi 181 0),(vr 138),.none,.none,.none,.none,(vi 361 0),(vi 30 0),(vs fl 362)]
noncomputable def VD:Obj:={cls:=.type "frame",slots:=#[some ((vr 139)),some ((vr 3)),some ((vr 136)),none,some ((vs "rooftold.refusals" 274)),none,some ((vr 0))]}
noncomputable def QJ(P:Params):Obj:={cls:=.type "dict",data:=.dict #[eN P "__module__" 363 (vs "rooftold.refusals" 274),eN P "__firstlineno__" 367 (vi 30 366),eN P "__static_attributes__" 368 (vr 141),eN P "__weakref__" 370 (vr 144),eN P "__doc__" 371 .none] 3}
noncomputable def QI:Obj:={cls:=.type "type",data:=.cls {name:=Str.ofString "NoSize",bases:=[.type "Exception"],mro:=[(vr 143),.type "Exception",.type "BaseException",.type "object"],ns:=142,qualname:=Str.ofString "NoSize" },slots:=#[some ((vr 134)),none,some ((vs "NoSize" 356)),some ((vs "NoSize" 364)),some (.builtin "Exception.__new__"),some (.bool true)]}
noncomputable def QH:Obj:={cls:=.type "getset_descriptor",data:=.fields #[(vs "__weakref__" 369),(vr 143),.builtin "ExceptionGroup.__weakref__",.none]}
def VC:Obj:={cls:=.type "super",data:=.fields #[(vr 143),(vr 143),(vr 143)]}
noncomputable def VB:Obj:={cls:=.type "builtin_function_or_method",data:=.fields #[.builtin "object.__init_subclass__",(vr 143)]}
def VA:Obj:=oT #[(vs "tell" 379)]
def V9:Obj:=oG "answer_or_refusal" "answer_or_refusal" (tp 18)
def QG:Obj:=oC "answer_or_refusal" 376 32 1 3 147 181 148 149 150 151 380
def QF:Obj:=oF "answer_or_refusal" "answer_or_refusal" (tp 18) "rooftold.refusals" 274 152
noncomputable def V8:Obj:=oT #[(vs "row" 404),(vs "mark" 405),(vs "parts" 406),(vs "part" 407),(vs "value" 408)]
def V7:Obj:=oG "parts_between" "parts_between" (tp 28)
def QE:Obj:=oC "parts_between" 401 54 2 3 154 181 155 156 157 158 409
def QD:Obj:=oF "parts_between" "parts_between" (tp 28) "rooftold.texts" 383 159
def V6:Obj:=oT #[(vs "value" 415)]
def V5:Obj:=oG "digit_told" "digit_told" (tp 29)
def QC:Obj:=oC "digit_told" 412 65 1 3 161 181 162 163 164 165 416
def QB:Obj:=oF "digit_told" "digit_told" (tp 29) "rooftold.texts" 383 166
def V4:Obj:=oT #[(vs "row" 422),(vs "number" 423),(vs "value" 424)]
def V3:Obj:=oG "number_told" "number_told" (tp 30)
def QA:Obj:=oC "number_told" 419 69 1 3 168 181 169 170 171 172 425
def Q9:Obj:=oF "number_told" "number_told" (tp 30) "rooftold.texts" 383 173
def V2:Obj:=oG "corner_told" "corner_told" (tp 31)
noncomputable def Q8:Obj:=oK #[(vs "corner_told" 428),(vs "corner_told" 429),(vs fl 430),(vi 80 0),(vi 1 0),(vi 0 0),(vi 0 0),(vi 3 0),(vr 175),.bool true,(vi 181 0),(vr 176),.none,.none,.none,(vr 177),(vi 431 0),(vi 80 0),(vs fl 432)]
def Q7:Obj:=oF "corner_told" "corner_told" (tp 31) "rooftold.texts" 383 178
def V1:Obj:=oG "walk_told" "walk_told" (tp 32)
noncomputable def Q6:Obj:=oK #[(vs "walk_told" 434),(vs "walk_told" 435),(vs fl 436),(vi 85 0),(vi 1 0),(vi 0 0),(vi 0 0),(vi 3 0),(vr 180),.bool true,(vi 181 0),(vr 181),.none,.none,.none,(vr 182),(vi 437 0),(vi 85 0),(vs fl 438)]
def Q5:Obj:=oF "walk_told" "walk_told" (tp 32) "rooftold.texts" 383 183
def V0:Obj:=oG "walks_told" "walks_told" (tp 33)
noncomputable def Q4:Obj:=oK #[(vs "walks_told" 440),(vs "walks_told" 441),(vs fl 442),(vi 90 0),(vi 1 0),(vi 0 0),(vi 0 0),(vi 3 0),(vr 185),.bool true,(vi 181 0),(vr 186),.none,.none,.none,(vr 187),(vi 443 0),(vi 90 0),(vs fl 444)]
def Q3:Obj:=oF "walks_told" "walks_told" (tp 33) "rooftold.texts" 383 188
noncomputable def UZ:Obj:=oT #[(vs "walks" 455),(vs "feet" 456),(vs "walk" 457),(vs "number" 458),(vs "corner" 459),(vs "before" 460),(vs "y" 461)]
def UY:Obj:=oG "feet_across_rows" "feet_across_rows" (tp 37)
def Q2:Obj:=oC "feet_across_rows" 452 99 1 3 190 181 191 192 193 194 462
def Q1:Obj:=oF "feet_across_rows" "feet_across_rows" (tp 37) "rooftold.plans" 446 195
noncomputable def UX:Obj:=oT #[(vs "walks" 468),(vs "feet" 469),(vs "cells" 470),(vs "y" 471),(vs "inside" 472),(vs "x" 473)]
def UW:Obj:=oG "cells_within" "cells_within" (tp 38)
def Q0:Obj:=oC "cells_within" 465 108 1 3 197 181 198 199 200 201 474
def PZ:Obj:=oF "cells_within" "cells_within" (tp 38) "rooftold.plans" 446 202
noncomputable def UU:Obj:=oT #[(vs "cells" 480),(vs "waiting" 481),(vs "reached" 482),(vs "cell" 483),(vs "side" 484)]
def UT:Obj:=oG "is_joined" "is_joined" (tp 39)
def PY:Obj:=oC "is_joined" 477 119 1 3 204 181 205 206 207 208 485
def PX:Obj:=oF "is_joined" "is_joined" (tp 39) "rooftold.plans" 446 209
noncomputable def US:Obj:=oT #[(vs "cell" 491),(vs "cells" 492),(vs "side" 493),(vs "near" 494),(vs "far" 495)]
def UR:Obj:=oG "meets_in_a_point" "meets_in_a_point" (tp 40)
def PV:Obj:=oC "meets_in_a_point" 488 129 2 3 211 181 212 213 214 215 496
def PU:Obj:=oF "meets_in_a_point" "meets_in_a_point" (tp 40) "rooftold.plans" 446 216
def UQ:Obj:=oG "is_house" "is_house" (tp 41)
noncomputable def PR:Obj:=oK #[(vs "is_house" 499),(vs "is_house" 500),(vs fl 501),(vi 136 0),(vi 1 0),(vi 0 0),(vi 0 0),(vi 3 0),(vr 218),.bool true,(vi 181 0),(vr 219),.none,.none,.none,(vr 220),(vi 502 0),(vi 136 0),(vs fl 503)]
def PQ:Obj:=oF "is_house" "is_house" (tp 41) "rooftold.plans" 446 221
def UP:Obj:=oT #[(vs "cells" 508),(vs "headings" 509),(vs "cell" 510),(vs "side" 511)]
def UO:Obj:=oG "headings_along_walls" "headings_along_walls" (tp 42)
def PN:Obj:=oC "headings_along_walls" 505 142 1 3 223 181 224 225 226 227 512
def PM:Obj:=oF "headings_along_walls" "headings_along_walls" (tp 42) "rooftold.plans" 446 228
noncomputable def UN:Obj:=oT #[(vs "start" 518),(vs "headings" 519),(vs "walked" 520),(vs "corners" 521),(vs "point" 522),(vs "came" 523),(vs "heading" 524)]
def UM:Obj:=oG "walk_from" "walk_from" (tp 43)
def PL:Obj:=oC "walk_from" 515 149 3 3 230 181 231 232 233 234 525
def PJ:Obj:=oF "walk_from" "walk_from" (tp 43) "rooftold.plans" 446 235
noncomputable def UL:Obj:=oT #[(vs "cells" 531),(vs "headings" 532),(vs "walks" 533),(vs "walked" 534),(vs "point" 535)]
def UK:Obj:=oG "walks_round" "walks_round" (tp 44)
def PH:Obj:=oC "walks_round" 528 161 1 3 237 181 238 239 240 241 536
def PF:Obj:=oF "walks_round" "walks_round" (tp 44) "rooftold.plans" 446 242
def UJ:Obj:=oT #[(vs "t" 542),(vs "walks" 543),(vs "cells" 544)]
def UI:Obj:=oG "house_told" "house_told" (tp 45)
def PD:Obj:=oC "house_told" 539 169 1 3 244 181 245 246 247 248 545
def PB:Obj:=oF "house_told" "house_told" (tp 45) "rooftold.plans" 446 249
def P9:Obj:=oT #[(vi 0 550),(vi 0 551)]
def P8:Obj:=oT #[(vi 1 552),(vi 0 553)]
def P7:Obj:=oT #[(vi 0 554),(vi 1 555)]
def P6:Obj:=oT #[(vi 1 556),(vi 1 557)]
def P5:Obj:=oT #[(vr 251),(vr 252),(vr 253),(vr 254)]
def P4:Obj:=oT #[(vi (-1) 560),(vi (-1) 562)]
def P2:Obj:=oT #[(vi 0 563),(vi (-1) 565)]
def P1:Obj:=oT #[(vi 1 566),(vi (-1) 568)]
def P0:Obj:=oT #[(vi (-1) 570),(vi 0 571)]
def OZ:Obj:=oT #[(vi 1 572),(vi 0 573)]
def OY:Obj:=oT #[(vi (-1) 575),(vi 1 576)]
def OX:Obj:=oT #[(vi 0 577),(vi 1 578)]
def OW:Obj:=oT #[(vi 1 579),(vi 1 580)]
noncomputable def OV:Obj:=oT #[(vr 256),(vr 257),(vr 258),(vr 259),(vr 260),(vr 261),(vr 262),(vr 263)]
def OU:Obj:=oT #[(vi (-1) 583),(vi (-1) 585)]
def OT:Obj:=oT #[(vi 0 586),(vi (-1) 588)]
def OS:Obj:=oT #[(vi (-1) 590),(vi 0 591)]
def OR:Obj:=oT #[(vi 0 592),(vi 0 593)]
def OQ:Obj:=oT #[(vr 265),(vr 266),(vr 267),(vr 268)]
def UH:Obj:=oT #[(vs "cells" 598),(vs "found" 599),(vs "cell" 600),(vs "quarter" 601)]
def UG:Obj:=oG "half_cells_of" "half_cells_of" (tp 50)
def OP:Obj:=oC "half_cells_of" 595 179 1 3 270 181 271 272 273 274 602
def OO:Obj:=oF "half_cells_of" "half_cells_of" (tp 50) "rooftold.heights" 548 275
def UE:Obj:=oT #[(vs "half" 608),(vs "layer" 609),(vs "step" 610)]
def UD:Obj:=oG "is_deeper" "is_deeper" (tp 51)
def ON:Obj:=oC "is_deeper" 605 185 2 3 277 181 278 279 280 281 611
def OM:Obj:=oF "is_deeper" "is_deeper" (tp 51) "rooftold.heights" 548 282
def UC:Obj:=oG "depths_of" "depths_of" (tp 52)
noncomputable def OL:Obj:=oK #[(vs "depths_of" 614),(vs "depths_of" 615),(vs fl 616),(vi 190 0),(vi 1 0),(vi 0 0),(vi 0 0),(vi 3 0),(vr 284),.bool true,(vi 181 0),(vr 285),.none,.none,.none,(vr 286),(vi 617 0),(vi 190 0),(vs fl 618)]
def OK:Obj:=oF "depths_of" "depths_of" (tp 52) "rooftold.heights" 548 287
def UB:Obj:=oG "height_over" "height_over" (tp 53)
noncomputable def OJ:Obj:=oK #[(vs "height_over" 620),(vs "height_over" 621),(vs fl 622),(vi 201 0),(vi 2 0),(vi 0 0),(vi 0 0),(vi 3 0),(vr 289),.bool true,(vi 181 0),(vr 290),.none,.none,.none,(vr 291),(vi 623 0),(vi 201 0),(vs fl 624)]
def OI:Obj:=oF "height_over" "height_over" (tp 53) "rooftold.heights" 548 292
noncomputable def UA:Obj:=oT #[(vs "depths" 629),(vs "heights" 630),(vs "half" 631),(vs "side" 632),(vs "point" 633)]
def U9:Obj:=oG "heights_of" "heights_of" (tp 54)
def OH:Obj:=oC "heights_of" 626 203 1 3 294 181 295 296 297 298 634
def OG:Obj:=oF "heights_of" "heights_of" (tp 54) "rooftold.heights" 548 299
noncomputable def U8(P:Params):Obj:={cls:=.type "dict",data:=.dict #[eN P "__module__" 646 (vs "rooftold.roofs" 637),eN P "__qualname__" 648 (vs "Roof" 647),eN P "__firstlineno__" 650 (vi 212 649),eN P "__init__" 658 (vr 314),eN P "__static_attributes__" 665 (vr 315)] 5}
def U7:Obj:={cls:=.none,data:=.fields #[(vi 214 0),(vi 4 0),(vr 313)]}
noncomputable def U6:Obj:=oK #[(vs "Roof" 641),(vs "Roof" 642),(vs fl 643),(vi 212 0),(vi 0 0),(vi 0 0),(vi 0 0),(vi 0 0),(vr 304),.bool false,(vi 181 0),(vr 305),.none,.none,.none,.none,(vi 644 0),(vi 212 0),(vs fl 645)]
noncomputable def U5:Obj:={cls:=.type "frame",slots:=#[some ((vr 306)),some ((vr 3)),some ((vr 303)),none,some ((vs "rooftold.roofs" 637)),none,some ((vr 0))]}
def U4:Obj:=oT #[(vs "self" 654),(vs "cells" 655)]
def U3:Obj:=oG "__init__" "Roof.__init__" (ic (tp 56) 0)
noncomputable def OF:Obj:=oK #[(vs "__init__" 651),(vs "Roof.__init__" 652),(vs fl 653),(vi 214 0),(vi 2 0),(vi 0 0),(vi 0 0),(vi 3 0),(vr 308),.bool true,(vi 181 0),(vr 309),.none,(vr 310),(vr 311),(vr 312),(vi 656 0),(vi 214 0),(vs fl 657)]
def OE:Obj:=oF "__init__" "Roof.__init__" (ic (tp 56) 0) "rooftold.roofs" 637 313
noncomputable def U2:Obj:=oT #[(vs "cells" 659),(vs "depths" 660),(vs "faces" 661),(vs "facings" 662),(vs "heights" 663),(vs "numbers" 664)]
noncomputable def OD(P:Params):Obj:={cls:=.type "dict",data:=.dict #[eN P "__module__" 646 (vs "rooftold.roofs" 637),eN P "__firstlineno__" 650 (vi 212 649),eN P "__init__" 658 (vr 314),eN P "__static_attributes__" 665 (vr 315),eN P "__dict__" 667 (vr 318),eN P "__weakref__" 669 (vr 319),eN P "__doc__" 670 .none] 4}
noncomputable def OC:Obj:={cls:=.type "type",data:=.cls {name:=Str.ofString "Roof",bases:=[.type "object"],mro:=[(vr 317),.type "object"],ns:=316,qualname:=Str.ofString "Roof" },slots:=#[none,none,some ((vs "Roof" 639)),some ((vs "Roof" 647)),some (.builtin "object.__new__"),some (.bool true)]}
noncomputable def OB:Obj:={cls:=.type "getset_descriptor",data:=.fields #[(vs "__dict__" 666),(vr 317),.builtin "function.__dict__",.builtin "function.__dict__#set"]}
noncomputable def OA:Obj:={cls:=.type "getset_descriptor",data:=.fields #[(vs "__weakref__" 668),(vr 317),.builtin "ExceptionGroup.__weakref__",.none]}
def U1:Obj:={cls:=.type "super",data:=.fields #[(vr 317),(vr 317),(vr 317)]}
noncomputable def U0:Obj:={cls:=.type "builtin_function_or_method",data:=.fields #[.builtin "object.__init_subclass__",(vr 317)]}
noncomputable def TZ:Obj:=oT #[(vs "half" 676),(vs "side" 677),(vs "depth" 678),(vs "heights" 679),(vs "start_is_low" 680),(vs "end_is_low" 681)]
def TY:Obj:=oG "facing_of" "facing_of" (tp 57)
def O9:Obj:=oC "facing_of" 673 221 4 3 322 181 323 324 325 326 682
def O8:Obj:=oF "facing_of" "facing_of" (tp 57) "rooftold.roofs" 637 327
noncomputable def TV:Obj:=oT #[(vs "depths" 688),(vs "heights" 689),(vs "facings" 690),(vs "half" 691),(vs "depth" 692),(vs "side" 693)]
def TU:Obj:=oG "facings_of" "facings_of" (tp 58)
def O7:Obj:=oC "facings_of" 685 231 2 3 329 181 330 331 332 333 694
def O6:Obj:=oF "facings_of" "facings_of" (tp 58) "rooftold.roofs" 637 334
noncomputable def TQ:Obj:=oT #[(vs "triangle" 700),(vs "i" 701),(vs "j" 702),(vs "side" 703),(vs "across" 704)]
def TN:Obj:=oG "triangle_across" "triangle_across" (tp 59)
def O5:Obj:=oC "triangle_across" 697 237 1 3 336 181 337 338 339 340 705
def O4:Obj:=oF "triangle_across" "triangle_across" (tp 59) "rooftold.roofs" 637 341
def TM:Obj:=oT #[(vs "triangle" 711),(vs "i" 712),(vs "j" 713),(vs "side" 714)]
def TJ:Obj:=oG "triangle_on_left" "triangle_on_left" (tp 60)
def O3:Obj:=oC "triangle_on_left" 708 241 1 3 343 181 344 345 346 347 715
def O1:Obj:=oF "triangle_on_left" "triangle_on_left" (tp 60) "rooftold.roofs" 637 348
def TH:Obj:=oT #[(vs "triangle" 721),(vs "i" 722),(vs "j" 723),(vs "side" 724)]
def TF:Obj:=oG "triangle_on_right" "triangle_on_right" (tp 61)
def O0:Obj:=oC "triangle_on_right" 718 244 1 3 350 181 351 352 353 354 725
def NZ:Obj:=oF "triangle_on_right" "triangle_on_right" (tp 61) "rooftold.roofs" 637 355
noncomputable def TC:Obj:=oT #[(vs "first" 731),(vs "number" 732),(vs "facings" 733),(vs "numbers" 734),(vs "facing" 735),(vs "waiting" 736),(vs "triangle" 737)]
def TB:Obj:=oG "number_face" "number_face" (tp 62)
def NY:Obj:=oC "number_face" 728 247 4 3 357 181 358 359 360 361 738
def NX:Obj:=oF "number_face" "number_face" (tp 62) "rooftold.roofs" 637 362
noncomputable def T9:Obj:=oT #[(vs "facings" 744),(vs "numbers" 745),(vs "count" 746),(vs "triangle" 747)]
def T8:Obj:=oG "numbers_of" "numbers_of" (tp 63)
def NW:Obj:=oC "numbers_of" 741 257 1 3 364 181 365 366 367 368 748
def NV:Obj:=oF "numbers_of" "numbers_of" (tp 63) "rooftold.roofs" 637 369
def T7:Obj:=oT #[(vs "numbers" 754),(vs "faces" 755),(vs "triangle" 756),(vs "number" 757)]
def T6:Obj:=oG "faces_of" "faces_of" (tp 64)
def NU:Obj:=oC "faces_of" 751 265 1 3 371 181 372 373 374 375 758
def NT:Obj:=oF "faces_of" "faces_of" (tp 64) "rooftold.roofs" 637 376
def T5:Obj:=oT #[(vs "W" 768),(vs "H" 769)]
def T1:Obj:=oG "is_size" "is_size" (tp 67)
def NS:Obj:=oC "is_size" 765 274 2 3 378 181 379 380 381 382 770
def NR:Obj:=oF "is_size" "is_size" (tp 67) "rooftold.tiling" 761 383
def SY:Obj:=oT #[(vs "facing" 776)]
def SX:Obj:=oG "runs_eastward" "runs_eastward" (tp 68)
def NQ:Obj:=oC "runs_eastward" 773 276 1 3 385 181 386 387 388 389 777
def NP:Obj:=oF "runs_eastward" "runs_eastward" (tp 68) "rooftold.tiling" 761 390
noncomputable def SW:Obj:=oT #[(vs "face" 783),(vs "roof" 784),(vs "places" 785),(vs "triangle" 786),(vs "i" 787),(vs "j" 788),(vs "side" 789),(vs "along" 790),(vs "place" 791)]
def SV:Obj:=oG "places_on" "places_on" (tp 69)
def NO:Obj:=oC "places_on" 780 278 2 3 392 181 393 394 395 396 792
def NN:Obj:=oF "places_on" "places_on" (tp 69) "rooftold.tiling" 761 397
noncomputable def SU:Obj:=oT #[(vs "places" 798),(vs "W" 799),(vs "H" 800),(vs "tiles" 801),(vs "place" 802),(vs "count" 803),(vs "course" 804),(vs "shift" 805),(vs "tile" 806)]
def SS:Obj:=oG "tiles_over" "tiles_over" (tp 70)
def NM:Obj:=oC "tiles_over" 795 286 3 3 399 181 400 401 402 403 807
def NL:Obj:=oF "tiles_over" "tiles_over" (tp 70) "rooftold.tiling" 761 404
noncomputable def SR:Obj:=oT #[(vs "places" 813),(vs "W" 814),(vs "H" 815),(vs "counts" 816),(vs "whole" 817)]
def SQ:Obj:=oG "whole_and_cut" "whole_and_cut" (tp 71)
def NK:Obj:=oC "whole_and_cut" 810 294 3 3 406 181 407 408 409 410 818
def NJ:Obj:=oF "whole_and_cut" "whole_and_cut" (tp 71) "rooftold.tiling" 761 411
def SO:Obj:=oG "course_count" "course_count" (tp 72)
noncomputable def NI:Obj:=oK #[(vs "course_count" 821),(vs "course_count" 822),(vs fl 823),(vi 298 0),(vi 2 0),(vi 0 0),(vi 0 0),(vi 3 0),(vr 413),.bool true,(vi 181 0),(vr 414),.none,.none,.none,(vr 415),(vi 824 0),(vi 298 0),(vs fl 825)]
def NH:Obj:=oF "course_count" "course_count" (tp 72) "rooftold.tiling" 761 416
def SN:Obj:=oG "places_by_face" "places_by_face" (tp 73)
noncomputable def NG:Obj:=oK #[(vs "places_by_face" 827),(vs "places_by_face" 828),(vs fl 829),(vi 300 0),(vi 1 0),(vi 0 0),(vi 0 0),(vi 3 0),(vr 418),.bool true,(vi 181 0),(vr 419),.none,.none,.none,(vr 420),(vi 830 0),(vi 300 0),(vs fl 831)]
def NF:Obj:=oF "places_by_face" "places_by_face" (tp 73) "rooftold.tiling" 761 421
def SM:Obj:=oG "whole_and_cut_together" "whole_and_cut_together" (tp 74)
noncomputable def ND:Obj:=oK #[(vs "whole_and_cut_together" 833),(vs "whole_and_cut_together" 834),(vs fl 835),(vi 302 0),(vi 3 0),(vi 0 0),(vi 0 0),(vi 3 0),(vr 423),.bool true,(vi 181 0),(vr 424),.none,.none,.none,(vr 425),(vi 836 0),(vi 302 0),(vs fl 837)]
noncomputable def NC:Obj:=oF "whole_and_cut_together" "whole_and_cut_together" (tp 74) "rooftold.tiling" 761 426
def SK:Obj:=oG "roof_row" "roof_row" (tp 75)
noncomputable def NB:Obj:=oK #[(vs "roof_row" 839),(vs "roof_row" 840),(vs fl 841),(vi 305 0),(vi 3 0),(vi 0 0),(vi 0 0),(vi 3 0),(vr 428),.bool true,(vi 181 0),(vr 429),.none,.none,.none,(vr 430),(vi 842 0),(vi 305 0),(vs fl 843)]
def NA:Obj:=oF "roof_row" "roof_row" (tp 75) "rooftold.tiling" 761 431
def SJ:Obj:=oT #[(vs "W" 850),(vs "H" 851)]
def SI:Obj:=oG "check_size" "check_size" (tp 77)
def N9:Obj:=oC "check_size" 847 309 2 3 433 181 434 435 436 437 852
def N8:Obj:=oF "check_size" "check_size" (tp 77) "rooftold.desk" 845 438
def SH:Obj:=oT #[(vs "t" 858)]
def SG:Obj:=oG "roof_told" "roof_told" (tp 78)
def N7:Obj:=oC "roof_told" 855 312 1 3 440 181 441 442 443 444 859
def N6:Obj:=oF "roof_told" "roof_told" (tp 78) "rooftold.desk" 845 445
def SF:Obj:=oT #[(vs "W" 865),(vs "H" 866),(vs "t" 867)]
def SE:Obj:=oG "roof_to_tile" "roof_to_tile" (tp 79)
def N5:Obj:=oC "roof_to_tile" 862 314 3 3 447 181 448 449 450 451 868
def MZ:Obj:=oF "roof_to_tile" "roof_to_tile" (tp 79) "rooftold.desk" 845 452
def SD:Obj:=oT #[(vs "W" 874),(vs "H" 875),(vs "t" 876)]
def SA:Obj:=oT #[(vs "W" 877),(vs "H" 878),(vs "t" 879)]
def S9:Obj:=oG "roof" "roof" (tp 80)
def MY:Obj:=oC "roof" 871 317 3 3 454 181 455 456 457 458 880
def MX:Obj:=oF "roof" "roof" (tp 80) "rooftold.desk" 845 459
noncomputable def hpK:Params->Frag:=fun P=>(nat_lit 2,o2 P)::(nat_lit 3,o3 P)::(nat_lit 15,o15)::(nat_lit 16,o16)::(nat_lit 17,o17)::(nat_lit 18,o18)::(nat_lit 19,o19)::(nat_lit 20,o20)::(nat_lit 21,o21)::(nat_lit 22,o22)::(nat_lit 23,o23)::(nat_lit 24,o24)::(nat_lit 25,o25)::(nat_lit 31,o31)::(nat_lit 32,o32)::(nat_lit 38,o38)::(nat_lit 39,o39)::(nat_lit 45,o45)::(nat_lit 46,o46)::(nat_lit 52,o52)::(nat_lit 53,o53)::(nat_lit 59,o59)::(nat_lit 60,o60)::(nat_lit 66,o66)::(nat_lit 67,o67)::(nat_lit 73,o73)::(nat_lit 74,o74)::(nat_lit 80,o80)::(nat_lit 81,o81)::(nat_lit 82,o82)::(nat_lit 90,o90 P)::(nat_lit 91,o91)::(nat_lit 92,o92)::(nat_lit 95,o82)::(nat_lit 103,QS P)::(nat_lit 104,QR)::(nat_lit 105,QQ)::(nat_lit 108,o82)::(nat_lit 116,QP P)::(nat_lit 117,QO)::(nat_lit 118,QN)::(nat_lit 121,o82)::(nat_lit 129,QM P)::(nat_lit 130,QL)::(nat_lit 131,QK)::(nat_lit 134,o82)::(nat_lit 142,QJ P)::(nat_lit 143,QI)::(nat_lit 144,QH)::(nat_lit 152,QG)::(nat_lit 153,QF)::(nat_lit 159,QE)::(nat_lit 160,QD)::(nat_lit 166,QC)::(nat_lit 167,QB)::(nat_lit 173,QA)::(nat_lit 174,Q9)::(nat_lit 178,Q8)::(nat_lit 179,Q7)::(nat_lit 183,Q6)::(nat_lit 184,Q5)::(nat_lit 188,Q4)::(nat_lit 189,Q3)::(nat_lit 195,Q2)::(nat_lit 196,Q1)::(nat_lit 202,Q0)::(nat_lit 203,PZ)::(nat_lit 209,PY)::(nat_lit 210,PX)::(nat_lit 216,PV)::(nat_lit 217,PU)::(nat_lit 221,PR)::(nat_lit 222,PQ)::(nat_lit 228,PN)::(nat_lit 229,PM)::(nat_lit 235,PL)::(nat_lit 236,PJ)::(nat_lit 242,PH)::(nat_lit 243,PF)::(nat_lit 249,PD)::(nat_lit 250,PB)::(nat_lit 251,P9)::(nat_lit 252,P8)::(nat_lit 253,P7)::(nat_lit 254,P6)::(nat_lit 255,P5)::(nat_lit 256,P4)::(nat_lit 257,P2)::(nat_lit 258,P1)::(nat_lit 259,P0)::(nat_lit 260,OZ)::(nat_lit 261,OY)::(nat_lit 262,OX)::(nat_lit 263,OW)::(nat_lit 264,OV)::(nat_lit 265,OU)::(nat_lit 266,OT)::(nat_lit 267,OS)::(nat_lit 268,OR)::(nat_lit 269,OQ)::(nat_lit 275,OP)::(nat_lit 276,OO)::(nat_lit 282,ON)::(nat_lit 283,OM)::(nat_lit 287,OL)::(nat_lit 288,OK)::(nat_lit 292,OJ)::(nat_lit 293,OI)::(nat_lit 299,OH)::(nat_lit 300,OG)::(nat_lit 313,OF)::(nat_lit 314,OE)::(nat_lit 316,OD P)::(nat_lit 317,OC)::(nat_lit 318,OB)::(nat_lit 319,OA)::(nat_lit 327,O9)::(nat_lit 328,O8)::(nat_lit 334,O7)::(nat_lit 335,O6)::(nat_lit 341,O5)::(nat_lit 342,O4)::(nat_lit 348,O3)::(nat_lit 349,O1)::(nat_lit 355,O0)::(nat_lit 356,NZ)::(nat_lit 362,NY)::(nat_lit 363,NX)::(nat_lit 369,NW)::(nat_lit 370,NV)::(nat_lit 376,NU)::(nat_lit 377,NT)::(nat_lit 383,NS)::(nat_lit 384,NR)::(nat_lit 390,NQ)::(nat_lit 391,NP)::(nat_lit 397,NO)::(nat_lit 398,NN)::(nat_lit 404,NM)::(nat_lit 405,NL)::(nat_lit 411,NK)::(nat_lit 412,NJ)::(nat_lit 416,NI)::(nat_lit 417,NH)::(nat_lit 421,NG)::(nat_lit 422,NF)::(nat_lit 426,ND)::(nat_lit 427,NC)::(nat_lit 431,NB)::(nat_lit 432,NA)::(nat_lit 438,N9)::(nat_lit 439,N8)::(nat_lit 445,N7)::(nat_lit 446,N6)::(nat_lit 452,N5)::(nat_lit 453,MZ)::(nat_lit 459,MY)::(nat_lit 460,MX)::[]
noncomputable def as:List Addr:=[2,3,15,16,17,18,19,20,21,22,23,24,25,31,32,38,39,45,46,52,53,59,60,66,67,73,74,80,81,82,90,91,92,95,103,104,105,108,116,117,118,121,129,130,131,134,142,143,144,152,153,159,160,166,167,173,174,178,179,183,184,188,189,195,196,202,203,209,210,216,217,221,222,228,229,235,236,242,243,249,250,251,252,253,254,255,256,257,258,259,260,261,262,263,264,265,266,267,268,269,275,276,282,283,287,288,292,293,299,300,313,314,316,317,318,319,327,328,334,335,341,342,348,349,355,356,362,363,369,370,376,377,383,384,390,391,397,398,404,405,411,412,416,417,421,422,426,427,431,432,438,439,445,446,452,453,459,460]
theorem hkE:∀P,as=(hpK P).map (·.1):=fun _=>by kernel_rfl
noncomputable def H1(P:Params):Heap:={objs:={toList:=[boot_o_0 P,boot_o_1 P,o2 P,o3 P,boot_o_4 P,boot_o_5 P,boot_o_6 P,boot_o_7 P,boot_o_8 P,boot_o_9 P,boot_o_10 P,o11,o12,o13,o14,o15,o16,o17,o18,o19,o20,o21,o22,o23,o24,o25,o11,o27,o28,o11,o30,o31,o32,o11,o27,o35,o11,o37,o38,o39,o11,o27,o42,o11,o44,o45,o46,o11,o27,o49,o11,o51,o52,o53,o11,o27,o56,o11,o58,o59,o60,o11,o27,o63,o11,o65,o66,o67,o11,o27,o70,o11,o72,o73,o74,o11,o27,o77,o11,o79,o80,o81,o82,o83,o84 P,o11,o27,o87,o88,o11,o90 P,o91,o92,o93,o94,o82,o83,o97 P,o11,o27,VU,VT,o11,QS P,QR,QQ,VS,VR,o82,o83,VQ P,o11,o27,VP,VO,o11,QP P,QO,QN,VN,VM,o82,o83,VL P,o11,o27,VJ,VI,o11,QM P,QL,QK,VH,VG,o82,o83,VF P,o11,o27,VE,VD,o11,QJ P,QI,QH,VC,VB,o11,o27,VA,o11,V9,QG,QF,o11,o27,V8,o11,V7,QE,QD,o11,o27,V6,o11,V5,QC,QB,o11,o27,V4,o11,V3,QA,Q9,o11,o27,V2,Q8,Q7,o11,o27,V1,Q6,Q5,o11,o27,V0,Q4,Q3,o11,o27,UZ,o11,UY,Q2,Q1,o11,o27,UX,o11,UW,Q0,PZ,o11,o27,UU,o11,UT,PY,PX,o11,o27,US,o11,UR,PV,PU,o11,o27,UQ,PR,PQ,o11,o27,UP,o11,UO,PN,PM,o11,o27,UN,o11,UM,PL,PJ,o11,o27,UL,o11,UK,PH,PF,o11,o27,UJ,o11,UI,PD,PB,P9,P8,P7,P6,P5,P4,P2,P1,P0,OZ,OY,OX,OW,OV,OU,OT,OS,OR,OQ,o11,o27,UH,o11,UG,OP,OO,o11,o27,UE,o11,UD,ON,OM,o11,o27,UC,OL,OK,o11,o27,UB,OJ,OI,o11,o27,UA,o11,U9,OH,OG,o11,o83,U8 P,o11,U7,U6,U5,o11,o27,U4,o11,U3,OF,OE,U2,OD P,OC,OB,OA,U1,U0,o11,o27,TZ,o11,TY,O9,O8,o11,o27,TV,o11,TU,O7,O6,o11,o27,TQ,o11,TN,O5,O4,o11,o27,TM,o11,TJ,O3,O1,o11,o27,TH,o11,TF,O0,NZ,o11,o27,TC,o11,TB,NY,NX,o11,o27,T9,o11,T8,NW,NV,o11,o27,T7,o11,T6,NU,NT,o11,o27,T5,o11,T1,NS,NR,o11,o27,SY,o11,SX,NQ,NP,o11,o27,SW,o11,SV,NO,NN,o11,o27,SU,o11,SS,NM,NL,o11,o27,SR,o11,SQ,NK,NJ,o11,o27,SO,NI,NH,o11,o27,SN,NG,NF,o11,o27,SM,ND,NC,o11,o27,SK,NB,NA,o11,o27,SJ,o11,SI,N9,N8,o11,o27,SH,o11,SG,N7,N6,o11,o27,SF,o11,SE,N5,MZ,o11,o27,SD,SA,S9,MY,MX]}}
noncomputable def vw:Program:=view PySem.Challenge.pw_rooftold_s08_roof [1,2,3,4,5,6,7,8,9,10,11,13,14,15,16,17,18,20,21,22,23,24,25,26,27,28,29,30,31,32,33,35,36,37,38,39,40,41,42,43,44,45,47,48,49,50,51,52,53,54,56,57,58,59,60,61,62,63,64,66,67,68,69,70,71,72,73,74,75,77,78,79,80]
abbrev xt(s:Shared):Bool:=xlAt vw [] s&& recOk [] s
theorem run:∀w os,topRun treeTable PySem.Challenge.rw_rooftold_s08_roof.prog w 11 (some (.ref 6)) 6390 {heap:=boot_heap w.params,gens:=Array.mk [],drawn:=boot_drawn,toks:=boot_toks,os:=os} (topStub PySem.Challenge.rw_rooftold_s08_roof.prog)=some {heap:=H1 w.params,gens:=Array.mk [],drawn:=boot_drawn,toks:=883,os:=os}:=by intro w os;kernel_rfl
theorem left:LeftO PySem.Challenge.rw_rooftold_s08_roof.prog vw [] xt (Hook.obs (kHook hpK as hkE)) (Hook.val (kHook hpK as hkE)) 6390:=by refine LeftO.of_pieces (M:=6390) (boot_open (by kernel_rfl) (by decide) (fun s=>by kernel_rfl)) (fun w=>by kernel_rfl) run (by decide) (fun w=>?_);funext os;kernel_rfl
end
end HP
namespace L2
open PySem PySem.Spec PyProof.Rows
abbrev Key:=Sum Int Str
noncomputable def qK:Key->Value->Bool
 | .inl k,v=>Value.isInt k v
 | .inr x,v=>Value.isStrOf x v
def VY(w:World):Key->Int
 | .inl k=>hashInt k
 | .inr x=>hashStr w x
theorem cG:∀{k:Key}{v:Value},qK k v=true->(∃i t,k=Sum.inl i/\v=Value.int i t)\/(∃x t,k=Sum.inr x/\v=Value.str x t)
 | .inl i,v,h=>by obtain⟨t,e⟩:=Value.isInt_shape (k:=i) (v:=v) h;exact .inl ⟨i,t,rfl,e⟩
 | .inr x,v,h=>by obtain⟨t,e⟩:=Value.isStrOf_shape (x:=x) (v:=v) h;exact .inr ⟨x,t,rfl,e⟩
theorem EB(i:Int)(t:Tok):qK (.inl i) (.int i t)=true:=by simp[qK,Value.isInt]
theorem EA(x:Str)(t:Tok):qK (.inr x) (.str x t)=true:=by simp[qK,Value.isStrOf]
theorem LO(a b:Int):decide ((Sum.inl a:Key)=Sum.inl b)=(a==b):=by
 by_cases e:a=b
 ·subst e;simp
 ·have h:¬(Sum.inl a:Key)=Sum.inl b:=fun q=>e (Sum.inl.inj q)
  rw[decide_eq_false h];exact(beq_eq_false_iff_ne.mpr e).symm
theorem LL(a b:Str):decide ((Sum.inr a:Key)=Sum.inr b)=decide (a=b):=by
 by_cases e:a=b
 ·subst e;simp
 ·have h:¬(Sum.inr a:Key)=Sum.inr b:=fun q=>e (Sum.inr.inj q)
  rw[decide_eq_false h,decide_eq_false e]
theorem LN(a:Int)(b:Str):decide ((Sum.inl a:Key)=Sum.inr b)=false:=decide_eq_false (fun q=>nomatch q)
theorem LM(a:Str)(b:Int):decide ((Sum.inr a:Key)=Sum.inl b)=false:=decide_eq_false (fun q=>nomatch q)
noncomputable def bY(prog:Program)(w:World):PySem.KeyKind prog w Key where
 is:=qK
 hash:=VY w
 inj:=fun v a b ha hb=>by
  rcases cG ha with⟨i,t,rfl,rfl⟩|⟨x,t,rfl,rfl⟩
  ·rcases cG hb with⟨j,u,rfl,e⟩|⟨y,u,rfl,e⟩
   ·injection e with e1 _;rw[e1]
   ·exact nomatch e
  ·rcases cG hb with⟨j,u,rfl,e⟩|⟨y,u,rfl,e⟩
   ·exact nomatch e
   ·injection e with e1 _;rw[e1]
 byValue:=fun k v h=>by rcases cG h with⟨i,t,rfl,rfl⟩|⟨x,t,rfl,rfl⟩<;>rfl
 pyHash:=fun hv h=>by
  rcases cG hv with⟨i,t,rfl,rfl⟩|⟨x,t,rfl,rfl⟩
  ·exact wpAny_pyHash_int h
  ·exact wpAny_pyHash_str h
 eqBool:=fun hu hv h=>by
  rcases cG hu with⟨i,t,rfl,rfl⟩|⟨x,t,rfl,rfl⟩
  ·rcases cG hv with⟨j,u,rfl,rfl⟩|⟨y,u,rfl,rfl⟩
   ·rw[LO]at h;exact wpAny_eqBool_int h
   ·rw[LN]at h;exact SeqAt.EqAt.int_str i t y u _ _ _ _ h
  ·rcases cG hv with⟨j,u,rfl,rfl⟩|⟨y,u,rfl,rfl⟩
   ·rw[LM]at h;exact SeqAt.EqAt.str_int x t j u _ _ _ _ h
   ·rw[LL]at h;exact wpAny_eqBool_str h
 «strs» :=fun k x t v h=>by
  rcases cG h with⟨i,u,rfl,e⟩|⟨y,u,rfl,e⟩
  ·exact nomatch e
  ·injection e with e1 _
   subst e1;cases v<;>rfl
theorem yI(prog:Program)(w:World)(i:Int)(t:Tok):(bY prog w).is (.inl i) (.int i t)=true:=EB i t
theorem yH(prog:Program)(w:World)(x:Str)(t:Tok):(bY prog w).is (.inr x) (.str x t)=true:=EA x t
end L2
namespace L2
open PySem PySem.Spec PyProof.Rows
inductive V where
 |non|bl (b:Bool)|int (i:Int)|str (x:Str)|byt (b:Array UInt8)|flt (b:UInt64)|ref (a:Addr)|ty (n:String)
 deriving DecidableEq
noncomputable def RelV:V->Value->Prop
 | .non,u=>u=Value.none
 | .bl b,u=>u=Value.bool b
 | .int i,u=>∃t,u=Value.int i t
 | .str x,u=>∃t,u=Value.str x t
 | .byt b,u=>∃t,u=Value.bytes b t
 | .flt b,u=>∃t,u=Value.float b t
 | .ref a,u=>u=Value.ref a
 | .ty n,u=>u=Value.type n
abbrev Vals:List V->List Value->Prop:=Paired RelV
theorem Vals.length{xs:List V}{us:List Value}(r:Vals xs us):xs.length=us.length:=Paired.length r
theorem Vals.get:∀{xs:List V}{us:List Value}{i:Nat}{x:V},Vals xs us->xs[i]? =some x->∃u,us[i]? =some u/\RelV x u
 |_,_,_,_,.nil,e=>by simp at e
 |_,_,0,_,.cons r _,e=>by simp at e;subst e;exact⟨_,rfl,r⟩
 |_,_,i+1,x,.cons _ t,e=>by obtain⟨u,h1,h2⟩:=Vals.get (i:=i) (x:=x) t (by simpa using e);exact⟨u,by simpa using h1,h2⟩
theorem Vals.append:∀{xs ys:List V}{us ws:List Value},Vals xs us->Vals ys ws->Vals (xs++ys) (us++ws)
 |_,_,_,_,.nil,s=>s
 |_,_,_,_,.cons r t,s=>.cons r (Vals.append t s)
theorem Vals.take:∀{xs:List V}{us:List Value}(n:Nat),Vals xs us->Vals (xs.take n) (us.take n)
 |_,_,0,_=>.nil
 |_,_,_+1,.nil=>.nil
 |_,_,n+1,.cons r t=>.cons r (Vals.take n t)
theorem Vals.drop:∀{xs:List V}{us:List Value}(n:Nat),Vals xs us->Vals (xs.drop n) (us.drop n)
 |_,_,0,r=>r
 |_,_,_+1,.nil=>.nil
 |_,_,n+1,.cons _ t=>Vals.drop n t
noncomputable def mP:Option V->Option Value->Prop
 |some v,some u=>RelV v u
 |none,none=>True
 |_,_=>False
noncomputable def KV{κ:Type}:List (κ×V)->List (κ×Value)->Prop:=Paired fun(p:κ×V)(q:κ×Value)=>p.1=q.1/\RelV p.2 q.2
def kV:Key->V
 | .inl i=>.int i
 | .inr x=>.str x
inductive HO where
 |lst (xs:List V)
 |tup (xs:List V)
 |dK (kvs:List (Key×V))|dT (kvs:List (List Key×V))
 |set (S:Int->Bool) (n:Nat)
 |ins (C dx:Addr) (fs:List (Str×V))
 |own (x:Addr)
 |xd (fs:List (Str×V))
 |met (f x:Addr)
 |rng (lo hi:Int)
 |frz (o:Obj) (u:HO)
 |tbl (ps:Array Value)
 |ext (φ:Heap->Prop)
abbrev Hp:=Addr->Option HO
def upd(H:Hp)(a:Addr)(o:HO):Hp:=fun b=>if b=a then some o else H b
theorem a7{H:Hp}{a:Addr}{o:HO}:upd H a o a=some o:=by unfold upd;rw[if_pos rfl]
theorem aA{H:Hp}{a b:Addr}{o:HO}(h:b≠a):upd H a o b=H b:=by unfold upd;rw[if_neg h]
theorem fC{H:Hp}{a b:Addr}{o u:HO}(h:H a=some o)(h':H b=some u)(d:o≠u):a≠b:=by intro e;subst e;rw[h]at h';exact d (Option.some.inj h')
theorem aH{H:Hp}{a b:Addr}{o:HO}(h:H a=some o)(h':H b=none):a≠b:=by intro e;subst e;rw[h]at h';cases h'
section
variable (P:Program) (w:World)
noncomputable def d6(H:Hp)(h:Heap)(a:Addr):HO->Prop
 | .lst xs=>xs.length<=sizeLine/\∃(its:List Value)(n:Nat),Vals xs its/\h.get? a=some {cls:=.type "list",data:=.seq its.toArray n}
 | .tup xs=>xs.length<=sizeLine/\∃its:List Value,Vals xs its/\IsTup h a its.toArray
 | .dK kvs=>kvs.length<=sizeLine/\(a==sysModules)=false/\∃vs,KV kvs vs/\h.DictOf (bY P w) a vs
 | .dT kvs=>kvs.length<=sizeLine/\(a==sysModules)=false/\∃xs:List (List Key×Addr×Value),
   Paired (fun(p:List Key×V)(q:List Key×Addr×Value)=>p.1=q.1/\H q.2.1=some (.tup (p.1.map kV))/\RelV p.2 q.2.2) kvs xs/\
   ∃o es ep,h.get? a=some o/\o.ExactDict/\o.data=.dict es ep/\es.toList=xs.map (entryOfKey (tupleKind (bY P w)))/\(xs.map (·.1)).Nodup
 | .set S n=>h.SetOf (intKind P w) a S n
 | .ins C dx fs=>H dx=some (.own a)/\fs.length<=1000/\dx≠a/\h.get? a=some (W.instObj C dx)/\
   ∃mA,h.Ns1 dx mA/\(∀f,mP (fs.lookup f) (mA f))/\PySem.Within mA (fs.map (·.1))
 | .own _=>∃o,h.get? a=some o
 | .xd fs=>∃mA,h.Ns1 a mA/\∀f,mP (fs.lookup f) (mA f)
 | .rng lo hi=>∃t u v,h.get? a=some {cls:=.type "range",data:=.fields #[.int lo t,.int hi u,.int 1 v]}
 | .frz o u=>h.get? a=some o/\d6 H h a u
 | .tbl ps=>h.get? a=some {cls:=.none,data:=.fields ps}
 | .met f x=>h.get? a=some (W.methodObj (.ref f) (.ref x))
 | .ext φ=>φ h/\(∃o,h.get? a=some o)/\∀h1 h2:Heap,φ h1->(∀o,h1.get? a=some o->h2.get? a=some o)->φ h2
def HOk(H:Hp)(h:Heap):Prop:=∀a o,H a=some o->d6 P w H h a o
end
section
variable {P:Program}{w:World}{H H':Hp}{h h':Heap}{a:Addr}{o:HO}
theorem d6.lt(x:d6 P w H h a o):a<h.objs.size:=by
 cases o with
 |lst xs=>obtain⟨_,_,_,_,e⟩:=x;exact Heap.lt_size e
 |tup xs=>obtain⟨_,_,_,p⟩:=x;exact p.lt
 |dK kvs=>obtain⟨_,_,_,_,o,_,_,e,_⟩:=x;exact Heap.lt_size e
 |dT kvs=>obtain⟨_,_,_,_,o,_,_,e,_⟩:=x;exact Heap.lt_size e
 |set S n=>obtain⟨o,_,_,_,e,_⟩:=x;exact Heap.lt_size e
 |ins C dx fs=>obtain⟨_,_,_,e,_⟩:=x;exact Heap.lt_size e
 |own y=>obtain⟨_,e⟩:=x;exact Heap.lt_size e
 |xd fs=>obtain⟨_,⟨_,_,_,e,_⟩,_⟩:=x;exact Heap.lt_size e
 |rng lo hi=>obtain⟨_,_,_,e⟩:=x;exact Heap.lt_size e
 |frz ob u=>obtain⟨e,_⟩:=x;exact Heap.lt_size e
 |tbl ps=>exact Heap.lt_size (show h.get? a=some _ from x)
 |met f y=>exact Heap.lt_size (show h.get? a=some _ from x)
 |ext φ=>obtain⟨_,⟨_,e⟩,_⟩:=x;exact Heap.lt_size e
theorem Paired.LG{α β:Type}{F G:α->β->Prop}:∀{l₁:List α}{l₂:List β},Paired F l₁ l₂->(∀a b,F a b->G a b)->Paired G l₁ l₂
 |_,_,.nil,_=>.nil
 |_,_,.cons r t,f=>.cons (f _ _ r) (Paired.LG t f)
theorem d6.mW(x:d6 P w H h a o)(k:∀b u,(b=a\/H b=some (.own a))->h.get? b=some u->h'.get? b=some u)
  (ho:∀b,H b=some (.own a)->H' b=some (.own a)) (ht:∀b xs,H b=some (.tup xs)->H' b=some (.tup xs)):d6 P w H' h' a o:=by
 induction o with
 |lst xs=>obtain⟨z,its,n,r,e⟩:=x;exact⟨z,its,n,r,k _ _ (.inl rfl) e⟩
 |tup xs=>obtain⟨z,its,r,ob,e,c⟩:=x;exact⟨z,its,r,ob,k _ _ (.inl rfl) e,c⟩
 |dK kvs=>obtain⟨z,y,vs,r,ob,es,ep,e,c⟩:=x;exact⟨z,y,vs,r,ob,es,ep,k _ _ (.inl rfl) e,c⟩
 |dT kvs=>obtain⟨z,y,xs,r,ob,es,ep,e,c⟩:=x;exact⟨z,y,xs,Paired.LG r fun p q z=>⟨z.1,ht _ _ z.2.1,z.2.2⟩,ob,es,ep,k _ _ (.inl rfl) e,c⟩
 |set S n=>obtain⟨ob,es,ep,t,e,c⟩:=x;exact⟨ob,es,ep,t,k _ _ (.inl rfl) e,c⟩
 |ins C dx fs=>obtain⟨d,z,ne,e,mA,⟨od,es,ep,e2,c⟩,r⟩:=x;exact⟨ho _ d,z,ne,k _ _ (.inl rfl) e,mA,⟨od,es,ep,k _ _ (.inr d) e2,c⟩,r⟩
 |own y=>obtain⟨ob,e⟩:=x;exact⟨ob,k _ _ (.inl rfl) e⟩
 |xd fs=>obtain⟨mA,⟨od,es,ep,e,c⟩,r⟩:=x;exact⟨mA,⟨od,es,ep,k _ _ (.inl rfl) e,c⟩,r⟩
 |rng lo hi=>obtain⟨t,u,v,e⟩:=x;exact⟨t,u,v,k _ _ (.inl rfl) e⟩
 |frz ob u ih=>obtain⟨e,q⟩:=x;exact⟨k _ _ (.inl rfl) e,ih q⟩
 |tbl ps=>
  have e:h.get? a=some {cls:=.none,data:=.fields ps}:=x;show h'.get? a=some {cls:=.none,data:=.fields ps}
  exact k a _ (.inl rfl) e
 |met f y=>
  have e:h.get? a=some (W.methodObj (.ref f) (.ref y)):=x;show h'.get? a=some (W.methodObj (.ref f) (.ref y))
  exact k a _ (.inl rfl) e
 |ext φ=>obtain⟨p,⟨o,e⟩,st⟩:=x;exact⟨st _ _ p fun o q=>k _ _ (.inl rfl) q,⟨o,k _ _ (.inl rfl) e⟩,st⟩
theorem HOk.lt(x:HOk P w H h)(e:H a=some o):a<h.objs.size:=(x a o e).lt
theorem HOk.fresh(x:HOk P w H h)(e:h.objs.size<=a):H a=none:=by
 cases q:H a with
 |none=>rfl
 |some u=>exact absurd (Nat.lt_of_lt_of_le (x.lt q) e) (Nat.lt_irrefl _)
theorem HOk.kept(x:HOk P w H h)(k:∀b u,h.get? b=some u->h'.get? b=some u):HOk P w H h':=fun a o e=>
 (x a o e).mW (fun b u _ q=>k b u q) (fun _ q=>q) fun _ _ q=>q
theorem HOk.laid(x:HOk P w H h)(k:∀b u,h.get? b=some u->h'.get? b=some u)(hp:h.objs.size<=a)(new:d6 P w (upd H a o) h' a o):HOk P w (upd H a o) h':=fun b u e=>by
 have hn:=x.fresh hp;by_cases hb:b=a
 ·subst hb;rw[a7]at e;cases e;exact new
 ·rw[aA hb]at e;exact(x b u e).mW (fun c v _ q=>k c v q) (fun c q=>by rw[aA (aH q hn)];exact q) fun c xs q=>by rw[aA (aH q hn)];exact q
end
def Rd(H:Hp)(a:Addr)(u:HO):Prop:=H a=some u\/∃o,H a=some (.frz o u)
theorem Rd.ok{P:Program}{w:World}{H:Hp}{h:Heap}{a:Addr}{u:HO}(r:Rd H a u)(x:HOk P w H h):d6 P w H h a u:=by
 rcases r with r|⟨o,r⟩
 ·exact x a u r
 ·obtain⟨_,q⟩:=x a _ r;exact q
noncomputable def Mut:Option HO->Prop
 |some (.lst _)=>True
 |some (.dK _)=>True
 |some (.dT _)=>True
 |some (.set _ _)=>True
 |some (.ins _ _ _)=>True
 |some (.ext _)=>True
 |_=>False
section
variable {P:Program}{w:World}{H:Hp}{h h':Heap}{x e:Addr}{o':HO}
theorem HOk.write(ok:HOk P w H h)(mu:Mut (H x))(he:e=x\/H e=some (.own x))(k:∀b u,b≠e->h.get? b=some u->h'.get? b=some u)(heo:∃u,h'.get? e=some u)
  (new:d6 P w (upd H x o') h' x o'):HOk P w (upd H x o') h':=fun b u q=>by
 have nown:∀c y,H c=some (.own y)->c≠x:=fun c y r z=>by subst z;rw[r]at mu;exact mu
 have ntup:∀c xs,H c=some (.tup xs)->c≠x:=fun c xs r z=>by subst z;rw[r]at mu;exact mu
 by_cases hb:b=x
 ·subst hb;rw[a7]at q;cases q;exact new
 ·rw[aA hb]at q;by_cases hbe:b=e
  ·have q':H b=some (.own x):=by
    rcases he with z|z
    ·exact absurd (hbe.trans z) hb
    ·rw[hbe];exact z
   rw[q]at q';cases q';obtain⟨v,hv⟩:=heo;exact⟨v,by rw[hbe];exact hv⟩
  ·refine(ok b u q).mW (fun c v hc r=>k c v ?_ r) (fun c r=>by rw[aA (nown c b r)];exact r) fun c xs r=>by rw[aA (ntup c xs r)];exact r
   rcases hc with rfl|hc
   ·exact hbe
   ·rintro rfl;rcases he with z|z
    ·exact nown c b hc z
    ·rw[hc]at z;cases z;exact hb rfl
end
structure Un(fs ex:List Addr)(H H':Hp)(h h':Heap):Prop where
 keep:∀b o,h.get? b=some o->H b=none->b∉fs->b∉ex->h'.get? b=some o
 slot:∀b o,h.get? b=some o->H b=none->b∈fs->b∉ex->∃sl,h'.get? b=some {o with slots:=sl}
 free:∀b o,h.get? b=some o->H b=none->b∉ex->H' b=none
 there:∀b o,h.get? b=some o->b∉ex->∃o',h'.get? b=some o'
 tQ:∀b xs,H b=some (.tup xs)->H' b=some (.tup xs)
 nR:∀b o u,H b=some (.frz o u)->H' b=some (.frz o u)
 rM:∀b ps,H b=some (.tbl ps)->∃more,H' b=some (.tbl (ps++more))
section
variable {fs fs' ex ex':List Addr}{H H1 H2:Hp}{h h1 h2 h':Heap}{a x e:Addr}{o:HO}
theorem Un.any(u:Un fs ex H H1 h h1){b:Addr}{ob:Obj}(q:h.get? b=some ob)(n:H b=none)(hx:b∉ex):∃sl,h1.get? b=some {ob with slots:=sl}:=by
 by_cases hb:b∈fs
 ·exact u.slot b ob q n hb hx
 ·exact⟨ob.slots,u.keep b ob q n hb hx⟩
theorem Un.kept(k:∀b u,h.get? b=some u->h'.get? b=some u):Un fs ex H H h h':=
 ⟨fun b ob q _ _ _=>k b ob q,fun b ob q _ _ _=>⟨ob.slots,k b ob q⟩,fun _ _ _ n _=>n,fun b ob q _=>⟨ob,k b ob q⟩,fun _ _ q=>q,fun _ _ _ q=>q,fun _ ps q=>⟨#[],by rw[q];simp⟩⟩
theorem Un.refl:Un fs ex H H h h:=Un.kept fun _ _ q=>q
theorem Un.laid(k:∀b u,h.get? b=some u->h'.get? b=some u)(hp:h.objs.size<=a)(hn:H a=none):Un fs ex H (upd H a o) h h' where
 keep:=fun b u q _ _ _=>k b u q
 slot:=fun b u q _ _ _=>⟨u.slots,k b u q⟩
 free:=fun b u q n _=>by rw[aA (Nat.ne_of_lt (Nat.lt_of_lt_of_le (Heap.lt_size q) hp))];exact n
 there:=fun b u q _=>⟨u,k b u q⟩
 tQ:=fun b xs q=>by rw[aA (aH q hn)];exact q
 nR:=fun b u xs q=>by rw[aA (aH q hn)];exact q
 rM:=fun b ps q=>⟨#[],by rw[aA (aH q hn),q];simp⟩
theorem Un.write(mu:Mut (H x))(he:e=x\/H e=some (.own x))(k:∀b u,b≠e->h.get? b=some u->h'.get? b=some u)(heo:∃u,h'.get? e=some u):Un fs ex H (upd H x o) h h':=by
 have hx:∀b,H b=none->b≠x:=fun b n z=>by subst z;rw[n]at mu;exact mu
 have hb:∀b,H b=none->b≠e:=fun b n z=>by
  subst z;rcases he with r|r
  ·exact hx b n r
  ·rw[n]at r;cases r
 have hm:∀b u,H b=some u->¬Mut (some u)->b≠x:=fun b u q nm z=>by subst z;rw[q]at mu;exact nm mu
 refine⟨fun b u q n _ _=>k b u (hb b n) q,fun b u q n _ _=>⟨u.slots,k b u (hb b n) q⟩,fun b u q n _=>by rw[aA (hx b n)];exact n,fun b u q _=>?_,
  fun b xs q=>by rw[aA (hm b _ q fun z=>z)];exact q,fun b u xs q=>by rw[aA (hm b _ q fun z=>z)];exact q,fun b ps q=>⟨#[],by rw[aA (hm b _ q fun z=>z),q];simp⟩⟩
 by_cases hbe:b=e
 ·subst hbe;exact heo
 ·exact⟨u,k b u hbe q⟩
end
def trk(h:Heap)(H:Hp):List Addr:=(List.range h.objs.size).filter fun a=>(H a).isSome
def wN(h:Heap)(H:Hp):Heap:=W.hideAll h (trk h H)
theorem EE(h:Heap)(H:Hp):(wN h H).objs.size=h.objs.size:=W.hideAll_size _ _
theorem GZ{h:Heap}{H:Hp}{b:Addr}{o:Obj}(e:h.get? b=some o)(n:H b=none):(wN h H).get? b=some o:=
 W.hideAll_get _ e fun hm=>by have q:(H b).isSome=true:=(List.mem_filter.mp hm).2;rw[n]at q;simp at q
theorem J2{h:Heap}{H:Hp}{b:Addr}{o:Obj}(e:(wN h H).get? b=some o):h.get? b=some o/\H b=none:=by
 have e':h.get? b=some o:=W.of_hideAll (trk h H) e;refine⟨e',?_⟩;cases q:H b with
 |none=>rfl
 |some x=>have hm:b∈trk h H:=List.mem_filter.mpr ⟨List.mem_range.mpr (Heap.lt_size e'),by simp[q]⟩;have z:(wN h H).get? b=none:=W.hideAll_none (trk h H) hm;rw[z]at e;cases e
end L2
namespace L2
open PySem PySem.Spec PyProof.Rows
structure Mod(K:W.Frag)(mg:Str->Option Value)(base:Heap):Prop where
 kin:K.In base
 glob:base.Ns mainGlobals mg
 blt:∃mb,base.Ns builtinsNs mb/\∀x:Str,x≠ "__name__" ->mb x=bootBuiltins x
 nolimit:base.NoLimit
structure Cx where
 prog:Program
 w:World
 K:W.Frag
 mg:Str->Option Value
 base:Heap
 A:Around
 N:List Str
 s_0:Shared
 H_0:Hp
 env:Env
 outer:List Env
 stack:List Env
 ex:List Addr
 fn:Str->Bool
 calm:Bool
 pn:List (Addr×Obj)
 xe:Value->Shared->Prop
def frs(l:List Env):List Addr:=l.filterMap (·.frame)
abbrev Cx.fs(X:Cx):List Addr:=frs X.outer
noncomputable def Vis(sc:Scope)(x:Str):Prop:=sc.names.lookup x=some .local\/sc.names.lookup x=some .cell\/sc.names.lookup x=some .free
noncomputable def Loc(sc:Scope)(x:Str):Prop:=sc.names.lookup x=some .local\/sc.names.lookup x=some .cell
noncomputable def Look(env:Env)(h:Heap)(m:Str->Option Value)(x:Str)(u:Value):Prop:=
 (env.kindOf x=some .local/\m x=some u)\/((env.kindOf x=some .cell\/env.kindOf x=some .free)/\∃c,env.cells.lookup x=some c/\h.IsCell c (some u))
structure Cx.Ok(X:Cx):Prop where
 mod:Mod X.K X.mg X.base
 kind:X.env.scope.kind=.function
 glob:X.env.globals=mainGlobals
 blt:X.env.builtins=builtinsNs
 above:X.s_0.heap.objs.size<=X.env.locals
 inj:∀x y c,X.env.cells.lookup x=some c->X.env.cells.lookup y=some c->x=y
 has:∀x,(X.env.kindOf x=some .cell\/X.env.kindOf x=some .free)->∃c,X.env.cells.lookup x=some c
 cab:∀x c,X.fn x=true->X.env.cells.lookup x=some c->X.s_0.heap.objs.size<=c
 hd:X.calm=true->X.A.handled=none
 frames:X.A.frames=some X.stack
 stk:X.stack=X.outer\/(X.stack=X.env::X.outer/\X.env.frame=some X.env.locals)
 exf:∀b∈X.ex,b≠X.env.locals/\∀x c,X.env.cells.lookup x=some c->c≠b
 bs:∀b o,X.base.get? b=some o->X.s_0.heap.get? b=some o/\X.H_0 b=none
 bsz:X.base.objs.size<=X.s_0.heap.objs.size
 GH:∀b o,X.base.get? b=some o->b∉X.ex
 BH:∀b∈X.ex,b∉X.fs
 kJ:X.s_0.heap.FunFrames X.base X.outer
 frf:∀b∈X.fs,X.H_0 b=none
structure Inv(X:Cx)(pins:List (Addr×Obj))(σ:List (Option V))(H:Hp)(s:Shared):Prop where
 ok:X.Ok
 os:s.os=X.s_0.os
 bare:AllBare s.gens
 base:Un X.fs X.ex X.H_0 H X.s_0.heap s.heap
 loc:∃m,s.heap.Ns X.env.locals m/\∀(i:Nat)(x:Str)(v:V),X.N[i]? =some x->σ[i]? =some (some v)->Vis X.env.scope x->∃u,RelV v u/\Look X.env s.heap m x u
 cell:∀x c,X.env.cells.lookup x=some c->∃v,s.heap.IsCell c v
 free:H X.env.locals=none
 gY:∀x c,X.env.cells.lookup x=some c->H c=none
 pin:∀p∈X.pn++pins,s.heap.get? p.1=some p.2/\H p.1=none/\p.1≠X.env.locals/\p.1∉X.fs/\∀v,p.2.data≠ .cell v
 hok:HOk X.prog X.w H s.heap
 len:σ.length=X.N.length
section
variable {X:Cx}{pins:List (Addr×Obj)}{σ:List (Option V)}{H H':Hp}{s:Shared}{h':Heap}
theorem Cx.Ok.VX(ok:X.Ok){b:Addr}{o:Obj}(e:X.base.get? b=some o):b∉X.fs:=fun hb=>by have:=(ok.kJ.mem hb).1;rw[e]at this;cases this
theorem Inv.bs(I:Inv X pins σ H s):∀b o,X.base.get? b=some o->s.heap.get? b=some o/\H b=none:=fun b o e=>
 ⟨I.base.keep b o (I.ok.bs b o e).1 (I.ok.bs b o e).2 (I.ok.VX e) (I.ok.GH b o e),I.base.free b o (I.ok.bs b o e).1 (I.ok.bs b o e).2 (I.ok.GH b o e)⟩
theorem Inv.bk(I:Inv X pins σ H s):∀b o,X.base.get? b=some o->s.heap.get? b=some o:=fun b o e=>(I.bs b o e).1
theorem Inv.mod(I:Inv X pins σ H s):Mod X.K X.mg X.base:=I.ok.mod
theorem Inv.kIn(I:Inv X pins σ H s):X.K.In s.heap:=I.ok.mod.kin.keeps I.bk
theorem Inv.lt(I:Inv X pins σ H s):X.env.locals<s.heap.objs.size:=let⟨_,hn,_⟩:=I.loc;hn.lt
theorem Inv.sz(I:Inv X pins σ H s):X.s_0.heap.objs.size<=s.heap.objs.size:=Nat.le_trans I.ok.above (Nat.le_of_lt I.lt)
theorem Inv.VW(I:Inv X pins σ H s){a:Addr}(h:s.heap.objs.size<=a):a∉X.fs:=fun hb=>by obtain⟨_,o,ho,_⟩:=I.ok.kJ.mem hb;exact absurd (Nat.lt_of_lt_of_le (Heap.lt_size ho) (Nat.le_trans I.sz h)) (Nat.lt_irrefl _)
theorem Inv.cne(I:Inv X pins σ H s):∀x c,X.env.cells.lookup x=some c->c≠X.env.locals:=fun x c e z=>by obtain⟨v,o,ho,hd⟩:=I.cell x c e;obtain⟨m,⟨o',es,ep,ho',hd',_⟩,_⟩:=I.loc;rw[z,ho']at ho;cases ho;rw[hd']at hd;cases hd
theorem Inv.kJ(I:Inv X pins σ H s):s.heap.FunFrames X.base X.outer:=by
 have all:∀(l:List Env),(∀b∈frs l,b∈X.fs)->X.s_0.heap.FunFrames X.base l->s.heap.FunFrames X.base l:=by
  intro l;induction l with
  |nil=>intro _ _;trivial
  |cons env r ih=>
   intro hs hl;obtain⟨hk,⟨L,o,hf,hn,ho,hd⟩,hr⟩:=hl;have hL:L∈X.fs:=hs L (by unfold frs;rw[List.filterMap_cons,hf];exact List.mem_cons_self);obtain⟨sl,e⟩:=I.base.slot L o ho (I.ok.frf L hL) hL fun z=>I.ok.BH L z hL
   exact⟨hk,⟨L,_,hf,hn,e,hd⟩,ih (fun b hb=>hs b (by unfold frs;rw[List.filterMap_cons,hf];exact List.mem_cons_of_mem _ hb)) hr⟩
 exact all X.outer (fun _ hb=>hb) I.ok.kJ
theorem Inv.stack(I:Inv X pins σ H s):s.heap.FunFrames X.base X.stack:=by
 rcases I.ok.stk with e|⟨e,hf⟩
 ·rw[e];exact I.kJ
 ·rw[e];obtain⟨m,hn,_⟩:=I.loc;refine .cons (by rw[I.ok.kind];decide) hf hn ?_ I.kJ;exact Heap.get?_none_of_le (Nat.le_trans I.ok.bsz I.ok.above)
theorem Inv.rP(I:Inv X pins σ H s):∀b∈frs X.stack,b∈X.env.locals::X.fs:=fun b hb=>by
 rcases I.ok.stk with e|⟨e,hf⟩
 ·rw[e]at hb;exact List.mem_cons_of_mem _ hb
 ·rw[e]at hb;unfold frs at hb;rw[List.filterMap_cons,hf]at hb;exact hb
theorem Inv.w8(I:Inv X pins σ H s):∀b∈frs X.stack,H b=none:=fun b hb=>by
 rcases List.mem_cons.mp (I.rP b hb)with e|hb
 ·rw[e];exact I.free
 ·obtain⟨_,o,ho,_⟩:=I.ok.kJ.mem hb;exact I.base.free b o ho (I.ok.frf b hb) fun z=>I.ok.BH b z hb
theorem Inv.step{g':Array GenState}{t':Nat}{d':Drawn}{ch:List Addr}(I:Inv X pins σ H s)
  (hch:∀b∈ch,(b∈X.ex\/X.s_0.heap.objs.size<=b)/\b≠X.env.locals/\(∀x c,X.env.cells.lookup x=some c->c≠b)/\∀p∈X.pn++pins,p.1≠b)
  (keep:∀b o,b≠X.env.locals->b∉X.fs->b∉ch->s.heap.get? b=some o->H b=none->h'.get? b=some o)
  (slot:∀b o,b≠X.env.locals->b∈X.fs->b∉ch->s.heap.get? b=some o->H b=none->∃sl,h'.get? b=some {o with slots:=sl}) (free:∀b o,b∉ch->s.heap.get? b=some o->H b=none->H' b=none)
  (there:∀b o,b∉ch->s.heap.get? b=some o->∃o',h'.get? b=some o')
  (tQ:∀b xs,H b=some (.tup xs)->H' b=some (.tup xs)) (nR:∀b o u,H b=some (.frz o u)->H' b=some (.frz o u)) (rM:∀b ps,H b=some (.tbl ps)->∃more,H' b=some (.tbl (ps++more)))
  (ns:∀m,s.heap.Ns X.env.locals m->h'.Ns X.env.locals m) (hok:HOk X.prog X.w H' h') (hg:AllBare g'):
  Inv X pins σ H' {s with heap:=h',gens:=g',drawn:=d',toks:=t'}:=by
 have neL:∀b o,X.s_0.heap.get? b=some o->b≠X.env.locals:=fun b o e=>Nat.ne_of_lt (Nat.lt_of_lt_of_le (Heap.lt_size e) I.ok.above)
 have neC:∀b o,X.s_0.heap.get? b=some o->b∉X.ex->b∉ch:=fun b o e hx hb=>by
  rcases(hch b hb).1 with z|z
  ·exact hx z
  ·exact absurd (Nat.lt_of_lt_of_le (Heap.lt_size e) z) (Nat.lt_irrefl _)
 have cellK:∀x c,X.env.cells.lookup x=some c->∀v,s.heap.IsCell c v->h'.IsCell c v:=fun x c e v ⟨o,ho,hd⟩=>by
  have nch:c∉ch:=fun z=>(hch c z).2.2.1 x c e rfl
  by_cases hc:c∈X.fs
  ·obtain⟨sl,q⟩:=slot c o (I.cne x c e) hc nch ho (I.gY x c e);exact⟨_,q,hd⟩
  ·exact⟨o,keep c o (I.cne x c e) hc nch ho (I.gY x c e),hd⟩
 refine⟨I.ok,I.os,hg,⟨fun b o e n hb hx=>?_,fun b o e n hb hx=>?_,fun b o e n hx=>?_,fun b o e hx=>?_,fun b xs e=>tQ b xs (I.base.tQ b xs e),fun b o xs e=>nR b o xs (I.base.nR b o xs e),fun b ps e=>?_⟩,?_,fun x c e=>?_,?_,fun x c e=>?_,fun p hp=>?_,hok,I.len⟩
 ·exact keep b o (neL b o e) hb (neC b o e hx) (I.base.keep b o e n hb hx) (I.base.free b o e n hx)
 ·obtain⟨sl,e1⟩:=I.base.slot b o e n hb hx;obtain⟨sl',e2⟩:=slot b _ (neL b o e) hb (neC b o e hx) e1 (I.base.free b o e n hx);exact⟨sl',e2⟩
 ·obtain⟨o',e1⟩:=I.base.there b o e hx;exact free b o' (neC b o e hx) e1 (I.base.free b o e n hx)
 ·obtain⟨o',e1⟩:=I.base.there b o e hx;exact there b o' (neC b o e hx) e1
 ·obtain⟨m1,e1⟩:=I.base.rM b ps e;obtain⟨m2,e2⟩:=rM b _ e1;exact⟨m1++m2,by rw[e2,Array.append_assoc]⟩
 ·obtain⟨m,hn,hl⟩:=I.loc;refine⟨m,ns m hn,fun i x v e1 e2 e3=>?_⟩;obtain⟨u,r,l⟩:=hl i x v e1 e2 e3;refine⟨u,r,?_⟩;rcases l with l|⟨k,c,e,z⟩
  ·exact .inl l
  ·exact .inr ⟨k,c,e,cellK x c e _ z⟩
 ·obtain⟨v,z⟩:=I.cell x c e;exact⟨v,cellK x c e v z⟩
 ·obtain⟨m,⟨o,_,_,ho,_⟩,_⟩:=I.loc;exact free _ o (fun z=>(hch _ z).2.1 rfl) ho I.free
 ·obtain⟨v,o,ho,hd⟩:=I.cell x c e;exact free c o (fun z=>(hch c z).2.2.1 x c e rfl) ho (I.gY x c e)
 ·obtain⟨e,n,ne,nf,d⟩:=I.pin p hp;have nch:p.1∉ch:=fun z=>(hch p.1 z).2.2.2 p hp rfl
  exact⟨keep p.1 p.2 ne nf nch e n,free p.1 p.2 nch e n,ne,nf,d⟩
theorem Inv.un{t':Nat}(I:Inv X pins σ H s)(u:Un X.fs [] H H' s.heap h')(hok:HOk X.prog X.w H' h'):Inv X pins σ H' {s with heap:=h',toks:=t'}:=by
 obtain⟨m,⟨o,es,ep,ho,r⟩,_⟩:=id I.loc;obtain⟨sl,hL⟩:=u.any ho I.free (by simp);exact I.step (g':=s.gens) (d':=s.drawn) (ch:=[]) (fun _ z=>nomatch z) (fun b o _ hb _ e n=>u.keep b o e n hb (by simp)) (fun b o _ hb _ e n=>u.slot b o e n hb (by simp)) (fun b o _ e n=>u.free b o e n (by simp)) (fun b o _ e=>u.there b o e (by simp)) u.tQ u.nR u.rM (fun m' hm=>by
  obtain⟨o',es',ep',ho',r'⟩:=hm;rw[ho]at ho';cases ho';exact⟨_,es',ep',hL,r'⟩) hok I.bare
theorem Inv.call{g':Array GenState}{t':Nat}{d':Drawn}{ch:List Addr}(I:Inv X pins σ H s)(u:Un (frs X.stack) ch H H' s.heap h')(hok:HOk X.prog X.w H' h')(hg:AllBare g')
  (hch:∀b∈ch,(b∈X.ex\/X.s_0.heap.objs.size<=b)/\b≠X.env.locals/\(∀x c,X.env.cells.lookup x=some c->c≠b)/\∀p∈X.pn++pins,p.1≠b):
  Inv X pins σ H' {s with heap:=h',gens:=g',drawn:=d',toks:=t'}:=by
 obtain⟨m,⟨o,es,ep,ho,r⟩,_⟩:=id I.loc;obtain⟨sl,hL⟩:=u.any ho I.free fun z=>(hch _ z).2.1 rfl
 exact I.step (ch:=ch) hch (fun b o hL hb hc e n=>u.keep b o e n (fun z=>(List.mem_cons.mp (I.rP b z)).elim hL hb) hc) (fun b o _ _ hc e n=>u.any e n hc) (fun b o hc e n=>u.free b o e n hc) (fun b o hc e=>u.there b o e hc) u.tQ u.nR u.rM (fun m' hm=>by
  obtain⟨o',es',ep',ho',r'⟩:=hm;rw[ho]at ho';cases ho';exact⟨_,es',ep',hL,r'⟩) hok hg
theorem Inv.turned{t':Nat}{it:Addr}(I:Inv X pins σ H s)(k:∀b o,b≠it->s.heap.get? b=some o->h'.get? b=some o)(hn:H it=none)(hL:it≠X.env.locals)
  (h1:it∈X.ex\/X.s_0.heap.objs.size<=it) (h2:∀x c,X.env.cells.lookup x=some c->c≠it) (h3:∀p∈X.pn++pins,p.1≠it):Inv X pins σ H {s with heap:=h',toks:=t'}:=by
 have nit:∀b u,H b=some u->b≠it:=fun b u e z=>by rw[z,hn]at e;cases e
 refine I.step (g':=s.gens) (d':=s.drawn) (ch:=[it]) (fun b hb=>?_) (fun b o _ _ hc e _=>k b o (fun z=>hc (by simp[z])) e) (fun b o _ _ hc e _=>⟨o.slots,k b o (fun z=>hc (by simp[z])) e⟩) (fun _ _ _ _ n=>n)
  (fun b o hc e=>⟨o,k b o (fun z=>hc (by simp[z])) e⟩) (fun _ _ e=>e) (fun _ _ _ e=>e) (fun b ps e=>⟨#[],by rw[e];simp⟩) (fun m hm=>?_) (fun b u e=>?_) I.bare
 ·have e:b=it:=by simpa using hb
  subst e;exact⟨h1,hL,h2,h3⟩
 ·obtain⟨o,es,ep,ho,r⟩:=hm;exact⟨o,es,ep,k _ o (Ne.symm hL) ho,r⟩
 ·refine(I.hok b u e).mW (fun c v hc q=>k c v ?_ q) (fun _ q=>q) fun _ _ q=>q
  rcases hc with z|z
  ·rw[z];exact nit b u e
  ·exact nit c _ z
theorem Inv.tok(I:Inv X pins σ H s)(t:Nat):Inv X pins σ H {s with toks:=t}:=I.un (h':=s.heap) (t':=t) Un.refl I.hok
theorem Inv.kept{t':Nat}(I:Inv X pins σ H s)(k:∀b u,s.heap.get? b=some u->h'.get? b=some u):Inv X pins σ H {s with heap:=h',toks:=t'}:=I.un (Un.kept k) (I.hok.kept k)
theorem Inv.laid{a:Addr}{o:HO}{t':Nat}(I:Inv X pins σ H s)(k:∀b u,s.heap.get? b=some u->h'.get? b=some u)(hp:s.heap.objs.size<=a)(new:d6 X.prog X.w (upd H a o) h' a o):
  Inv X pins σ (upd H a o) {s with heap:=h',toks:=t'}:=I.un (Un.laid k hp (I.hok.fresh hp)) (I.hok.laid k hp new)
theorem Inv.write{x e:Addr}{o:HO}{t':Nat}(I:Inv X pins σ H s)(mu:Mut (H x))(he:e=x\/H e=some (.own x))(k:∀b u,b≠e->s.heap.get? b=some u->h'.get? b=some u)(heo:∃u,h'.get? e=some u)
  (new:d6 X.prog X.w (upd H x o) h' x o):Inv X pins σ (upd H x o) {s with heap:=h',toks:=t'}:=I.un (Un.write mu he k heo) (I.hok.write mu he k heo new)
theorem Inv.weak{σ':List (Option V)}(I:Inv X pins σ H s)(hl:σ'.length=σ.length)(w:∀(i:Nat) v,σ'[i]? =some (some v)->σ[i]? =some (some v)):Inv X pins σ' H s:=
 ⟨I.ok,I.os,I.bare,I.base,let⟨m,hn,hl'⟩:=I.loc;⟨m,hn,fun i x v e1 e2 e3=>hl' i x v e1 (w i v e2) e3⟩,I.cell,I.free,I.gY,I.pin,I.hok,hl.trans I.len⟩
theorem Inv.C4{pins':List (Addr×Obj)}(I:Inv X pins σ H s)(h:∀p∈pins',s.heap.get? p.1=some p.2/\H p.1=none/\p.1≠X.env.locals/\p.1∉X.fs/\∀v,p.2.data≠ .cell v):Inv X pins' σ H s:=
 ⟨I.ok,I.os,I.bare,I.base,I.loc,I.cell,I.free,I.gY,fun p hp=>(List.mem_append.mp hp).elim (fun z=>I.pin p (List.mem_append_left _ z)) (h p),I.hok,I.len⟩
theorem sN{N:List Str}(hN:N.Nodup){i j:Nat}{x:Str}(a:N[i]? =some x)(b:N[j]? =some x):i=j:=by obtain⟨h1,e1⟩:=List.getElem?_eq_some_iff.mp a;obtain⟨h2,e2⟩:=List.getElem?_eq_some_iff.mp b;exact(List.getElem_inj hN).mp (e1.trans e2.symm)
theorem oP{M:Model}{A:Around}{E:Value->Shared->Prop}{i:Nat}{x:Str}{v:V}{u:Value}{Q:Unit->Shared->Prop}(I:Inv X pins σ H s)(hN:X.N.Nodup)(hi:X.N[i]? =some x)(hx:Loc X.env.scope x)(r:RelV v u)
  (h:∀s',Inv X pins (σ.set i (some v)) H s'->(∃a,Heap.SameBut a s.heap s'.heap/\(a=X.env.locals\/X.env.cells.lookup x=some a))->Q () s') (hf:X.fn x=true\/X.env.scope.names.lookup x=some .local:=by first|exact .inl rfl|exact .inr rfl|assumption):wpAny M A (storeName X.env x u) Q E s:=by
 obtain⟨m,hn,hl⟩:=id I.loc;have hcls:(X.env.scope.kind== .class||(X.env.scope.kind== .module&& X.env.locals !=X.env.globals))=false:=by rw[I.ok.kind];rfl
 have hiσ:i<σ.length:=by rw[I.len];exact(List.getElem?_eq_some_iff.mp hi).1
 have cne:=I.cne;have tracked:∀{a:Addr}{h':Heap},(∃o,s.heap.get? a=some o/\H a=none)->Heap.SameBut a s.heap h'->HOk X.prog X.w H h':=fun{a h'} ha hs b ob e=>by
  obtain⟨_,_,hfree⟩:=ha;refine(I.hok b ob e).mW (fun c w' hc q=>(hs.2 c ?_).trans q) (fun _ q=>q) fun _ _ q=>q
  rintro rfl;rcases hc with rfl|hc
  ·rw[hfree]at e;cases e
  ·rw[hfree]at hc;cases hc
 rcases hx with hk|hk
 ·refine wpAny_storeName_local hk hn (fun h' hn' hs=>?_) hcls;obtain⟨oL,_,_,hoL,_⟩:=id hn;refine h _ ⟨I.ok,I.os,I.bare,⟨fun b o e n hb hx=>?_,fun b o e n hb hx=>?_,I.base.free,fun b o e hx=>?_,I.base.tQ,I.base.nR,I.base.rM⟩,⟨_,hn',fun j y v' e1 e2 e3=>?_⟩,fun y c e=>?_,I.free,I.gY,fun p hp=>?_,tracked ⟨oL,hoL,I.free⟩ hs,by simpa using I.len⟩ ⟨_,hs,.inl rfl⟩
  ·exact(hs.2 b (Nat.ne_of_lt (Nat.lt_of_lt_of_le (Heap.lt_size e) I.ok.above))).trans (I.base.keep b o e n hb hx)
  ·obtain⟨sl,e1⟩:=I.base.slot b o e n hb hx;exact⟨sl,(hs.2 b (Nat.ne_of_lt (Nat.lt_of_lt_of_le (Heap.lt_size e) I.ok.above))).trans e1⟩
  ·obtain⟨o',e1⟩:=I.base.there b o e hx;exact⟨o',(hs.2 b (Nat.ne_of_lt (Nat.lt_of_lt_of_le (Heap.lt_size e) I.ok.above))).trans e1⟩
  ·by_cases hj:j=i
   ·subst hj;rw[hi]at e1;cases e1;rw[List.getElem?_set_self hiσ]at e2;cases e2;exact⟨u,r,.inl ⟨hk,by simp⟩⟩
   ·rw[List.getElem?_set_ne (Ne.symm hj)]at e2;obtain⟨u',r',q⟩:=hl j y v' e1 e2 e3;refine⟨u',r',?_⟩;rcases q with⟨k,e⟩|⟨k,c,e,z⟩
    ·refine .inl ⟨k,?_⟩;have:y≠x:=fun e=>hj (sN hN e1 (e▸hi))
     simp[this,e]
    ·exact .inr ⟨k,c,e,z.sameBut hs (cne y c e)⟩
  ·obtain⟨w',z⟩:=I.cell y c e;exact⟨w',z.sameBut hs (cne y c e)⟩
  ·obtain⟨e,n,ne,nf,d⟩:=I.pin p hp;exact⟨(hs.2 p.1 ne).trans e,n,ne,nf,d⟩
 ·have hfn:X.fn x=true:=by
   rcases hf with z|z
   ·exact z
   ·rw[z]at hk;cases hk
  obtain⟨c,hc⟩:=I.ok.has x (.inl hk);obtain⟨w',z⟩:=I.cell x c hc;refine wpAny_storeName_cell I.ok.kind hk hc z (fun h' hc' hs=>?_);obtain⟨oc,hoc,hocd⟩:=id z;refine h {s with heap:=h'} ⟨I.ok,I.os,I.bare,⟨fun b o e n hb hx=>?_,fun b o e n hb hx=>?_,I.base.free,fun b o e hx=>?_,I.base.tQ,I.base.nR,I.base.rM⟩,⟨m,hn.sameBut hs (Ne.symm (cne x c hc)),fun j y v' e1 e2 e3=>?_⟩,fun y c' e=>?_,I.free,I.gY,fun p hp=>?_,tracked ⟨oc,hoc,I.gY x c hc⟩ hs,by simpa using I.len⟩ ⟨c,hs,.inr hc⟩
  ·exact(hs.2 b (Nat.ne_of_lt (Nat.lt_of_lt_of_le (Heap.lt_size e) (I.ok.cab x c hfn hc)))).trans (I.base.keep b o e n hb hx)
  ·obtain⟨sl,e1⟩:=I.base.slot b o e n hb hx;exact⟨sl,(hs.2 b (Nat.ne_of_lt (Nat.lt_of_lt_of_le (Heap.lt_size e) (I.ok.cab x c hfn hc)))).trans e1⟩
  ·obtain⟨o',e1⟩:=I.base.there b o e hx;exact⟨o',(hs.2 b (Nat.ne_of_lt (Nat.lt_of_lt_of_le (Heap.lt_size e) (I.ok.cab x c hfn hc)))).trans e1⟩
  ·by_cases hj:j=i
   ·subst hj;rw[hi]at e1;cases e1;rw[List.getElem?_set_self hiσ]at e2;cases e2;exact⟨u,r,.inr ⟨.inl hk,c,hc,hc'⟩⟩
   ·rw[List.getElem?_set_ne (Ne.symm hj)]at e2;obtain⟨u',r',q⟩:=hl j y v' e1 e2 e3;refine⟨u',r',?_⟩;rcases q with q|⟨k,c',e,z'⟩
    ·exact .inl q
    ·refine .inr ⟨k,c',e,z'.sameBut hs ?_⟩;rintro rfl;exact hj (sN hN e1 (I.ok.inj _ _ _ e hc▸hi))
  ·by_cases hcc:c'=c
   ·subst hcc;exact⟨_,hc'⟩
   ·obtain⟨w2,z2⟩:=I.cell y c' e;exact⟨w2,z2.sameBut hs hcc⟩
  ·obtain⟨e,n,ne,nf,d⟩:=I.pin p hp;refine⟨(hs.2 p.1 ?_).trans e,n,ne,nf,d⟩;intro q;rw[q,hoc]at e;have q':oc=p.2:=Option.some.inj e;exact d w' (by rw[<- q'];exact hocd)
theorem rO{M:Model}{A:Around}{E:Value->Shared->Prop}{i:Nat}{x:Str}{v:V}{u:Value}{Q:Unit->Shared->Prop}(I:Inv X pins σ H s)(hN:X.N.Nodup)(hi:X.N[i]? =some x)(hx:Loc X.env.scope x)(r:RelV v u)
  (h:∀s',Inv X pins (σ.set i (some v)) H s'->Q () s') (hf:X.fn x=true\/X.env.scope.names.lookup x=some .local:=by first|exact .inl rfl|exact .inr rfl|assumption):wpAny M A (storeName X.env x u) Q E s:=
 oP I hN hi hx r (fun s' I' _=>h s' I') hf
theorem Inv.CW{s':Shared}{ch:List Addr}(I:Inv X pins σ H s)(ho:s'.os=s.os)(u:Un (frs X.stack) ch H H' s.heap s'.heap)(hok:HOk X.prog X.w H' s'.heap)(hg:AllBare s'.gens)
  (hch:∀b∈ch,(b∈X.ex\/X.s_0.heap.objs.size<=b)/\b≠X.env.locals/\(∀x c,X.env.cells.lookup x=some c->c≠b)/\∀p∈X.pn++pins,p.1≠b):Inv X pins σ H' s':=by
 obtain⟨h',g',d',t',o'⟩:=s';have e:o'=s.os:=ho;subst e;exact I.call (g':=g') (t':=t') (d':=d') u hok hg hch
end
abbrev XK:=Value->Option Addr->Hp->Prop
abbrev St:=List (Option V)
abbrev VK:=V->Hp->Prop
abbrev TE:=St->Hp->VK->Prop
abbrev TT:=St->Hp->(Bool->Hp->Prop)->Prop
abbrev TA:=St->Hp->(List V->Hp->Prop)->Prop
structure Ends where
 nx:St->Hp->Prop
 rt:VK
 bk:St->Hp->Prop:=fun _ _=>False
 ct:St->Hp->Prop:=fun _ _=>False
abbrev TS:=Ends->St->Hp->Prop
noncomputable def EP(X:Cx)(pins:List (Addr×Obj))(σ:St)(Q:VK)(u:Value)(s':Shared):Prop:=∃v H',Inv X pins σ H' s'/\RelV v u/\Q v H'
noncomputable def TP(X:Cx)(pins:List (Addr×Obj))(σ:St)(Q:Bool->Hp->Prop)(b:Bool)(s':Shared):Prop:=∃H',Inv X pins σ H' s'/\Q b H'
noncomputable def AP(X:Cx)(pins:List (Addr×Obj))(σ:St)(Q:List V->Hp->Prop)(us:List Value)(s':Shared):Prop:=∃vs H',Inv X pins σ H' s'/\Vals vs us/\Q vs H'
noncomputable def SP(X:Cx)(pins:List (Addr×Obj))(D:Ends)(f:Flow)(s':Shared):Prop:=
 match f with
 | .next=>∃σ' H',Inv X pins σ' H' s'/\D.nx σ' H'
 | .brk=>∃σ' H',Inv X pins σ' H' s'/\D.bk σ' H'
 | .cont=>∃σ' H',Inv X pins σ' H' s'/\D.ct σ' H'
 | .ret u=>∃v σ' H',Inv X pins σ' H' s'/\RelV v u/\D.rt v H'
noncomputable def PE(X:Cx)(e:Expr)(t:TE):Prop:=
 ∀(pins:List (Addr×Obj))(s:Shared)(σ:St)(H:Hp)(Q:VK),Inv X pins σ H s->t σ H Q->wpAny (model X.prog X.w) X.A (eval e X.env) (EP X pins σ Q) X.xe s
noncomputable def PT(X:Cx)(e:Expr)(t:TT):Prop:=
 ∀(pins:List (Addr×Obj))(s:Shared)(σ:St)(H:Hp)(Q:Bool->Hp->Prop),Inv X pins σ H s->t σ H Q->wpAny (model X.prog X.w) X.A (isTrue e X.env (eval e X.env)) (TP X pins σ Q) X.xe s
noncomputable def PW(X:Cx)(e:Expr)(t:TT):Prop:=
 ∀(whole:Sem Value)(pins:List (Addr×Obj))(s:Shared)(σ:St)(H:Hp)(Q:Bool->Hp->Prop),Inv X pins σ H s->t σ H Q->wpAny (model X.prog X.w) X.A (isTrue e X.env whole) (TP X pins σ Q) X.xe s
theorem PW.pt{X:Cx}{e:Expr}{t:TT}(h:PW X e t):PT X e t:=h _
noncomputable def PA(X:Cx)(es:List Expr)(t:TA):Prop:=
 ∀(pos:Pos)(pins:List (Addr×Obj))(s:Shared)(σ:St)(H:Hp)(Q:List V->Hp->Prop),Inv X pins σ H s->t σ H Q->wpAny (model X.prog X.w) X.A (spliced (backTo pos (starEach es X.env))) (AP X pins σ Q) X.xe s
noncomputable def PS(X:Cx)(st:Stmt)(t:TS):Prop:=
 ∀(pins:List (Addr×Obj))(s:Shared)(σ:St)(H:Hp)(D:Ends),Inv X pins σ H s->t D σ H->wpAny (model X.prog X.w) X.A (exec st X.env) (SP X pins D) X.xe s
noncomputable def PSs(X:Cx)(st:List Stmt)(t:TS):Prop:=
 ∀(pins:List (Addr×Obj))(s:Shared)(σ:St)(H:Hp)(D:Ends),Inv X pins σ H s->t D σ H->wpAny (model X.prog X.w) X.A (execs st X.env) (SP X pins D) X.xe s
theorem thn{α:Type}{t:Sem α}{Q Q':α->Shared->Prop}{M:Model}{A:Around}{E:Value->Shared->Prop}{s:Shared}(h:wpAny M A t Q E s)(hQ:∀a s,Q a s->Q' a s):wpAny M A t Q' E s:=wpAny_mono h hQ fun _ _ x=>x
end L2
namespace L2
open PySem PySem.Spec PyProof.Rows
section
variable {X:Cx}
def A5(i:Nat):TE:=fun σ H Q=>∃v,σ[i]? =some (some v)/\Q v H
def tC(v:V):TE:=fun _ H Q=>Q v H
theorem G3{i:Nat}{x:Str}{pos:Pos}(hN:X.N[i]? =some x)(hv:Vis X.env.scope x)(hd:(x==("__debug__" : Str))=false:=by decide)(hcd:(x==("__classdict__" : Str))=false:=by decide):PE X (.Name x pos) (A5 i):=by
 intro pins s σ H Q I h;obtain⟨v,e,h⟩:=h;obtain⟨m,hn,hl⟩:=I.loc;obtain⟨u,r,l⟩:=hl i x v hN e hv;have fin:EP X pins σ Q u s:=⟨v,H,I,r,h⟩;rcases l with⟨hk,hm⟩|⟨hk,c,hc,hcell⟩
 ·exact wpAny_Name (wpAny_loadName_local I.ok.kind hk hn hm fin) hd
 ·rcases hk with hk|hk
  ·exact wpAny_Name (wpAny_loadName_cell I.ok.kind hk hc hcell fin) hd
  ·exact wpAny_Name (wpAny_loadName_free I.ok.kind hk hc hcell fin hcd) hd
theorem aN{i j pos}:PE X (.Constant (.int i) j pos) (tC (.int i)):=fun _ _ _ H _ I h=>wpAny_Constant_int ⟨.int i,H,I.tok _,⟨_,rfl⟩,h⟩
theorem jN{b j pos}:PE X (.Constant (.bool b) j pos) (tC (.bl b)):=fun _ _ _ H _ I h=>Constant_bool ⟨.bl b,H,I,rfl,h⟩
theorem L7{j pos}:PE X (.Constant .none j pos) (tC .non):=fun _ _ _ H _ I h=>Constant_none ⟨.non,H,I,rfl,h⟩
def Gl(X:Cx)(x:Str):Prop:=X.env.kindOf x=some .globalImplicit
theorem jC{E:Value->Shared->Prop}{pins:List (Addr×Obj)}{s:Shared}{σ:St}{H:Hp}{x:Str}{u:Value}{pos:Pos}{Q:Value->Shared->Prop}(I:Inv X pins σ H s)(hg:Gl X x)(hm:X.mg x=some u)(h:Q u s)
  (hd:(x==("__debug__" : Str))=false:=by decide):wpAny (model X.prog X.w) X.A (eval (.Name x pos) X.env) Q E s:=
 Calls.Name_function_global I.ok.kind hg (Calls.loadGlobal_global (by rw[I.ok.glob];exact I.mod.glob.keeps I.bk) hm h) hd
theorem mE{E:Value->Shared->Prop}{pins:List (Addr×Obj)}{s:Shared}{σ:St}{H:Hp}{x:Str}{u:Value}{pos:Pos}{Q:Value->Shared->Prop}(I:Inv X pins σ H s)(hg:Gl X x)(hm:X.mg x=none)(hv:bootBuiltins x=some u)(h:Q u s)
  (hn:x≠ "__name__" :=by decide) (hd:(x==("__debug__" : Str))=false:=by decide):wpAny (model X.prog X.w) X.A (eval (.Name x pos) X.env) Q E s:=by
 obtain⟨mb,h1,h2⟩:=I.mod.blt;exact Calls.Name_function_global I.ok.kind hg (Calls.loadGlobal_builtin (by rw[I.ok.glob];exact I.mod.glob.keeps I.bk) hm (by rw[I.ok.blt];exact h1.keeps I.bk) ((h2 x hn).trans hv) h) hd
theorem C7{x:Str}{v:V}{u:Value}{pos:Pos}(hg:Gl X x)(hm:X.mg x=some u)(r:RelV v u)(hd:(x==("__debug__" : Str))=false:=by decide):PE X (.Name x pos) (tC v):=
 fun _ _ _ H _ I h=>jC I hg hm ⟨v,H,I,r,h⟩ hd
variable {a b:Expr}{ta tb:TE}{pos:Pos}
noncomputable def PC(X:Cx)(op:CmpOp)(a b:Expr)(t:TE):Prop:=
 ∀(pins:List (Addr×Obj))(s:Shared)(σ:St)(H:Hp)(Q:VK),Inv X pins σ H s->t σ H Q ->
  wpAny (model X.prog X.w) X.A (eval a X.env) (fun v s₁=>wpAny (model X.prog X.w) X.A (eval b X.env) (fun u s₂=>wpAny (model X.prog X.w) X.A (compareOp op v u) (EP X pins σ Q) X.xe s₂) X.xe s₁) X.xe s
def tB(t:TE):TT:=fun σ H Q=>t σ H fun x H1=>∃c,x=.bl c/\Q c H1
theorem fD{op:CmpOp}{t:TE}(h:PC X op a b t)(h1:behindInMarks op b=false:=by first|exact QU _ (by decide) (by decide)|rfl):PT X (.Compare a [op] [b] pos) (tB t):=by intro pins s σ H Q I hw;refine wpAny_isTrue_Compare1 (thn (h pins s σ H _ I hw) fun v s1 h1=>thn h1 fun u s2 h2=>thn h2 fun c s3 ⟨x,H1,I1,r1,q1⟩=>?_) h1;obtain⟨d,rfl,q⟩:=q1;cases r1;exact wpAny_truthy_bool ⟨H1,I1,q⟩
theorem hZ{e:Expr}{t:TE}(h:PE X e t)(he:∀whole,isTrue e X.env whole=(do let v<- whole;standAt e.pos;holding [v] (truthy v)):=by intro _;rfl):PT X e (tB t):=by intro pins s σ H Q I hw;refine isTrue_plain (thn (h pins s σ H _ I hw) fun v s1 ⟨x,H1,I1,r1,q1⟩=>?_) (he _);obtain⟨d,rfl,q⟩:=q1;cases r1;exact wpAny_truthy_bool ⟨H1,I1,q⟩
variable {tA tB':TT}{rest:List Expr}
noncomputable def RU(t u:TT):TT:=fun σ H Q=>t σ H fun c H1=>if c=true then u σ H1 Q else Q false H1
noncomputable def tOr(t u:TT):TT:=fun σ H Q=>t σ H fun c H1=>if c=true then Q true H1 else u σ H1 Q
def RJ(t:TT):TT:=fun σ H Q=>t σ H fun c H1=>Q (!c) H1
theorem mZ(ha:PT X a tA):PW X (.BoolOp .And [a] pos) tA:=by
 intro wh pins s σ H Q I h;refine isTrue_and (thn (ha pins s σ H Q I h) fun c s1 e=>?_);cases c with
 |true=>exact isTrue_and_nil e
 |false=>exact e
theorem sF(ha:PT X a tA):PW X (.BoolOp .Or [a] pos) tA:=by
 intro wh pins s σ H Q I h;refine isTrue_or (thn (ha pins s σ H Q I h) fun c s1 e=>?_);cases c with
 |false=>exact isTrue_or_nil e
 |true=>exact e
theorem oV(ha:PT X a tA)(hb:PW X (.BoolOp .And (b::rest) pos) tB'):PW X (.BoolOp .And (a::b::rest) pos) (RU tA tB'):=by
 intro wh pins s σ H Q I h;refine isTrue_and (thn (ha pins s σ H _ I h) fun c s1 ⟨H1,I1,q1⟩=>?_);cases c with
 |true=>exact hb wh pins s1 σ H1 Q I1 q1
 |false=>exact⟨H1,I1,q1⟩
theorem xU(ha:PT X a tA)(hb:PW X (.BoolOp .Or (b::rest) pos) tB'):PW X (.BoolOp .Or (a::b::rest) pos) (tOr tA tB'):=by
 intro wh pins s σ H Q I h;refine isTrue_or (thn (ha pins s σ H _ I h) fun c s1 ⟨H1,I1,q1⟩=>?_);cases c with
 |true=>exact⟨H1,I1,q1⟩
 |false=>exact hb wh pins s1 σ H1 Q I1 q1
theorem G1(ha:PT X a tA):PT X (.UnaryOp .Not a pos) (RJ tA):=by intro pins s σ H Q I h;exact isTrue_not (ha pins s σ H (fun c H1=>Q (!c) H1) I h)
noncomputable def MP(ta tb:TE):TE:=fun σ H Q=>ta σ H fun x H1=>∃c,x=.bl c/\if c=true then tb σ H1 Q else Q (.bl false) H1
def MJ(ta:TE):TE:=fun σ H Q=>ta σ H fun x H1=>∃c,x=.bl c/\Q (.bl (!c)) H1
theorem L5{op}{t:TE}(h:PE X a t):PE X (.BoolOp op [a] pos) t:=fun pins s σ H Q I hw=>BoolOp_one (h pins s σ H Q I hw)
theorem G9(ha:PE X a ta)(hb:PE X (.BoolOp .And (b::rest) pos) tb):PE X (.BoolOp .And (a::b::rest) pos) (MP ta tb):=by
 intro pins s σ H Q I h;refine BoolOp_and (thn (ha pins s σ H _ I h) fun v s1 ⟨x,H1,I1,r1,q1⟩=>?_);obtain⟨c,rfl,q1⟩:=q1;cases r1;refine wpAny_truthy_bool ?_;cases c with
 |true=>exact hb pins s1 σ H1 Q I1 q1
 |false=>exact⟨.bl false,H1,I1,rfl,q1⟩
theorem L6(ha:PE X a ta):PE X (.UnaryOp .Not a pos) (MJ ta):=by intro pins s σ H Q I h;refine UnaryOp_ (thn (ha pins s σ H _ I h) fun v s1 ⟨x,H1,I1,r1,q1⟩=>?_);obtain⟨c,rfl,q1⟩:=q1;cases r1;exact not_of (wpAny_truthy_bool ⟨.bl (!c),H1,I1,rfl,q1⟩)
noncomputable def tIf(t:TT)(ta tb:TE):TE:=fun σ H Q=>t σ H fun c H1=>if c=true then ta σ H1 Q else tb σ H1 Q
theorem G7{c:Expr}(hc:PT X c tA)(ha:PE X a ta)(hb:PE X b tb):PE X (.IfExp c a b pos) (tIf tA ta tb):=by
 intro pins s σ H Q I h;refine wpAny_IfExp (thn (hc pins s σ H _ I h) fun d s1 ⟨H1,I1,q1⟩=>?_);cases d with
 |true=>exact ha pins s1 σ H1 Q I1 q1
 |false=>exact hb pins s1 σ H1 Q I1 q1
end
end L2
namespace L2
open PySem PySem.Spec PyProof.Rows
noncomputable def SqL(K:W.Frag)(H:Hp)(a:Addr)(xs:List V):Prop:=
 Rd H a (.lst xs)\/
  ∃(o:Obj)(its:Array Value)(n:Nat),K.lookup a=some o/\o.cls=.type "list" /\o.dict=none/\o.data=.seq its n/\its.size<=sizeLine/\Vals xs its.toList
noncomputable def SqT(K:W.Frag)(H:Hp)(a:Addr)(xs:List V):Prop:=
 Rd H a (.tup xs)\/
  ∃(o:Obj)(its:Array Value)(n:Nat),K.lookup a=some o/\o.cls=.type "tuple" /\o.data=.seq its n/\its.size<=sizeLine/\Vals xs its.toList
noncomputable def W6:Value->Option V
 | .none=>some .non
 | .bool b=>some (.bl b)
 | .int i _=>some (.int i)
 | .str x _=>some (.str x)
 | .bytes b _=>some (.byt b)
 | .float b _=>some (.flt b)
 | .ref a=>some (.ref a)
 | .type n=>some (.ty n)
 |_=>none
theorem RelV.abs{x:V}{u:Value}(r:RelV x u):W6 u=some x:=by
 cases x with
 |non=>cases r;rfl
 |bl _=>cases r;rfl
 |int _=>obtain⟨t,rfl⟩:=r;rfl
 |str _=>obtain⟨t,rfl⟩:=r;rfl
 |byt _=>obtain⟨t,rfl⟩:=r;rfl
 |flt _=>obtain⟨t,rfl⟩:=r;rfl
 |ref _=>cases r;rfl
 |ty _=>cases r;rfl
theorem RelV.inj{x y:V}{u:Value}(r:RelV x u)(q:RelV y u):x=y:=Option.some.inj (r.abs.symm.trans q.abs)
theorem Vals.inj:∀{xs ys:List V}{us:List Value},Vals xs us->Vals ys us->xs=ys
 |_,_,_,.nil,.nil=>rfl
 |_,_,_,.cons r t,.cons r' t'=>by rw[r.inj r',Vals.inj t t']
section
variable {X:Cx}{pins:List (Addr×Obj)}{σ:St}{H:Hp}{s:Shared}{a:Addr}{xs ys:List V}
theorem SqL.of{K:W.Frag}(h:H a=some (.lst xs)):SqL K H a xs:=.inl (.inl h)
theorem SqT.of{K:W.Frag}(h:H a=some (.tup xs)):SqT K H a xs:=.inl (.inl h)
theorem Inv.list(I:Inv X pins σ H s)(h:SqL X.K H a xs):∃its:List Value,Vals xs its/\PlainL s.heap a its.toArray/\xs.length<=sizeLine:=by
 rcases h with h|⟨o,its,n,hk,hc,hd,hs,hz,r⟩
 ·obtain⟨z,its,n,r,e⟩:=h.ok I.hok;exact⟨its,r,⟨_,n,e,rfl,rfl,rfl⟩,z⟩
 ·refine⟨its.toList,r,⟨o,n,I.kIn a o hk,hc,hd,by simpa using hs⟩,?_⟩;have e:=r.length;simp only[Array.length_toList]at e;omega
theorem Inv.tuple(I:Inv X pins σ H s)(h:SqT X.K H a xs):∃its:List Value,Vals xs its/\IsTup s.heap a its.toArray/\xs.length<=sizeLine:=by
 rcases h with h|⟨o,its,n,hk,hc,hs,hz,r⟩
 ·obtain⟨z,its,r,p⟩:=h.ok I.hok;exact⟨its,r,p,z⟩
 ·refine⟨its.toList,r,⟨o,I.kIn a o hk,hc,n,by simpa using hs⟩,?_⟩;have e:=r.length;simp only[Array.length_toList]at e;omega
theorem Inv.yL(I:Inv X pins σ H s)(h:SqL X.K H a xs)(h':SqL X.K H a ys):xs=ys:=by
 obtain⟨its,r,⟨o,n,e,_,_,d⟩,_⟩:=I.list h;obtain⟨its',r',⟨o',n',e',_,_,d'⟩,_⟩:=I.list h';rw[e]at e';cases e';rw[d]at d';injection d' with d1 _
 have:its=its':=by simpa using congrArg Array.toList d1
 subst this;exact r.inj r'
theorem Inv.DD(I:Inv X pins σ H s)(h:SqT X.K H a xs)(h':SqT X.K H a ys):xs=ys:=by
 obtain⟨its,r,⟨o,e,_,n,d⟩,_⟩:=I.tuple h;obtain⟨its',r',⟨o',e',_,n',d'⟩,_⟩:=I.tuple h';rw[e]at e';cases e';rw[d]at d';injection d' with d1 _
 have:its=its':=by simpa using congrArg Array.toList d1
 subst this;exact r.inj r'
end
abbrev Cx.qV(X:Cx)(E:Value->Shared->Prop):Cx:={X with xe:=E}
abbrev Cx.nox(X:Cx):Cx:=X.qV fun _ _=>False
theorem Cx.Ok.qV{X:Cx}(ok:X.Ok)(E:Value->Shared->Prop):(X.qV E).Ok:=
 ⟨ok.mod,ok.kind,ok.glob,ok.blt,ok.above,ok.inj,ok.has,ok.cab,ok.hd,ok.frames,ok.stk,ok.exf,ok.bs,ok.bsz,ok.GH,ok.BH,ok.kJ,ok.frf⟩
theorem Cx.Ok.jW{X:Cx}{E:Value->Shared->Prop}(ok:(X.qV E).Ok):X.Ok:=
 ⟨ok.mod,ok.kind,ok.glob,ok.blt,ok.above,ok.inj,ok.has,ok.cab,ok.hd,ok.frames,ok.stk,ok.exf,ok.bs,ok.bsz,ok.GH,ok.BH,ok.kJ,ok.frf⟩
section
variable {X:Cx}{pins:List (Addr×Obj)}{σ:St}{H:Hp}{s:Shared}{E:Value->Shared->Prop}
theorem Inv.qV(I:Inv X pins σ H s)(E:Value->Shared->Prop):Inv (X.qV E) pins σ H s:=⟨I.ok.qV E,I.os,I.bare,I.base,I.loc,I.cell,I.free,I.gY,I.pin,I.hok,I.len⟩
theorem Inv.jW(I:Inv (X.qV E) pins σ H s):Inv X pins σ H s:=⟨I.ok.jW,I.os,I.bare,I.base,I.loc,I.cell,I.free,I.gY,I.pin,I.hok,I.len⟩
theorem SP.jW{D:Ends}{f:Flow}{s':Shared}(h:SP (X.qV E) pins D f s'):SP X pins D f s':=by
 cases f with
 |next=>obtain⟨σ',H',I,q⟩:=h;exact⟨σ',H',I.jW,q⟩
 |brk=>obtain⟨σ',H',I,q⟩:=h;exact⟨σ',H',I.jW,q⟩
 |cont=>obtain⟨σ',H',I,q⟩:=h;exact⟨σ',H',I.jW,q⟩
 |ret u=>obtain⟨v,σ',H',I,r,q⟩:=h;exact⟨v,σ',H',I.jW,r,q⟩
theorem PSs.nox{st:List Stmt}{t:TS}(h:PSs X.nox st t):PSs X st t:=fun pins s σ H D I hw=>
 wpAny_mono (h pins s σ H D (I.qV _) hw) (fun _ _ q=>q.jW) fun _ _ z=>False.elim z
end
section
variable {X:Cx}{st:Stmt}{rest:List Stmt}{t u:TS}{e:Expr}{te:TE}{pos:Pos}
def MK:TS:=fun D σ H=>D.nx σ H
def FP(t u:TS):TS:=fun D σ H=>t {D with nx:=u D} σ H
theorem bJ:PSs X [] MK:=fun _ _ σ H _ I h=>wpAny_execs_nil ⟨σ,H,I,h⟩
theorem aB(h1:PS X st t)(h2:PSs X rest u):PSs X (st::rest) (FP t u):=by
 intro pins s σ H D I h;refine wpAny_execs_cons (thn (h1 pins s σ H {D with nx:=u D} I h) fun f s1 q=>?_);cases f with
 |next=>obtain⟨σ',H',I',q⟩:=q;exact h2 pins s1 σ' H' D I' q
 |ret v=>exact q
 |brk=>exact q
 |cont=>exact q
theorem aD(h1:PS X st t):PSs X [st] t:=by
 intro pins s σ H D I h;refine wpAny_execs_cons (thn (h1 pins s σ H D I h) fun f s1 q=>?_);cases f with
 |next=>exact wpAny_execs_nil q
 |ret v=>exact q
 |brk=>exact q
 |cont=>exact q
theorem Inv.quiet{pins:List (Addr×Obj)}{σ:St}{H:Hp}{s:Shared}(I:Inv X pins σ H s):interactive X.env=false:=by simp[interactive,I.ok.kind]
def MN(te:TE):TS:=fun D σ H=>te σ H fun _ H1=>D.nx σ H1
theorem dC(he:PE X e te)(hs:swapsWith e none pos.line X.env=pure false:=by rfl):PS X (.Expr e pos) (MN te):=by intro pins s σ H D I h;exact wpAny_Expr_any (thn (he pins s σ H _ I h) fun v s1 ⟨x,H1,I1,r1,q1⟩=>⟨σ,H1,I1,q1⟩) I.quiet hs
def RI(te:TE):TS:=fun D σ H=>te σ H D.rt
theorem aR(he:PE X e te):PS X (.Return (some e) pos) (RI te):=by intro pins s σ H D I h;exact wpAny_Return_some (thn (he pins s σ H _ I h) fun v s1 ⟨x,H1,I1,r1,q1⟩=>⟨x,σ,H1,I1,r1,q1⟩)
noncomputable def RL(c:TT)(t u:TS):TS:=fun D σ H=>c σ H fun b H1=>if b=true then t D σ H1 else u D σ H1
theorem cR{c:Expr}{a b:List Stmt}{tc:TT}(hc:PT X c tc)(ha:PSs X a t)(hb:PSs X b u):PS X (.If c a b pos) (RL tc t u):=by
 intro pins s σ H D I h;refine wpAny_If (thn (hc pins s σ H _ I h) fun d s1 ⟨H1,I1,q1⟩=>?_);cases d with
 |true=>exact ha pins s1 σ H1 D I1 q1
 |false=>exact hb pins s1 σ H1 D I1 q1
end
abbrev TG:=V->St->Hp->(St->Hp->Prop)->Prop
abbrev TGs:=List V->St->Hp->(St->Hp->Prop)->Prop
noncomputable def PG(X:Cx)(target:Expr)(t:TG):Prop:=
 ∀(pins:List (Addr×Obj))(s:Shared)(σ:St)(H:Hp)(v:V)(u:Value)(Q:St->Hp->Prop),Inv X pins σ H s->RelV v u->t v σ H Q ->
  wpAny (model X.prog X.w) X.A (assign target X.env u) (fun _ s'=>∃σ' H',Inv X pins σ' H' s'/\Q σ' H') X.xe s
noncomputable def PGs(X:Cx)(ts:List Expr)(t:TGs):Prop:=
 ∀(pins:List (Addr×Obj))(s:Shared)(σ:St)(H:Hp)(vs:List V)(us:List Value)(Q:St->Hp->Prop),Inv X pins σ H s->Vals vs us->t vs σ H Q ->
  wpAny (model X.prog X.w) X.A (assignInOrder ((assignEach ts X.env).map (·.2)) us) (fun _ s'=>∃σ' H',Inv X pins σ' H' s'/\Q σ' H') X.xe s
abbrev TIp:=V->V->Hp->VK->Prop
noncomputable def PIp(X:Cx)(op:Operator)(t:TIp):Prop:=
 ∀(pins:List (Addr×Obj))(s:Shared)(σ:St)(H:Hp)(x y:V)(v u:Value)(Q:VK),Inv X pins σ H s->RelV x v->RelV y u->t x y H Q ->
  wpAny (model X.prog X.w) X.A (inplaceOp op v u) (EP X pins σ Q) X.xe s
section
variable {X:Cx}{pos:Pos}
def kI(i:Nat):TG:=fun v σ H Q=>Q (σ.set i (some v)) H
theorem aL{i:Nat}{x:Str}(hN:X.N.Nodup)(hi:X.N[i]? =some x)(hx:Loc X.env.scope x)(hf:X.fn x=true\/X.env.scope.names.lookup x=some .local:=by first|exact .inl rfl|exact .inr rfl|assumption):PG X (.Name x pos) (kI i):=by intro pins s σ H v u Q I r h;exact wpAny_assign_Name (rO I hN hi hx r (fun s' I'=>⟨_,H,I',h⟩) hf)
def W2:TGs:=fun vs σ H Q=>vs=[]/\Q σ H
noncomputable def R4(t:TG)(u:TGs):TGs:=fun vs σ H Q=>∃v r,vs=v::r/\t v σ H fun σ' H'=>u r σ' H' Q
theorem fJ:PGs X [] W2:=by intro pins s σ H vs us Q I r h;obtain⟨e,h⟩:=h;subst e;cases r;exact assignInOrder_nil ⟨σ,H,I,h⟩
theorem bE{e:Expr}{es:List Expr}{t:TG}{u:TGs}(h1:PG X e t)(h2:PGs X es u)
  (hs:(assignEach (e::es) X.env).map (·.2)=assign e X.env::(assignEach es X.env).map (·.2):=by rfl):PGs X (e::es) (R4 t u):=by
 intro pins s σ H vs us Q I r h;obtain⟨v,vr,e1,h⟩:=h;subst e1;cases r with
 |cons r rr=>rw[hs];refine assignInOrder_cons (thn (h1 pins s σ H _ _ _ I r h) fun _ s1 ⟨σ1,H1,I1,q1⟩=>?_);exact h2 pins s1 σ1 H1 _ _ Q I1 rr q1
noncomputable def W0(K:W.Frag)(n:Nat)(t:TGs):TG:=fun v σ H Q=>∃a xs,v=.ref a/\SqT K H a xs/\xs.length=n/\t xs σ H Q
theorem kA{es:List Expr}{k:Nat}{t:TGs}{n:Nat}(hc:X.calm=true)(h:PGs X es t)
  (hn:(assignEach es X.env).length=n:=by rfl) (hst:(assignEach es X.env).findIdx? (·.1)=none:=by rfl):PG X (.Tuple es k pos) (W0 X.K n t):=by
 intro pins s σ H v u Q I r hw;obtain⟨a,xs,e1,hq,hl,hw⟩:=hw;subst e1;cases r;obtain⟨its,rv,ht,hz⟩:=I.tuple hq;refine assign_Tuple_tuple (I.ok.hd hc) ht (by simp[hn,<- hl,rv.length]) hst fun h' hx=>?_
 have I1:Inv X pins σ H {s with heap:=h'}:=I.kept (t':=s.toks) fun b o e=>hx b o (Nat.ne_of_lt (Heap.lt_size e)) e
 exact h pins _ σ H xs _ Q I1 (by simpa using rv) hw
def DJ(te:TE)(g:TG):TS:=fun D σ H=>te σ H fun x H1=>g x σ H1 D.nx
theorem wH{tg e:Expr}{te:TE}{g:TG}(he:PE X e te)(hg:PG X tg g)(hs:swapsWithSole [tg] e pos.line X.env=pure false:=by rfl)(hw:swappedStores [tg] e X.env=pure none:=by rfl)
  (h1:(assignEach [tg] X.env).map (·.2)=[assign tg X.env]:=by rfl):PS X (.Assign [tg] e pos) (DJ te g):=by
 intro pins s σ H D I h;refine wpAny_Assign_stores (thn (he pins s σ H _ I h) fun v s1 ⟨x,H1,I1,r1,q1⟩=>?_) hs hw;rw[h1];exact thn (hg pins s1 σ H1 x v _ I1 r1 q1) fun _ s2 q=>q
theorem aP{i:Nat}{x:Str}{e:Expr}{te:TE}{pos':Pos}(hN:X.N.Nodup)(hi:X.N[i]? =some x)(hx:Loc X.env.scope x)(he:PE X e te)(hs:swapsWith e (some (.Name x pos')) pos.line X.env=pure false:=by rfl)(hf:X.fn x=true\/X.env.scope.names.lookup x=some .local:=by first|exact .inl rfl|exact .inr rfl|assumption):
  PS X (.Assign [.Name x pos'] e pos) (DJ te (kI i)):=by
 intro pins s σ H D I h;refine wpAny_Assign_Name (thn (he pins s σ H _ I h) fun v s1 ⟨y,H1,I1,r1,q1⟩=>?_) hs;exact rO I1 hN hi hx r1 (fun s2 I2=>⟨_,H1,I2,q1⟩) hf
noncomputable def RR(i:Nat)(te:TE)(ti:TIp):TS:=fun D σ H=>∃x,σ[i]? =some (some x)/\te σ H fun y H1=>ti x y H1 fun z H2=>D.nx (σ.set i (some z)) H2
theorem G2{i:Nat}{x:Str}{e:Expr}{te:TE}{op:Operator}{ti:TIp}{pos':Pos}(hN:X.N.Nodup)(hi:X.N[i]? =some x)(hx:Loc X.env.scope x)(he:PE X e te)(ho:PIp X op ti)(hf:X.fn x=true\/X.env.scope.names.lookup x=some .local:=by first|exact .inl rfl|exact .inr rfl|assumption):
  PS X (.AugAssign (.Name x pos') op e pos) (RR i te ti):=by
 intro pins s σ H D I h;obtain⟨v,e1,h⟩:=h;obtain⟨m,hn,hl⟩:=I.loc;have vis:Vis X.env.scope x:=by rcases hx with k|k;exact .inl k;exact .inr (.inl k)
 obtain⟨u,r,l⟩:=hl i x v hi e1 vis;refine wpAny_AugAssign_Name ?_;have go:wpAny (model X.prog X.w) X.A (eval e X.env) (fun w s₂=>wpAny (model X.prog X.w) X.A (inplaceOp op u w) (fun r s₃=>wpAny (model X.prog X.w) X.A (storeName X.env x r) (fun _=>SP X pins D .next) X.xe s₃) X.xe s₂) X.xe s:=by
  refine thn (he pins s σ H _ I h) fun w s1 ⟨y,H1,I1,r1,q1⟩=>?_
  refine thn (ho pins s1 σ H1 v y u w _ I1 r r1 q1) fun z s2 ⟨zv,H2,I2,r2,q2⟩=>?_
  exact rO I2 hN hi hx r2 (fun s3 I3=>⟨_,H2,I3,q2⟩) hf
 rcases l with⟨hk,hm⟩|⟨hk,c,hc,hcell⟩
 ·exact wpAny_loadName_local I.ok.kind hk hn hm go
 ·rcases hk with hk|hk
  ·exact wpAny_loadName_cell I.ok.kind hk hc hcell go
  ·rcases hx with k|k
   ·have:X.env.scope.names.lookup x=some .free:=hk;rw[k]at this;cases this
   ·have:X.env.scope.names.lookup x=some .free:=hk;rw[k]at this;cases this
noncomputable def ipI(f:Int->Int->Int):TIp:=fun x y H Q=>∃i j,x=.int i/\y=.int j/\Q (.int (f i j)) H
theorem GX:PIp X .Add (ipI fun i j=>i+j):=by intro pins s σ H x y v u Q I r1 r2 h;obtain⟨i,j,e1,e2,q⟩:=h;subst e1;subst e2;obtain⟨t,rfl⟩:=r1;obtain⟨t',rfl⟩:=r2;exact iadd_int ⟨.int _,H,I.tok _,⟨_,rfl⟩,q⟩
end
section
variable {X:Cx}{pos:Pos}
noncomputable def FO(c:TT)(tb:TS):TS:=fun D σ H=>∃W:Nat->St->Hp->Prop,(∃m,W m σ H)/\∀m σ H,W m σ H ->
 c σ H fun b H1=>if b=true then∃N:St->Hp->Prop,(∀σ' H',N σ' H'->∃m',m'<m/\W m' σ' H')/\tb {D with nx:=N,ct:=N,bk:=D.nx} σ H1 else D.nx σ H1
theorem n4{c:Expr}{body:List Stmt}{tc:TT}{tb:TS}(hp:PassesOwn (model X.prog X.w) X.A X.env X.xe)(hc:PT X c tc)(hb:PSs X body tb):PS X (.While c body [] pos) (FO tc tb):=by
 intro pins s σ H D I h;obtain⟨W,⟨m0,w0⟩,turn⟩:=h;refine wpAny_While (codeAny_whileLoop (fun n s'=>∃σ' H',Inv X pins σ' H' s'/\W n σ' H') ?_ m0 ⟨σ,H,I,w0⟩);rintro n s1 ⟨σ1,H1,I1,w1⟩;refine wpAny_passesOwn hp (thn (hc pins s1 σ1 H1 _ I1 (turn n σ1 H1 w1)) fun b s2 ⟨H2,I2,q2⟩=>?_);cases b with
 |true=>
  obtain⟨N,hN,q2⟩:=q2;rw[if_pos rfl];refine wpAny_passesOwn hp (thn (hb pins s2 σ1 H2 _ I2 q2) fun f s3 q3=>?_);cases f with
  |next=>obtain⟨σ3,H3,I3,n3⟩:=q3;obtain⟨m',hm,w3⟩:=hN σ3 H3 n3;exact⟨m',hm,σ3,H3,I3,w3⟩
  |cont=>obtain⟨σ3,H3,I3,n3⟩:=q3;obtain⟨m',hm,w3⟩:=hN σ3 H3 n3;exact⟨m',hm,σ3,H3,I3,w3⟩
  |brk=>exact q3
  |ret v=>exact q3
 |false=>rw[if_neg Bool.false_ne_true];exact wpAny_execs_nil ⟨σ1,H2,I2,q2⟩
end
structure It where
 go:Nat->Hp->Prop
 yld:Nat->Hp->V->Hp->Prop
 stop:Nat->Hp->Prop
noncomputable def mQ(X:Cx)(pins:List (Addr×Obj))(H:Hp)(b:Addr):Prop:=
 H b=none/\b≠X.env.locals/\b∉X.fs/\(b∈X.ex\/X.s_0.heap.objs.size<=b)/\(∀x c,X.env.cells.lookup x=some c->c≠b)/\∀p∈X.pn++pins,p.1≠b
theorem Inv.BC{X:Cx}{pins:List (Addr×Obj)}{σ:St}{H H':Hp}{s:Shared}{b:Addr}(I:Inv X pins σ H s)(hb:s.heap.objs.size<=b)(hn:H' b=none):mQ X pins H' b:=by
 refine⟨hn,Nat.ne_of_gt (Nat.lt_of_lt_of_le I.lt hb),I.VW hb,.inr (Nat.le_trans I.sz hb),fun x c e z=>?_,fun p hp z=>?_⟩
 ·obtain⟨v,q⟩:=I.cell x c e;exact absurd (Nat.lt_of_lt_of_le q.lt (by rw[z];exact hb)) (Nat.lt_irrefl _)
 ·exact absurd (Nat.lt_of_lt_of_le (Heap.lt_size (I.pin p hp).1) (by rw[z];exact hb)) (Nat.lt_irrefl _)
structure Turn(P:Program)(w:World)(K:W.Frag)(tg:Expr)(J:It)(fp:List Addr)(it:Addr)(tn:Nat->Heap->Prop):Prop where
 mem:it∈fp
 obj:∀i h,tn i h->∀b∈fp,∃o,h.get? b=some o/\∀v,o.data≠ .cell v
 keep:∀i h h',tn i h->(∀b∈fp,∀o,h.get? b=some o->h'.get? b=some o)->tn i h'
 item:∀(X:Cx),X.prog=P->X.w=w->X.K=K->X.calm=true->∀(i:Nat)(pins:List (Addr×Obj))(s:Shared)(σ:St)(H:Hp)(E:Value->Shared->Prop),Inv X pins σ H s->(∀b∈fp,mQ X pins H b)->tn i s.heap->J.go i H ->
  wpAny (model P w) X.A (pyNext (.ref it)) (fun r s1=>∃u,r=some u/\
   wpAny (model P w) X.A (letOwnedTupleGo tg (.ref it) u) (fun _ s2=>∃x H',Inv X pins σ H' s2/\RelV x u/\J.yld i H x H'/\tn (i+1) s2.heap/\∀b∈fp,H' b=none) E s1) E s
 done:∀(X:Cx),X.prog=P->X.w=w->X.K=K->X.calm=true->∀(i:Nat)(pins:List (Addr×Obj))(s:Shared)(σ:St)(H:Hp)(E:Value->Shared->Prop),Inv X pins σ H s->(∀b∈fp,mQ X pins H b)->tn i s.heap->J.stop i H ->
  wpAny (model P w) X.A (pyNext (.ref it)) (fun r s1=>r=none/\Inv X pins σ H s1) E s
 self:∀(A:Around)(i:Nat)(s:Shared)(Q:Value->Shared->Prop)(E:Value->Shared->Prop),tn i s.heap->Q (.ref it) s->wpAny (model P w) A (pyIter (.ref it)) Q E s
abbrev TI:=St->Hp->(It->Hp->Prop)->Prop
noncomputable def PIE(X:Cx)(pins:List (Addr×Obj))(σ:St)(tg:Expr)(R:It->Hp->Prop)(itv:Value)(s2:Shared):Prop:=
 ∃(it:Addr)(fp:List Addr)(tn:Nat->Heap->Prop)(J:It)(H':Hp),itv=.ref it/\Inv X pins σ H' s2/\Turn X.prog X.w X.K tg J fp it tn/\tn 0 s2.heap/\(∀b∈fp,mQ X pins H' b)/\R J H'
noncomputable def PI(X:Cx)(tg iter:Expr)(wi:TI):Prop:=
 ∀(pins:List (Addr×Obj))(s:Shared)(σ:St)(H:Hp)(R:It->Hp->Prop),Inv X pins σ H s->wi σ H R ->
  wpAny (model X.prog X.w) X.A (eval iter X.env) (fun v s1=>wpAny (model X.prog X.w) X.A (pyIter v) (PIE X pins σ tg R) X.xe s1) X.xe s
theorem z9{M:Model}{A:Around}{E:Value->Shared->Prop}{s:Shared}{tg:Expr}{it:Addr}{u:Value}{o:Obj}{n:String}{vs:Array Value}{Q:Unit->Shared->Prop}(ho:s.heap.get? it=some o)(hc:o.cls=.type n)(hd:o.data=.fields vs)
  (hn:["enumerate","zip","dict_itemiterator","dict_reverseitemiterator","odict_iterator","itertools.zip_longest","itertools.pairwise"].contains n=false) (hQ:Q () s):wpAny M A (letOwnedTupleGo tg (.ref it) u) Q E s:=by
 unfold letOwnedTupleGo;cases tg<;>first
  |exact wpAny_pure hQ
  |(cases u<;>first
    |exact wpAny_pure hQ
    |(refine wpAny_bind (wpAny_load ho ?_);rw[hc,hd];show wpAny M A (if(["enumerate","zip","dict_itemiterator","dict_reverseitemiterator","odict_iterator","itertools.zip_longest","itertools.pairwise"].contains n&& vs[0]? ==some (rawInt _))=true then _ else _) Q E s;rw[if_neg (by intro h;rw[hn,Bool.false_and]at h;cases h)];exact wpAny_pure hQ))
noncomputable def Itl(K:W.Frag)(a:Addr):It:=
 ⟨fun i H=>∃xs x,SqL K H a xs/\xs[i]? =some x,fun i H x H'=>H'=H/\∀xs,SqL K H a xs->xs[i]? =some x,fun i H=>∃xs,SqL K H a xs/\xs.length<=i⟩
noncomputable def Itt(K:W.Frag)(a:Addr):It:=
 ⟨fun i H=>∃xs x,SqT K H a xs/\xs[i]? =some x,fun i H x H'=>H'=H/\∀xs,SqT K H a xs->xs[i]? =some x,fun i H=>∃xs,SqT K H a xs/\xs.length<=i⟩
noncomputable def Itr(lo:Int)(n:Nat):It:=⟨fun i _=>i<n,fun i H x H'=>H'=H/\x=.int (lo+i),fun i _=>n<=i⟩
theorem DA{P:Program}{w:World}{K:W.Frag}{tg:Expr}(a it:Addr):Turn P w K tg (Itl K a) [it] it (fun i h=>h.IsListIter it a i) where
 mem:=by simp
 obj:=fun i h st b hb=>by
  have e:b=it:=by simpa using hb
  subst e;obtain⟨o,e,c,d⟩:=st;exact⟨o,e,fun v z=>by rw[d]at z;cases z⟩
 keep:=fun i h h' st k=>st.at fun o e=>k it (by simp) o e
 item:=by
  intro X hP hw hK hc i pins s σ H E I hf st hg;subst hP hw hK;obtain⟨xs,x,hq,hx⟩:=hg;obtain⟨its,rv,p,hz⟩:=I.list hq;obtain⟨u,hu,ru⟩:=rv.get hx;obtain⟨f0,f1,f2,f3,f4,f5⟩:=hf it (by simp);refine wpAny_pyNext_list_item st p.isList (x:=u) (by simpa using hu) fun h' st' sb=>?_
  have I1:Inv X pins σ H {s with heap:=h'}:=I.turned (t':=s.toks) (fun b o hb e=>(sb.2 b hb).trans e) f0 f1 f3 f4 f5;obtain⟨o,e,c,d⟩:=id st';exact⟨u,rfl,z9 (s:={s with heap:=h'}) e c d (by decide) ⟨x,H,I1,ru,⟨rfl,fun ys hy=>by rw[I.yL hy hq];exact hx⟩,st',fun b hb=>(hf b hb).1⟩⟩
 done:=by intro X hP hw hK hc i pins s σ H E I hf st hg;subst hP hw hK;obtain⟨xs,hq,hx⟩:=hg;obtain⟨its,rv,p,hz⟩:=I.list hq;obtain⟨f0,f1,f2,f3,f4,f5⟩:=hf it (by simp);have hl:=rv.length;exact wpAny_pyNext_list_end (I.ok.hd hc) st p.isList (by simp;omega) fun h' eb=>⟨rfl,I.turned (t':=s.toks) (fun b o hb e=>eb b o hb e) f0 f1 f3 f4 f5⟩
 self:=fun _ _ _ _ _ st h=>wpAny_pyIter_listiter st h
theorem zY{P:Program}{w:World}{K:W.Frag}{tg:Expr}(a it:Addr):Turn P w K tg (Itt K a) [it] it (fun i h=>h.IsTupleIter it a i) where
 mem:=by simp
 obj:=fun i h st b hb=>by
  have e:b=it:=by simpa using hb
  subst e;obtain⟨o,e,c,d⟩:=st;exact⟨o,e,fun v z=>by rw[d]at z;cases z⟩
 keep:=fun i h h' st k=>st.at fun o e=>k it (by simp) o e
 item:=by
  intro X hP hw hK hc i pins s σ H E I hf st hg;subst hP hw hK;obtain⟨xs,x,hq,hx⟩:=hg;obtain⟨its,rv,p,hz⟩:=I.tuple hq;obtain⟨u,hu,ru⟩:=rv.get hx;obtain⟨f0,f1,f2,f3,f4,f5⟩:=hf it (by simp);refine wpAny_pyNext_tuple_item st (show s.heap.IsTuple a its.toArray from p) (x:=u) (by simpa using hu) fun h' st' sb=>?_
  have I1:Inv X pins σ H {s with heap:=h'}:=I.turned (t':=s.toks) (fun b o hb e=>(sb.2 b hb).trans e) f0 f1 f3 f4 f5;obtain⟨o,e,c,d⟩:=id st';exact⟨u,rfl,z9 (s:={s with heap:=h'}) e c d (by decide) ⟨x,H,I1,ru,⟨rfl,fun ys hy=>by rw[I.DD hy hq];exact hx⟩,st',fun b hb=>(hf b hb).1⟩⟩
 done:=by intro X hP hw hK hc i pins s σ H E I hf st hg;subst hP hw hK;obtain⟨xs,hq,hx⟩:=hg;obtain⟨its,rv,p,hz⟩:=I.tuple hq;obtain⟨f0,f1,f2,f3,f4,f5⟩:=hf it (by simp);have hl:=rv.length;exact wpAny_pyNext_tuple_end (I.ok.hd hc) st (show s.heap.IsTuple a its.toArray from p) (by simp;omega) fun h' eb=>⟨rfl,I.turned (t':=s.toks) (fun b o hb e=>eb b o hb e) f0 f1 f3 f4 f5⟩
 self:=fun _ _ _ _ _ st h=>wpAny_pyIter_tupleiter st h
theorem zZ{P:Program}{w:World}{K:W.Frag}{tg:Expr}(it:Addr)(lo:Int)(n:Nat):Turn P w K tg (Itr lo n) [it] it (fun i h=>IsRangeIter h it (lo+(i:Nat)*1) ((n:Int) - (i:Nat)) 1) where
 mem:=by simp
 obj:=fun i h st b hb=>by
  have e:b=it:=by simpa using hb
  subst e;exact⟨_,st,fun v z=>by
   have z':Data.fields _=Data.cell v:=z;cases z'⟩
 keep:=fun i h h' st k=>k it (by simp) _ st
 item:=by
  intro X hP hw hK hc i pins s σ H E I hf st hg;subst hP hw hK;obtain⟨f0,f1,f2,f3,f4,f5⟩:=hf it (by simp);have W:=Walks.range (prog:=X.prog) (w:=X.w) (I.ok.hd hc) it lo 1 n;refine W.item i s _ _ hg st fun v h' tk hv st' kk=>?_
  obtain⟨t,rfl⟩:=hv;have I1:Inv X pins σ H {s with heap:=h',toks:=tk}:=I.turned (fun b o hb e=>kk b o (by simpa using hb) e) f0 f1 f3 f4 f5;refine⟨_,rfl,z9 (s:={s with heap:=h',toks:=tk}) (n:= "range_iterator") st' rfl rfl (by decide) ⟨.int (lo+i),H,I1,⟨t,?_⟩,⟨rfl,rfl⟩,st',fun b hb=>(hf b hb).1⟩⟩;rw[Int.mul_one]
 done:=by intro X hP hw hK hc i pins s σ H E I hf st hg;subst hP hw hK;obtain⟨f0,f1,f2,f3,f4,f5⟩:=hf it (by simp);exact wpAny_pyNext_range_end (I.ok.hd hc) st (by have:n<=i:=hg;omega) fun h' eb=>⟨rfl,I.turned (t':=s.toks) (fun b o hb e=>eb b o hb e) f0 f1 f3 f4 f5⟩
 self:=fun _ _ _ _ _ st h=>wpAny_pyIter_rangeiter st h
end L2
namespace L2
open PySem PySem.Spec PyProof.Rows
section
variable {X:Cx}{tg:Expr}
noncomputable def QY(K:W.Frag)(tl:TE):TI:=fun σ H R=>tl σ H fun x H1=>∃a,x=.ref a/\(∃xs,SqL K H1 a xs)/\R (Itl K a) H1
noncomputable def VZ(K:W.Frag)(tl:TE):TI:=fun σ H R=>tl σ H fun x H1=>∃a,x=.ref a/\(∃xs,SqT K H1 a xs)/\R (Itt K a) H1
theorem cS{l:Expr}{tl:TE}(hl:PE X l tl):PI X tg l (QY X.K tl):=by
 intro pins s σ H R I h;refine thn (hl pins s σ H _ I h) fun v s1 ⟨x,H1,I1,r1,q1⟩=>?_
 obtain⟨a,e,⟨xs,hq⟩,q⟩:=q1;subst e;cases r1;obtain⟨its,rv,p,hz⟩:=I1.list hq;refine wpAny_pyIter_list p.isList ?_;refine⟨s1.heap.objs.size,[s1.heap.objs.size],_,_,H1,rfl,I1.kept (t':=s1.toks) fun b o e=>Heap.get?_push_of_some _ e,DA a _,⟨_,Heap.get?_push_size _ rfl,rfl,rfl⟩,fun b hb=>?_,q⟩;have e:b=s1.heap.objs.size:=by simpa using hb
 subst e;exact I1.BC (Nat.le_refl _) (I1.hok.fresh (Nat.le_refl _))
theorem k9{l:Expr}{tl:TE}(hl:PE X l tl):PI X tg l (VZ X.K tl):=by
 intro pins s σ H R I h;refine thn (hl pins s σ H _ I h) fun v s1 ⟨x,H1,I1,r1,q1⟩=>?_
 obtain⟨a,e,⟨xs,hq⟩,q⟩:=q1;subst e;cases r1;obtain⟨its,rv,p,hz⟩:=I1.tuple hq;refine wpAny_pyIter_tuple (show s1.heap.IsTuple a its.toArray from p) ?_;refine⟨s1.heap.objs.size,[s1.heap.objs.size],_,_,H1,rfl,I1.kept (t':=s1.toks) fun b o e=>Heap.get?_push_of_some _ e,zY a _,⟨_,Heap.get?_push_size _ rfl,rfl,rfl⟩,fun b hb=>?_,q⟩;have e:b=s1.heap.objs.size:=by simpa using hb
 subst e;exact I1.BC (Nat.le_refl _) (I1.hok.fresh (Nat.le_refl _))
theorem xR{pins:List (Addr×Obj)}{σ:St}{H:Hp}{s:Shared}{R:It->Hp->Prop}{E:Value->Shared->Prop}{lo hi:Int}{t u v:Tok}{tk:Nat}(I:Inv X pins σ H s)(h1:-(2^62)<=lo)(h2:lo<2^62)(h3:-(2^62)<=hi)(h4:hi<2^62)
  (q:R (Itr lo (hi - lo).toNat) H):wpAny (model X.prog X.w) X.A (pyIter (.ref s.heap.objs.size)) (PIE X pins σ tg R) E {s with heap:=s.heap.push {cls:=.type "range",data:=.fields #[.int lo t,.int hi u,.int 1 v]},toks:=tk}:=by
 refine wpAny_pyIter_range (IsRange.new ..) (small_one h1 h2 h3 h4) ?_;have I1:Inv X pins σ H {s with heap:=s.heap.push {cls:=.type "range",data:=.fields #[.int lo t,.int hi u,.int 1 v]},toks:=tk}:=I.kept fun b o e=>Heap.get?_push_of_some _ e
 refine⟨(s.heap.push {cls:=.type "range",data:=.fields #[.int lo t,.int hi u,.int 1 v]}).objs.size,[(s.heap.push {cls:=.type "range",data:=.fields #[.int lo t,.int hi u,.int 1 v]}).objs.size],_,_,H,rfl,
  I1.kept (t':=tk) fun b o e=>Heap.get?_push_of_some _ e,zZ _ lo (hi - lo).toNat,?_,fun b hb=>?_,q⟩
 ·have e1:lo+((0:Nat):Int)*1=lo:=by simp
  have e2:(((hi - lo).toNat:Nat):Int) - ((0:Nat):Int)=Builtin.Range.rangeSize lo hi 1:=by rw[rangeSize_one];split<;>omega
  show IsRangeIter _ _ (lo+((0:Nat):Int)*1) ((((hi - lo).toNat:Nat):Int) - ((0:Nat):Int)) 1
  rw[e1,e2];exact Heap.get?_push_size _ rfl
 ·have e:b=(s.heap.push {cls:=.type "range",data:=.fields #[.int lo t,.int hi u,.int 1 v]}).objs.size:=by simpa using hb
  subst e;exact I1.BC (Nat.le_refl _) (I1.hok.fresh (Nat.le_refl _))
noncomputable def QX(ta:TA):TI:=fun σ H R=>ta σ H fun vs H1=>∃j:Int,vs=[.int j]/\-(2^62)<=j/\j<2^62/\R (Itr 0 j.toNat) H1
noncomputable def QW(ta:TA):TI:=fun σ H R=>ta σ H fun vs H1=>∃i j:Int,vs=[.int i,.int j]/\(-(2^62)<=i/\i<2^62/\-(2^62)<=j/\j<2^62)/\R (Itr i (j - i).toNat) H1
theorem uS{a:Expr}{ta:TA}{p pos:Pos}(hg:Gl X "range")(hm:X.mg "range" =none)(ha:PA X [a] ta)(hs:starEach [a] X.env=[(false,eval a X.env)]:=by rfl):PI X tg (.Call (.Name "range" p) [a] [] pos) (QX ta):=by
 intro pins s σ H R I h;refine Call_ (mE I hg hm boot_range (PyProof.Rows.callWith_type1 (thn (ha pos pins s σ H _ I h) fun us s1 ⟨vs,H1,I1,r1,q1⟩=>?_) hs rfl));obtain⟨j,e,q1,q2,q⟩:=q1;subst e;cases r1 with
 |cons r rr=>cases rr;obtain⟨t,rfl⟩:=r;exact call_range_1 (xR I1 (by omega) (by omega) q1 q2 (by simpa using q))
theorem DT{a b:Expr}{ta:TA}{p pos:Pos}(hg:Gl X "range")(hm:X.mg "range" =none)(ha:PA X [a,b] ta)(hs:starEach [a,b] X.env=[(false,eval a X.env),(false,eval b X.env)]:=by rfl)(hs2:starEach [b] X.env=[(false,eval b X.env)]:=by rfl):
  PI X tg (.Call (.Name "range" p) [a,b] [] pos) (QW ta):=by
 intro pins s σ H R I h;refine Call_ (mE I hg hm boot_range (PyProof.Rows.callWith_type1 (thn (ha pos pins s σ H _ I h) fun us s1 ⟨vs,H1,I1,r1,q1⟩=>?_) (by rw[hs,hs2]) (by rw[hs2];rfl)));obtain⟨i,j,e,⟨q1,q2,q3,q4⟩,q⟩:=q1;subst e;cases r1 with
 |cons r rr=>
  cases rr with
  |cons r' rr=>cases rr;obtain⟨t,rfl⟩:=r;obtain⟨t',rfl⟩:=r';exact call_range_2 (xR I1 q1 q2 q3 q4 q)
noncomputable def RN(wi:TI)(g:TG)(tb:TS):TS:=fun D σ H=>wi σ H fun J H1=>∃W:Nat->Nat->St->Hp->Prop,(∃m,W 0 m σ H1)/\∀i m σ H,W i m σ H ->
 (J.stop i H/\D.nx σ H)\/(J.go i H/\∃N:St->Hp->Prop,(∀σ' H',N σ' H'->∃m',m'<m/\W (i+1) m' σ' H')/\∀x H',J.yld i H x H'->g x σ H' fun σ2 H2=>tb {D with nx:=N,ct:=N,bk:=D.nx} σ2 H2)
noncomputable def oY(fp:List Addr)(h:Heap):List (Addr×Obj):=fp.filterMap fun b=>(h.get? b).map fun o=>(b,o)
theorem jB{fp:List Addr}{h:Heap}{b:Addr}{o:Obj}(hb:b∈fp)(e:h.get? b=some o):(b,o)∈oY fp h:=List.mem_filterMap.mpr ⟨b,hb,by rw[e];rfl⟩
theorem DU{fp:List Addr}{h:Heap}{p:Addr×Obj}(hp:p∈oY fp h):p.1∈fp/\h.get? p.1=some p.2:=by
 obtain⟨b,hb,e⟩:=List.mem_filterMap.mp hp;cases q:h.get? b with
 |none=>rw[q]at e;cases e
 |some o=>rw[q]at e;have e':(b,o)=p:=Option.some.inj e;subst e';exact⟨hb,q⟩
theorem Inv.pinned{pins:List (Addr×Obj)}{σ:St}{H:Hp}{s:Shared}{fp:List Addr}(I:Inv X pins σ H s)(hf:∀b∈fp,mQ X pins H b)(ho:∀b∈fp,∃o,s.heap.get? b=some o/\∀v,o.data≠ .cell v):Inv X (pins++oY fp s.heap) σ H s:=
 I.C4 fun p hp=>(List.mem_append.mp hp).elim (fun z=>I.pin p (List.mem_append_right _ z)) fun z=>by obtain⟨hb,e⟩:=DU z;obtain⟨f0,f1,f2,_⟩:=hf p.1 hb;obtain⟨o,e',d⟩:=ho p.1 hb;rw[e]at e';cases e';exact⟨e,f0,f1,f2,d⟩
theorem Inv.jX{pins pl:List (Addr×Obj)}{σ:St}{H:Hp}{s:Shared}(I:Inv X (pins++pl) σ H s):Inv X pins σ H s:=I.C4 fun p hp=>I.pin p (List.mem_append_right _ (List.mem_append_left _ hp))
theorem c9{iter:Expr}{body:List Stmt}{wi:TI}{g:TG}{tb:TS}{pos:Pos}(hp:PassesOwn (model X.prog X.w) X.A X.env X.xe)(hc:X.calm=true)(hi:PI X tg iter wi)(hg:PG X tg g)(hb:PSs X body tb)
  (hs:∀x,foldedSetIterable iter X.env x=pure x:=by intro _;rfl):PS X (.For tg iter body [] pos) (RN wi g tb):=by
 intro pins s σ H D I h;refine wpAny_For (thn (hi pins s σ H _ I h) fun v s1 h1=>thn h1 fun itv s2 h2=>?_) hs;obtain⟨it,fp,tn,J,H2,e,I2,T,st2,f2,W,⟨m0,w0⟩,turn⟩:=h2;subst e;have stat:∀{H':Hp},(∀b∈fp,H' b=none)->∀b∈fp,mQ X pins H' b:=fun hn b hb=>⟨hn b hb,(f2 b hb).2⟩
 refine codeAny_forLoop_any (fun n s'=>∃i σ' H',Inv X pins σ' H' s'/\tn i s'.heap/\(∀b∈fp,H' b=none)/\W i n σ' H') ?_ m0 ⟨0,σ,H2,I2,st2,fun b hb=>(f2 b hb).1,w0⟩;rintro n s3 ⟨i,σ3,H3,I3,st3,fr3,w3⟩;rcases turn i n σ3 H3 w3 with⟨stop,qn⟩|⟨go,N,hN,step⟩
 ·refine wpAny_passesOwn hp (thn (T.done X rfl rfl rfl hc i pins s3 σ3 H3 X.xe I3 (stat fr3) st3 stop) fun r s4 ⟨hr,I4⟩=>?_);subst hr;exact wpAny_execs_nil ⟨σ3,H3,I4,qn⟩
 ·refine wpAny_passesOwn hp (thn (T.item X rfl rfl rfl hc i pins s3 σ3 H3 X.xe I3 (stat fr3) st3 go) fun r s4 ⟨u,hr,h4⟩=>?_);subst hr;refine wpAny_passesOwn hp (thn h4 fun _ s5 ⟨x,H5,I5,r5,y5,st5,fr5⟩=>?_);have I5':=I5.pinned (stat fr5) (T.obj _ _ st5);refine wpAny_passesOwn hp (thn (hg _ s5 σ3 H5 x u _ I5' r5 (step x H5 y5)) fun _ s6 ⟨σ6,H6,I6,q6⟩=>?_);refine wpAny_passesOwn hp (thn (hb _ s6 σ6 H6 _ I6 q6) fun f s7 q7=>?_);have again:∀{σ7:St}{H7:Hp},Inv X (pins++oY fp s5.heap) σ7 H7 s7->N σ7 H7->∃m,m<n/\∃i σ' H',Inv X pins σ' H' s7/\tn i s7.heap/\(∀b∈fp,H' b=none)/\W i m σ' H':=fun{σ7 H7} I7 n7=>by obtain⟨m',hm,w7⟩:=hN σ7 H7 n7;refine⟨m',hm,i+1,σ7,H7,I7.jX,T.keep _ _ _ st5 fun b hb o e=>(I7.pin (b,o) (List.mem_append_right _ (List.mem_append_right _ (jB hb e)))).1,fun b hb=>?_,w7⟩;obtain⟨o,e,d⟩:=T.obj _ _ st5 b hb;exact(I7.pin (b,o) (List.mem_append_right _ (List.mem_append_right _ (jB hb e)))).2.1
  cases f with
  |next=>obtain⟨σ7,H7,I7,n7⟩:=q7;exact again I7 n7
  |cont=>obtain⟨σ7,H7,I7,n7⟩:=q7;exact again I7 n7
  |brk=>obtain⟨σ7,H7,I7,q7⟩:=q7;exact⟨σ7,H7,I7.jX,q7⟩
  |ret v=>obtain⟨x7,σ7,H7,I7,r7,q7⟩:=q7;exact⟨x7,σ7,H7,I7.jX,r7,q7⟩
end
theorem iY{K:W.Frag}{a:Addr}{xs:List V}{g:TG}{tb:TS}{D:Ends}{σ:St}{H:Hp}(Pv:Nat->St->Hp->Prop)(h0:Pv 0 σ H)(hl:∀i σ H,i<=xs.length->Pv i σ H->SqL K H a xs)
  (hs:∀i x σ H,xs[i]? =some x->Pv i σ H->g x σ H fun σ2 H2=>tb {D with nx:=Pv (i+1),ct:=Pv (i+1),bk:=D.nx} σ2 H2) (hd:∀σ H,Pv xs.length σ H->D.nx σ H):
  ∃W:Nat->Nat->St->Hp->Prop,(∃m,W 0 m σ H)/\∀i m σ H,W i m σ H ->
   ((Itl K a).stop i H/\D.nx σ H)\/((Itl K a).go i H/\∃N:St->Hp->Prop,(∀σ' H',N σ' H'->∃m',m'<m/\W (i+1) m' σ' H')/\∀x H',(Itl K a).yld i H x H'->g x σ H' fun σ2 H2=>tb {D with nx:=N,ct:=N,bk:=D.nx} σ2 H2):=by
 refine⟨fun i m σ H=>m=xs.length - i/\i<=xs.length/\Pv i σ H,⟨xs.length,by simp,Nat.zero_le _,h0⟩,?_⟩;rintro i m σ H ⟨rfl,hi,p⟩;have q:=hl i σ H hi p;by_cases hlt:i<xs.length
 ·refine .inr ⟨⟨xs,xs[i],q,by simp[hlt]⟩,Pv (i+1),fun σ' H' p'=>⟨xs.length - (i+1),by omega,rfl,hlt,p'⟩,fun x H' y=>?_⟩;obtain⟨e,y⟩:=y;subst e;exact hs i x σ _ (y xs q) p
 ·have e:i=xs.length:=by omega
  subst e;exact .inl ⟨⟨xs,q,Nat.le_refl _⟩,hd σ H p⟩
theorem jI{K:W.Frag}{a:Addr}{xs:List V}{g:TG}{tb:TS}{D:Ends}{σ:St}{H:Hp}(Pv:Nat->St->Hp->Prop)(h0:Pv 0 σ H)(hl:∀i σ H,i<=xs.length->Pv i σ H->SqT K H a xs)
  (hs:∀i x σ H,xs[i]? =some x->Pv i σ H->g x σ H fun σ2 H2=>tb {D with nx:=Pv (i+1),ct:=Pv (i+1),bk:=D.nx} σ2 H2) (hd:∀σ H,Pv xs.length σ H->D.nx σ H):
  ∃W:Nat->Nat->St->Hp->Prop,(∃m,W 0 m σ H)/\∀i m σ H,W i m σ H ->
   ((Itt K a).stop i H/\D.nx σ H)\/((Itt K a).go i H/\∃N:St->Hp->Prop,(∀σ' H',N σ' H'->∃m',m'<m/\W (i+1) m' σ' H')/\∀x H',(Itt K a).yld i H x H'->g x σ H' fun σ2 H2=>tb {D with nx:=N,ct:=N,bk:=D.nx} σ2 H2):=by
 refine⟨fun i m σ H=>m=xs.length - i/\i<=xs.length/\Pv i σ H,⟨xs.length,by simp,Nat.zero_le _,h0⟩,?_⟩;rintro i m σ H ⟨rfl,hi,p⟩;have q:=hl i σ H hi p;by_cases hlt:i<xs.length
 ·refine .inr ⟨⟨xs,xs[i],q,by simp[hlt]⟩,Pv (i+1),fun σ' H' p'=>⟨xs.length - (i+1),by omega,rfl,hlt,p'⟩,fun x H' y=>?_⟩;obtain⟨e,y⟩:=y;subst e;exact hs i x σ _ (y xs q) p
 ·have e:i=xs.length:=by omega
  subst e;exact .inl ⟨⟨xs,q,Nat.le_refl _⟩,hd σ H p⟩
theorem pO{lo:Int}{n:Nat}{g:TG}{tb:TS}{D:Ends}{σ:St}{H:Hp}(Pv:Nat->St->Hp->Prop)(h0:Pv 0 σ H)
  (hs:∀i σ H,i<n->Pv i σ H->g (.int (lo+i)) σ H fun σ2 H2=>tb {D with nx:=Pv (i+1),ct:=Pv (i+1),bk:=D.nx} σ2 H2) (hd:∀σ H,Pv n σ H->D.nx σ H):
  ∃W:Nat->Nat->St->Hp->Prop,(∃m,W 0 m σ H)/\∀i m σ H,W i m σ H ->
   ((Itr lo n).stop i H/\D.nx σ H)\/((Itr lo n).go i H/\∃N:St->Hp->Prop,(∀σ' H',N σ' H'->∃m',m'<m/\W (i+1) m' σ' H')/\∀x H',(Itr lo n).yld i H x H'->g x σ H' fun σ2 H2=>tb {D with nx:=N,ct:=N,bk:=D.nx} σ2 H2):=by
 refine⟨fun i m σ H=>m=n - i/\i<=n/\Pv i σ H,⟨n,by simp,Nat.zero_le _,h0⟩,?_⟩;rintro i m σ H ⟨rfl,hi,p⟩;by_cases hlt:i<n
 ·refine .inr ⟨hlt,Pv (i+1),fun σ' H' p'=>⟨n - (i+1),by omega,rfl,hlt,p'⟩,fun x H' y=>?_⟩;obtain⟨e,y⟩:=y;subst e y;exact hs i σ _ hlt p
 ·have e:i=n:=by omega
  subst e;exact .inl ⟨Nat.le_refl _,hd σ H p⟩
theorem mR{c:TT}{tb:TS}{D:Ends}{σ:St}{H:Hp}(Pv:St->Hp->Prop)(μ:St->Hp->Nat)(h0:Pv σ H)
  (hs:∀σ H,Pv σ H->c σ H fun b H1=>if b=true then tb {D with nx:=fun σ' H'=>Pv σ' H'/\μ σ' H'<μ σ H,ct:=fun σ' H'=>Pv σ' H'/\μ σ' H'<μ σ H,bk:=D.nx} σ H1 else D.nx σ H1)
  (mono:∀σ H Q Q',(∀b H1,Q b H1->Q' b H1)->c σ H Q->c σ H Q'):FO c tb D σ H:=by
 refine⟨fun m σ H=>m=μ σ H/\Pv σ H,⟨_,rfl,h0⟩,?_⟩;rintro m σ H ⟨rfl,p⟩;refine mono σ H _ _ (fun b H1 q=>?_) (hs σ H p);cases b with
 |true=>exact⟨_,fun σ' H' ⟨p',l⟩=>⟨_,l,rfl,p'⟩,q⟩
 |false=>exact q
end L2
namespace L2
open PySem PySem.Spec PyProof.Rows
abbrev R2:=V->V->Hp->VK->Prop
noncomputable def OpR(X:Cx)(f:Value->Value->Sem Value)(r:R2):Prop:=
 ∀(pins:List (Addr×Obj))(s:Shared)(σ:St)(H:Hp)(x y:V)(v u:Value)(Q:VK),Inv X pins σ H s->RelV x v->RelV y u->r x y H Q ->
  wpAny (model X.prog X.w) X.A (f v u) (EP X pins σ Q) X.xe s
noncomputable def UnR(X:Cx)(f:Value->Sem Value)(r:V->Hp->VK->Prop):Prop:=
 ∀(pins:List (Addr×Obj))(s:Shared)(σ:St)(H:Hp)(x:V)(v:Value)(Q:VK),Inv X pins σ H s->RelV x v->r x H Q ->
  wpAny (model X.prog X.w) X.A (f v) (EP X pins σ Q) X.xe s
noncomputable def jT(X:Cx)(f:Value)(r:List V->Hp->VK->Prop):Prop:=
 ∀(pins:List (Addr×Obj))(s:Shared)(σ:St)(H:Hp)(xs:List V)(us:List Value)(Q:VK),Inv X pins σ H s->Vals xs us->r xs H Q ->
  wpAny (model X.prog X.w) X.A (call f us) (EP X pins σ Q) X.xe s
noncomputable def W7(X:Cx)(r:V->Hp->(Bool->Hp->Prop)->Prop):Prop:=
 ∀(pins:List (Addr×Obj))(s:Shared)(σ:St)(H:Hp)(x:V)(v:Value)(Q:Bool->Hp->Prop),Inv X pins σ H s->RelV x v->r x H Q ->
  wpAny (model X.prog X.w) X.A (truthy v) (TP X pins σ Q) X.xe s
noncomputable def tOp(r:R2)(ta tb:TE):TE:=fun σ H Q=>ta σ H fun x H1=>tb σ H1 fun y H2=>r x y H2 Q
def tUn(r:V->Hp->VK->Prop)(ta:TE):TE:=fun σ H Q=>ta σ H fun x H1=>r x H1 Q
noncomputable def rI(C:Int->Int->Prop)(g:Int->Int->V):R2:=fun x y H Q=>∃i j,x=.int i/\y=.int j/\C i j/\Q (g i j) H
noncomputable def rI0(g:Int->Int->V):R2:=fun x y H Q=>∃i j,x=.int i/\y=.int j/\Q (g i j) H
def rU(g:Int->V):V->Hp->VK->Prop:=fun x H Q=>∃i,x=.int i/\Q (g i) H
section
variable {X:Cx}{a b c:Expr}{ta tb tc:TE}{pos:Pos}
theorem M8(ha:PE X a ta)(hb:PE X b tb){pins:List (Addr×Obj)}{s:Shared}{σ:St}{H:Hp}{R:V->V->Hp->Prop}(I:Inv X pins σ H s)
  (h:ta σ H fun x H1=>tb σ H1 fun y H2=>R x y H2) {Q:Value->Shared->Prop}{f:Value->Value->Sem Value}
  (hf:∀v u s2 x y H2,Inv X pins σ H2 s2->RelV x v->RelV y u->R x y H2->wpAny (model X.prog X.w) X.A (f v u) Q X.xe s2):
  wpAny (model X.prog X.w) X.A (eval a X.env) (fun v s₁=>wpAny (model X.prog X.w) X.A (eval b X.env) (fun u s₂=>wpAny (model X.prog X.w) X.A (f v u) Q X.xe s₂) X.xe s₁) X.xe s:=by
 refine thn (ha pins s σ H _ I h) fun v s1 ⟨x,H1,I1,r1,q1⟩=>?_
 refine thn (hb pins s1 σ H1 _ I1 q1) fun u s2 ⟨y,H2,I2,r2,q2⟩=>?_
 exact hf v u s2 x y H2 I2 r1 r2 q2
theorem cI{op:Operator}{r:R2}(ho:OpR X (binaryOp op) r)(ha:PE X a ta)(hb:PE X b tb):PE X (.BinOp a op b pos) (tOp r ta tb):=by intro pins s σ H Q I h;exact wpAny_BinOp (M8 ha hb I h fun v u s2 x y H2 I2 rx ry q=>ho pins s2 σ H2 x y v u Q I2 rx ry q)
theorem K6{op:UnaryOp}{r:V->Hp->VK->Prop}(ho:UnR X (unaryOp op) r)(ha:PE X a ta):PE X (.UnaryOp op a pos) (tUn r ta):=by intro pins s σ H Q I h;exact UnaryOp_ (thn (ha pins s σ H _ I h) fun v s1 ⟨x,H1,I1,r1,q1⟩=>ho pins s1 σ H1 x v Q I1 r1 q1)
theorem opI{f:Value->Value->Sem Value}{C:Int->Int->Prop}{g:Int->Int->Int}
  (rule:∀(i j:Int)(t u:Tok)(s:Shared)(Q:Value->Shared->Prop)(E:Value->Shared->Prop),C i j->Q (.int (g i j) s.toks) {s with toks:=s.toks+1}->wpAny (model X.prog X.w) X.A (f (.int i t) (.int j u)) Q E s):
  OpR X f (rI C fun i j=>.int (g i j)):=by
 intro pins s σ H x y v u Q I rx ry h;obtain⟨i,j,rfl,rfl,hc,q⟩:=h;obtain⟨t,rfl⟩:=rx;obtain⟨t',rfl⟩:=ry;exact rule i j t t' s _ _ hc ⟨.int (g i j),H,I.tok _,⟨_,rfl⟩,q⟩
theorem MW{f:Value->Value->Sem Value}{g:Int->Int->Int}
  (rule:∀(i j:Int)(t u:Tok)(s:Shared)(Q:Value->Shared->Prop)(E:Value->Shared->Prop),Q (.int (g i j) s.toks) {s with toks:=s.toks+1}->wpAny (model X.prog X.w) X.A (f (.int i t) (.int j u)) Q E s):
  OpR X f (rI0 fun i j=>.int (g i j)):=by
 intro pins s σ H x y v u Q I rx ry h;obtain⟨i,j,rfl,rfl,q⟩:=h;obtain⟨t,rfl⟩:=rx;obtain⟨t',rfl⟩:=ry;exact rule i j t t' s _ _ ⟨.int (g i j),H,I.tok _,⟨_,rfl⟩,q⟩
theorem LD{f:Value->Value->Sem Value}{g:Int->Int->Bool}
  (rule:∀(i j:Int)(t u:Tok)(s:Shared)(Q:Value->Shared->Prop)(E:Value->Shared->Prop),Q (.bool (g i j)) s->wpAny (model X.prog X.w) X.A (f (.int i t) (.int j u)) Q E s):
  OpR X f (rI0 fun i j=>.bl (g i j)):=by
 intro pins s σ H x y v u Q I rx ry h;obtain⟨i,j,rfl,rfl,q⟩:=h;obtain⟨t,rfl⟩:=rx;obtain⟨t',rfl⟩:=ry;exact rule i j t t' s _ _ ⟨.bl (g i j),H,I,rfl,q⟩
def W9(i j:Int):Prop:=0<j/\j<1073741824
def MB(i j:Int):Prop:=(-(2^64)<i/\i<2^64)\/(-(2^64)<j/\j<2^64)
theorem MB.ok{i j:Int}(h:MB i j):IntMulOk i j:=by
 rcases h with⟨h1,h2⟩|⟨h1,h2⟩
 ·exact .of_left (intBits_le_64 h1 h2)
 ·exact .of_right (intBits_le_64 h1 h2)
theorem gN:OpR X (binaryOp .Add) (rI0 fun i j=>.int (i+j)):=MW fun _ _ _ _ _ _ _ q=>add_int q
theorem AK:OpR X (binaryOp .Sub) (rI0 fun i j=>.int (i - j)):=MW fun _ _ _ _ _ _ _ q=>sub_int q
theorem p9:OpR X (binaryOp .Mult) (rI MB fun i j=>.int (i*j)):=opI fun _ _ _ _ _ _ _ hc q=>mul_int q hc.ok
theorem rA:OpR X (binaryOp .FloorDiv) (rI W9 fun i j=>.int (i/j)):=opI fun i j _ _ _ _ _ hc q=>by have h1:(0:Int)<j:=hc.1;have h2:j<1073741824:=hc.2;exact floordiv_int (by omega) (by rw[Int.fdiv_eq_ediv_of_nonneg i (by omega)];exact q) (.inl (PyProof.noPylong_small (by omega)))
theorem pA:OpR X (binaryOp .Mod) (rI (fun _ j=>0<j) fun i j=>.int (i%j)):=opI fun i j _ _ _ _ _ hc q=>by have h1:(0:Int)<j:=hc;exact mod_int' (by omega) (by rw[Int.fmod_eq_emod_of_nonneg i (by omega)];exact q)
theorem unI{f:Value->Sem Value}{g:Int->Int}
  (rule:∀(i:Int)(t:Tok)(s:Shared)(Q:Value->Shared->Prop)(E:Value->Shared->Prop),Q (.int (g i) s.toks) {s with toks:=s.toks+1}->wpAny (model X.prog X.w) X.A (f (.int i t)) Q E s):
  UnR X f (rU fun i=>.int (g i)):=by
 intro pins s σ H x v Q I rx h;obtain⟨i,rfl,q⟩:=h;obtain⟨t,rfl⟩:=rx;exact rule i t s _ _ ⟨.int (g i),H,I.tok _,⟨_,rfl⟩,q⟩
theorem FI:UnR X (unaryOp .USub) (rU fun i=>.int (-i)):=unI fun _ _ _ _ _ q=>neg_int q
end
noncomputable def MR:V->V->Bool
 | .non,.non=>true| .non,.int _=>true| .int _,.non=>true| .non,.bl _=>true| .bl _,.non=>true| .non,.str _=>true| .str _,.non=>true
 | .int _,.int _=>true| .bl _,.bl _=>true| .str _,.str _=>true| .byt _,.byt _=>true
 | .int _,.str _=>true| .str _,.int _=>true| .bl _,.str _=>true| .str _,.bl _=>true
 |_,_=>false
def rEq:R2:=fun x y H Q=>MR x y=true/\Q (.bl (decide (x=y))) H
def rNe:R2:=fun x y H Q=>MR x y=true/\Q (.bl (!decide (x=y))) H
theorem rD{i j:Int}:decide (V.int i=V.int j)=(i==j):=by rw[Bool.eq_iff_iff];simp
theorem HQ{i j:Bool}:decide (V.bl i=V.bl j)=(i==j):=by rw[Bool.eq_iff_iff];simp
theorem CQ{i j:Str}:decide (V.str i=V.str j)=(i==j):=by rw[Bool.eq_iff_iff];simp
theorem CT{i j:Array UInt8}:decide (V.byt i=V.byt j)=(i.toList==j.toList):=by rw[Bool.eq_iff_iff];cases i;cases j;simp
section
variable {X:Cx}{a b c:Expr}{ta tb tc:TE}{pos:Pos}
theorem bP{pins:List (Addr×Obj)}{σ:St}{H:Hp}{s:Shared}{Q:VK}{k k':Bool}(I:Inv X pins σ H s)(q:Q (.bl k) H)(e:k=k'):EP X pins σ Q (.bool k') s:=by subst e;exact⟨.bl k,H,I,rfl,q⟩
theorem jO:OpR X (compareOp .Eq) rEq:=by
 intro pins s σ H x y v u Q I rx ry h;obtain⟨hs,q⟩:=h;cases x with
 |non=>
  cases rx;cases y with
  |non=>cases ry;exact PySem.EqNone.eq_none_none (bP I q (by simp))
  |bl j=>cases ry;exact PySem.EqNone.eq_none_bool (bP I q (by simp))
  |int j=>obtain⟨t',rfl⟩:=ry;exact PySem.EqNone.eq_none_int (bP I q (by simp))
  |str j=>obtain⟨t',rfl⟩:=ry;exact PySem.EqNone.eq_none_str (bP I q (by simp))
  |_=>exact absurd (show false=true from hs) Bool.false_ne_true
 |bl i=>
  cases rx;cases y with
  |non=>cases ry;exact PySem.EqNone.eq_bool_none (bP I q (by simp))
  |bl j=>cases ry;exact eq_bool (bP I q HQ)
  |str j=>obtain⟨t',rfl⟩:=ry;exact PySem.EqMixed.eq_bool_str (bP I q (by simp))
  |_=>exact absurd (show false=true from hs) Bool.false_ne_true
 |int i=>
  obtain⟨t,rfl⟩:=rx;cases y with
  |non=>cases ry;exact PySem.EqNone.eq_int_none (bP I q (by simp))
  |int j=>obtain⟨t',rfl⟩:=ry;exact eq_int (bP I q rD)
  |str j=>obtain⟨t',rfl⟩:=ry;exact PySem.EqMixed.eq_int_str (bP I q (by simp))
  |_=>exact absurd (show false=true from hs) Bool.false_ne_true
 |str i=>
  obtain⟨t,rfl⟩:=rx;cases y with
  |non=>cases ry;exact PySem.EqNone.eq_str_none (bP I q (by simp))
  |bl j=>cases ry;exact PySem.EqMixed.eq_str_bool (bP I q (by simp))
  |int j=>obtain⟨t',rfl⟩:=ry;exact PySem.EqMixed.eq_str_int (bP I q (by simp))
  |str j=>obtain⟨t',rfl⟩:=ry;exact eq_str (bP I q CQ)
  |_=>exact absurd (show false=true from hs) Bool.false_ne_true
 |byt i=>
  obtain⟨t,rfl⟩:=rx;cases y with
  |byt j=>obtain⟨t',rfl⟩:=ry;exact W.eq_bytes (bP I q CT)
  |_=>exact absurd (show false=true from hs) Bool.false_ne_true
 |_=>cases y<;>exact absurd (show false=true from hs) Bool.false_ne_true
theorem K7:OpR X (compareOp .NotEq) rNe:=by
 intro pins s σ H x y v u Q I rx ry h;obtain⟨hs,q⟩:=h;cases x with
 |non=>
  cases rx;cases y with
  |non=>cases ry;exact PySem.EqNone.ne_none_none (bP I q (by simp))
  |bl j=>cases ry;exact PySem.EqNone.ne_none_bool (bP I q (by simp))
  |int j=>obtain⟨t',rfl⟩:=ry;exact PySem.EqNone.ne_none_int (bP I q (by simp))
  |str j=>obtain⟨t',rfl⟩:=ry;exact PySem.EqNone.ne_none_str (bP I q (by simp))
  |_=>exact absurd (show false=true from hs) Bool.false_ne_true
 |bl i=>
  cases rx;cases y with
  |non=>cases ry;exact PySem.EqNone.ne_bool_none (bP I q (by simp))
  |bl j=>cases ry;exact ne_bool (bP I q (congrArg not HQ))
  |str j=>obtain⟨t',rfl⟩:=ry;exact PySem.EqMixed.ne_bool_str (bP I q (by simp))
  |_=>exact absurd (show false=true from hs) Bool.false_ne_true
 |int i=>
  obtain⟨t,rfl⟩:=rx;cases y with
  |non=>cases ry;exact PySem.EqNone.ne_int_none (bP I q (by simp))
  |int j=>obtain⟨t',rfl⟩:=ry;exact ne_int (bP I q (congrArg not rD))
  |str j=>obtain⟨t',rfl⟩:=ry;exact PySem.EqMixed.ne_int_str (bP I q (by simp))
  |_=>exact absurd (show false=true from hs) Bool.false_ne_true
 |str i=>
  obtain⟨t,rfl⟩:=rx;cases y with
  |non=>cases ry;exact PySem.EqNone.ne_str_none (bP I q (by simp))
  |bl j=>cases ry;exact PySem.EqMixed.ne_str_bool (bP I q (by simp))
  |int j=>obtain⟨t',rfl⟩:=ry;exact PySem.EqMixed.ne_str_int (bP I q (by simp))
  |str j=>obtain⟨t',rfl⟩:=ry;exact ne_str (bP I q (congrArg not CQ))
  |_=>exact absurd (show false=true from hs) Bool.false_ne_true
 |byt i=>
  obtain⟨t,rfl⟩:=rx;cases y with
  |byt j=>obtain⟨t',rfl⟩:=ry;exact W.ne_bytes (bP I q (congrArg not CT))
  |_=>exact absurd (show false=true from hs) Bool.false_ne_true
 |_=>cases y<;>exact absurd (show false=true from hs) Bool.false_ne_true
theorem GD:OpR X (compareOp .Lt) (rI0 fun i j=>.bl (decide (i<j))):=LD fun _ _ _ _ _ _ _ q=>lt_int q
theorem C8:OpR X (compareOp .LtE) (rI0 fun i j=>.bl (decide (i<=j))):=LD fun _ _ _ _ _ _ _ q=>le_int q
theorem uY:OpR X (compareOp .Gt) (rI0 fun i j=>.bl (decide (j<i))):=LD fun _ _ _ _ _ _ _ q=>gt_int q
theorem cC(b:Expr){op:CmpOp}(h:op≠ .In:=by decide)(h2:op≠ .NotIn:=by decide):behindInMarks op b=false:=by
 have e1:(op==CmpOp.In)=false:=by cases op<;>first|rfl|exact absurd rfl h
 have e2:(op==CmpOp.NotIn)=false:=by cases op<;>first|rfl|exact absurd rfl h2
 cases b<;>simp[behindInMarks,e1,e2]
theorem n8{op:CmpOp}{r:R2}(ho:OpR X (compareOp op) r)(ha:PE X a ta)(hb:PE X b tb)(hm:behindInMarks op b=false):PE X (.Compare a [op] [b] pos) (tOp r ta tb):=by intro pins s σ H Q I h;exact wpAny_Compare1 (M8 ha hb I h fun v u s2 x y H2 I2 rx ry q=>ho pins s2 σ H2 x y v u Q I2 rx ry q) hm
def MG(t:TE):TT:=fun σ H Q=>t σ H fun x H'=>∃k,x=.bl k/\Q k H'
theorem c8{op:CmpOp}{r:R2}(ho:OpR X (compareOp op) r)(ha:PE X a ta)(hb:PE X b tb)(hm:behindInMarks op b=false):PT X (.Compare a [op] [b] pos) (MG (tOp r ta tb)):=by
 intro pins s σ H Q I h;refine wpAny_isTrue_Compare1 (thn (ha pins s σ H _ I h) fun v s1 ⟨x,H1,I1,r1,q1⟩=>thn (hb pins s1 σ H1 _ I1 q1) fun u s2 ⟨y,H2,I2,r2,q2⟩=>
  thn (ho pins s2 σ H2 x y v u _ I2 r1 r2 q2) fun c s3 ⟨z,H3,I3,r3,k,e,q3⟩=>?_) hm
 subst e;cases r3;exact wpAny_truthy_bool ⟨H3,I3,q3⟩
noncomputable def KU(r r':R2)(ta tb tc:TE):TE:=fun σ H Q=>ta σ H fun x H1=>tb σ H1 fun y H2=>r x y H2 fun z H3=>∃k,z=.bl k/\
 (if k=true then tc σ H3 fun w' H4=>r' y w' H4 Q else Q (.bl false) H3)
theorem y6{op op':CmpOp}{r r':R2}(ho:OpR X (compareOp op) r)(ho':OpR X (compareOp op') r')(ha:PE X a ta)(hb:PE X b tb)(hc:PE X c tc)
  (hm:lastMarks [op,op'] [b,c]=false:=by with_unfolding_all rfl):PE X (.Compare a [op,op'] [b,c] pos) (KU r r' ta tb tc):=by
 intro pins s σ H Q I h;refine Compare_chain (thn (ha pins s σ H _ I h) fun v s1 ⟨x,H1,I1,r1,q1⟩=>chain_link (thn (hb pins s1 σ H1 _ I1 q1) fun u s2 ⟨y,H2,I2,r2,q2⟩=>
  thn (ho pins s2 σ H2 x y v u _ I2 r1 r2 q2) fun d s3 ⟨z,H3,I3,r3,k,e,q3⟩=>?_)) hm
 subst e;cases r3;refine wpAny_truthy_bool ?_;cases k with
 |false=>exact ite_ff ⟨.bl false,H3,I3,rfl,q3⟩
 |true=>exact ite_tt (chain_last (thn (hc pins s3 σ H3 _ I3 q3) fun w' s4 ⟨z',H4,I4,r4,q4⟩=>ho' pins s4 σ H4 y z' u w' Q I4 r2 r4 q4))
noncomputable def RC(K:W.Frag)(x:V)(H:Hp)(k:Bool):Prop:=
 match x with
 | .non=>k=false
 | .bl b=>k=b
 | .int i=>k=(i !=0)
 | .str y=>y.length<=sizeLine/\k=((y.length:Int) !=0)
 | .byt y=>y.size<=sizeLine/\k=((y.size:Int) !=0)
 | .ref p=>(∃xs,SqL K H p xs/\k=!xs.isEmpty)\/(∃xs,SqT K H p xs/\k=!xs.isEmpty)\/∃kvs,H p=some (.dK kvs)/\k=!kvs.isEmpty
 |_=>False
theorem B1{κ:Type}{kvs:List (κ×V)}{vs:List (κ×Value)}(r:KV kvs vs):(!vs.isEmpty)=!kvs.isEmpty:=by cases r<;>rfl
theorem sT{xs:List V}{its:List Value}(r:Vals xs its):(!its.toArray.isEmpty)=!xs.isEmpty:=by cases r<;>simp
theorem sQ:(sizeLine:Nat)<2^63:=by rw[sizeLine_eq];decide
theorem KH:W7 X (fun x H Q=>∃k,RC X.K x H k/\Q k H):=by
 intro pins s σ H x v Q I rx h;obtain⟨k,e,q⟩:=h;have hl:=sQ;have hs:sizeLine=16777216:=sizeLine_eq;cases x with
 |non=>cases rx;have e':k=false:=e;subst e';exact truthy_none ⟨H,I,q⟩
 |bl b=>cases rx;have e':k=b:=e;subst e';exact wpAny_truthy_bool ⟨H,I,q⟩
 |int i=>obtain⟨t,rfl⟩:=rx;have e':k=(i !=0):=e;subst e';exact PySem.P.truthy_int ⟨H,I,q⟩
 |str y=>obtain⟨t,rfl⟩:=rx;obtain⟨hy,e'⟩:y.length<=sizeLine/\k=((y.length:Int) !=0):=e;subst e';exact PySem.P.truthy_str (by omega) ⟨H,I.tok _,q⟩
 |byt y=>obtain⟨t,rfl⟩:=rx;obtain⟨hy,e'⟩:y.size<=sizeLine/\k=((y.size:Int) !=0):=e;subst e';exact W.truthy_bytes (by omega) ⟨H,I.tok _,q⟩
 |ref p=>
  cases rx;have e':(∃xs,SqL X.K H p xs/\k=!xs.isEmpty)\/(∃xs,SqT X.K H p xs/\k=!xs.isEmpty)\/∃kvs,H p=some (.dK kvs)/\k=!kvs.isEmpty:=e
  rcases e' with⟨xs,hx,e'⟩|⟨xs,hx,e'⟩|⟨kvs,hx,e'⟩
  ·subst e';obtain⟨its,r,pl,hz⟩:=I.list hx;have hlen:=r.length;exact wpAny_truthy_list pl.isList (by simp only[List.size_toArray];omega) ⟨H,I.tok _,by rw[sT r];exact q⟩
  ·subst e';obtain⟨its,r,pl,hz⟩:=I.tuple hx;have hlen:=r.length;exact truthy_tuple pl (by simp only[List.size_toArray];omega) ⟨H,I.tok _,by rw[sT r];exact q⟩
  ·subst e';obtain⟨hz,hS,vs,r,m⟩:kvs.length<=sizeLine/\(p==sysModules)=false/\∃vs,KV kvs vs/\s.heap.DictOf (bY X.prog X.w) p vs:=I.hok p _ hx
   have hlen:kvs.length=vs.length:=Paired.length r;exact wpAny_truthy_dict hS m (by omega) ⟨H,I.tok _,by rw[B1 r];exact q⟩
 |_=>exact(show False from e).elim
theorem sH(ha:PE X a ta)(he:∀whole,isTrue a X.env whole=(do let v<- whole;standAt a.pos;holding [v] (truthy v))):
  PT X a (fun σ H Q=>ta σ H fun x H'=>∃k,RC X.K x H' k/\Q k H'):=by
 intro pins s σ H Q I h;exact isTrue_plain (thn (ha pins s σ H _ I h) fun v s1 ⟨x,H1,I1,r1,q1⟩=>KH pins s1 σ H1 x v Q I1 r1 q1) (he _)
theorem vals1{x:V}{us:List Value}(r:Vals [x] us):∃u,us=[u]/\RelV x u:=by
 cases r with
 |cons r1 r2=>cases r2;exact⟨_,rfl,r1⟩
theorem vals2{x y:V}{us:List Value}(r:Vals [x,y] us):∃u w',us=[u,w']/\RelV x u/\RelV y w':=by
 cases r with
 |cons r1 r2=>
  cases r2 with
  |cons r3 r4=>cases r4;exact⟨_,_,rfl,r1,r3⟩
theorem F4(hc:X.calm=true):jT X (.builtin "max") (fun xs H Q=>∃i j,xs=[.int i,.int j]/\Q (.int (if j>i then j else i)) H):=by
 intro pins s σ H xs us Q I r h;obtain⟨i,j,rfl,q⟩:=h;obtain⟨u,w',rfl,⟨t,rfl⟩,⟨t',rfl⟩⟩:=vals2 r;refine max_two_ints (I.ok.hd hc) fun h' tk k=>⟨_,H,I.kept k,?_,q⟩
 by_cases hj:j>i
 ·rw[if_pos hj,if_pos hj];exact⟨_,rfl⟩
 ·rw[if_neg hj,if_neg hj];exact⟨_,rfl⟩
theorem F3(hc:X.calm=true):jT X (.builtin "min") (fun xs H Q=>∃i j,xs=[.int i,.int j]/\Q (.int (if j<i then j else i)) H):=by
 intro pins s σ H xs us Q I r h;obtain⟨i,j,rfl,q⟩:=h;obtain⟨u,w',rfl,⟨t,rfl⟩,⟨t',rfl⟩⟩:=vals2 r;refine min_two_ints (I.ok.hd hc) fun h' tk k=>⟨_,H,I.kept k,?_,q⟩
 by_cases hj:j<i
 ·rw[if_pos hj,if_pos hj];exact⟨_,rfl⟩
 ·rw[if_neg hj,if_neg hj];exact⟨_,rfl⟩
end
end L2
namespace L2
open PySem PySem.Spec PyProof.Rows
structure F8(h:Heap)(x dx C:Addr)(mA:Str->Option Value):Prop where
 obj:h.get? x=some (W.instObj C dx)
 ns:h.Ns1 dx mA
 ne:dx≠x
theorem E3{h:Heap}{dx:Addr}{mA:Str->Option Value}(n:h.Ns1 dx mA):∃od,h.get? dx=some od/\∀name,W.lookIn name od=some (mA name):=by
 obtain⟨o,es,ep,ho,hd,hk,_,hm⟩:=n;refine⟨o,ho,fun name=>?_⟩;have e:=hm name;unfold nsFind findBy at e;rw[<- Array.find?_toList]at e;unfold W.lookIn;rw[hd];dsimp only;split
 ·rename_i y q;rw[q]at e;exact congrArg some e
 ·rename_i q;rw[q]at e;have a:es.toList.any (·.refKey)=false:=by rw[List.any_eq_false];intro y hy;obtain⟨z,t,hkey⟩:=hk y (Array.mem_toList_iff.mp hy);simp[DictEntry.refKey,hkey]
  have a':¬es.toList.any (·.refKey)=true:=by rw[a];exact Bool.false_ne_true
  rw[if_neg a'];exact congrArg some e
theorem F8.look{h:Heap}{x dx C:Addr}{mA:Str->Option Value}(I:F8 h x dx C mA):∃od,W.InstAt h x (W.instObj C dx) C (some od)/\∀name,W.lookIn name od=some (mA name):=
 let⟨od,ho,hl⟩:=E3 I.ns
 ⟨od,⟨I.obj,rfl,rfl,ho⟩,hl⟩
section
variable {prog:Program}{w:World}{A:Around}{E:Value->Shared->Prop}{s:Shared}{K:W.Frag}{x dx C f:Addr}{mA:Str->Option Value}{name:Str}{v:Value}
theorem get_map{expr:Bool}{Q:Value->Shared->Prop}(X:K.In s.heap)(I:F8 s.heap x dx C mA)(hg:W.plainGet K C name=true)(hh:W.hasDictIn K C=true)
  (ha:W.findIn K (.ref C) name=some none) (hv:mA name=some v) (hv':W.handedIn v=true) (h:Q v {s with toks:=s.toks+1}):
  wpAny (model prog w) A (getAttr (.ref x) name expr) Q E s:=by
 obtain⟨od,J,hl⟩:=I.look;exact W.get_value X J (W.plainGet_of hg).1 (W.findObj_own hh ha rfl (by rw[hl,hv])) hv' h
theorem IM{ns:List Str}{Q:Unit->Shared->Prop}(X:K.In s.heap)(I:F8 s.heap x dx C mA)
  (hs:W.findIn K (.ref C) "__setattr__" =some (some (.builtin "object.__setattr__"))) (hp:W.plainOver K C=true) (ht:W.takerIn K C name=some none) (hh:W.hasDictIn K C=true)
  (hw:PySem.Within mA ns) (hsz:ns.length<=sizeLine)
  (h:∀h',F8 h' x dx C (fun y=>if y=name then some v else mA y)->Heap.SameBut dx s.heap h'->Q () {s with heap:=h',toks:=s.toks+2}):
  wpAny (model prog w) A (setAttr (.ref x) name v) Q E s:=by
 obtain⟨od,J,hl⟩:=I.look;refine W.set_plain X J hs (W.osa_open (s:={s with toks:=s.toks+1}) (r:=none) X J hp ht fun b=>?_);obtain⟨cd,hc,hd'⟩:=W.any_some hh;have hx:s.heap.get? x=some ⟨.ref C,some dx,.plain,#[]⟩:=I.obj;refine wpAny_bind (wpAny_pure (wpAny_bind (wpAny_bind (wpAny_loadPart hx (wpAny_bind (W.Looks.here (s:={s with toks:=s.toks+1}) (W.looks_clsIn X hc) ?_))))));rw[hd'];refine wpAny_pure (a:=some dx) (wpAny_bind (wpAny_pure (wpAny_bind ?_)));refine wpAny_nsSet1 (s:={s with toks:=s.toks+1}) I.ns fun h' hn2 hs2=>?_
 obtain⟨oD,esD,epD,hoD,hdD,hcD⟩:=hn2.count (PySem.Within.cons name v hw);refine wpAny_bind (wpAny_lookBehind hoD (by rw[hdD];exact pastItsLine_dict (Nat.le_trans hcD (by rw[List.length_cons];omega))) ?_);exact wpAny_pure (h _ ⟨(hs2.2 _ (Ne.symm I.ne)).trans I.obj,hn2,I.ne⟩ hs2)
theorem GJ{R:Result->Shared->Prop}{vs:List Value}{kw:List (Str×Value)}(X:K.In s.heap)(hm:W.makesIn K C=true)
  (hi:W.findIn K (.ref C) "__init__" =some (some (.ref f))) (hf:W.typeIn K (.ref f)=some (.type "function"))
  (h:codeAny (model prog w) (A.under (.builtin "type.__call__" ⟨.ref C::vs,kw⟩)) (.call (.ref f) ⟨.ref (s.heap.objs.size+1)::vs,kw⟩) (W.InitBack (s.heap.objs.size+1) R)
   {s with heap:=(s.heap.push W.emptyDict).push (W.instObj C s.heap.objs.size)}):
  codeAny (model prog w) A (.call (.ref C) ⟨vs,kw⟩) R s:=by
 obtain⟨hh,g,d,t,os⟩:=s;exact W.make_core (W.makes_of X hm) (W.looks_findIn X hi) (fun self=>W.bind_fn X self hf) (.inl rfl) h
end
noncomputable def bT(f:Str)(v:V):List (Str×V)->List (Str×V)
 |[]=>[(f,v)]
 |(g,x)::r=>if g=f then(g,v)::r else(g,x)::bT f v r
theorem bO(f g:Str)(v:V):∀fs:List (Str×V),(bT f v fs).lookup g=if g=f then some v else fs.lookup g
 |[]=>by
  show List.lookup g [(f,v)]=_
  by_cases h:g=f
  ·have hb:(g==f)=true:=beq_iff_eq.mpr h;simp only[List.lookup,hb,if_pos h]
  ·have hb:(g==f)=false:=beq_eq_false_iff_ne.mpr h;simp only[List.lookup,hb,if_neg h]
 |(k,x)::r=>by
  have ih:=bO f g v r;rw[show bT f v ((k,x)::r)=(if k=f then(k,v)::r else(k,x)::bT f v r)from rfl];by_cases hk:k=f
  ·rw[if_pos hk];by_cases h:g=k
   ·have hb:(g==k)=true:=beq_iff_eq.mpr h;simp only[List.lookup,hb,if_pos (h.trans hk)]
   ·have hb:(g==k)=false:=beq_eq_false_iff_ne.mpr h;simp only[List.lookup,hb,if_neg (fun e:g=f=>h (e.trans hk.symm))]
  ·rw[if_neg hk];by_cases h:g=k
   ·have hb:(g==k)=true:=beq_iff_eq.mpr h;simp only[List.lookup,hb,if_neg (fun e:g=f=>hk (h.symm.trans e))]
   ·have hb:(g==k)=false:=beq_eq_false_iff_ne.mpr h;simp only[List.lookup,hb];exact ih
theorem pG(f:Str)(v:V):∀fs:List (Str×V),f∈(bT f v fs).map (·.1)/\∀g,g∈fs.map (·.1)->g∈(bT f v fs).map (·.1)
 |[]=>⟨by simp[bT],fun g h=>by simp at h⟩
 |(k,x)::r=>by
  obtain⟨i1,i2⟩:=pG f v r;rw[show bT f v ((k,x)::r)=(if k=f then(k,v)::r else(k,x)::bT f v r)from rfl];by_cases hk:k=f
  ·rw[if_pos hk];subst hk;exact⟨by simp,fun g h=>by simpa using h⟩
  ·rw[if_neg hk];refine⟨?_,fun g h=>?_⟩
   ·rw[List.map_cons];exact List.mem_cons_of_mem _ i1
   ·rw[List.map_cons]at h ⊢;rcases List.mem_cons.mp h with e|e
    ·exact List.mem_cons.mpr (.inl e)
    ·exact List.mem_cons_of_mem _ (i2 g e)
theorem dH(f:Str)(v:V):∀fs:List (Str×V),(bT f v fs).length<=fs.length+1
 |[]=>by simp[bT]
 |(k,x)::r=>by
  have ih:=dH f v r;rw[show bT f v ((k,x)::r)=(if k=f then(k,v)::r else(k,x)::bT f v r)from rfl];by_cases hk:k=f
  ·rw[if_pos hk,List.length_cons,List.length_cons];omega
  ·rw[if_neg hk,List.length_cons,List.length_cons];omega
theorem mP.some_of{v:V}{o:Option Value}(r:mP (some v) o):∃u,o=some u/\RelV v u:=by
 cases o with
 |none=>exact(show False from r).elim
 |some u=>exact⟨u,rfl,r⟩
theorem EG{v:V}{u:Value}(r:RelV v u):W.handedIn u=true:=by
 cases v with
 |non=>cases (show u=Value.none from r);rfl
 |bl b=>cases (show u=Value.bool b from r);rfl
 |int i=>obtain⟨t,e⟩:=(show∃t,u=Value.int i t from r);cases e;rfl
 |str x=>obtain⟨t,e⟩:=(show∃t,u=Value.str x t from r);cases e;rfl
 |byt b=>obtain⟨t,e⟩:=(show∃t,u=Value.bytes b t from r);cases e;rfl
 |flt b=>obtain⟨t,e⟩:=(show∃t,u=Value.float b t from r);cases e;rfl
 |ref a=>cases (show u=Value.ref a from r);rfl
 |ty n=>cases (show u=Value.type n from r);rfl
section
variable {P:Program}{w:World}{H H':Hp}{h h':Heap}{a C dx:Addr}{fs fs':List (Str×V)}
theorem CK(hok:HOk P w H h)(e:H a=some (.ins C dx fs)):∃mA,F8 h a dx C mA/\(∀f,mP (fs.lookup f) (mA f))/\PySem.Within mA (fs.map (·.1))/\fs.length<=1000/\H dx=some (.own a):=by obtain⟨d,z,ne,ob,mA,n,r,q⟩:=(show d6 P w H h a (.ins C dx fs)from hok a _ e);exact⟨mA,⟨ob,n,ne⟩,r,q,z,d⟩
end
structure Cls(K:W.Frag)(C:Addr):Prop where
 pg:W.plainGet K C Str.empty=true
 hd:W.hasDictIn K C=true
 po:W.plainOver K C=true
 sa:W.findIn K (.ref C) "__setattr__" =some (some (.builtin "object.__setattr__"))
theorem Cls.get{K:W.Frag}{C:Addr}(c:Cls K C)(f:Str):W.plainGet K C f=true:=c.pg
def fZ(K:W.Frag)(C:Addr)(f:Str):Prop:=W.findIn K (.ref C) f=some none
theorem fZ.ME{K:W.Frag}{C:Addr}{f:Str}(n:fZ K C f):W.takerIn K C f=some none:=by unfold W.takerIn;rw[show W.findIn K (.ref C) f=some none from n];rfl
section
variable {X:Cx}{pins:List (Addr×Obj)}{σ:St}{H:Hp}{s:Shared}{a C dx:Addr}{fs:List (Str×V)}{f:Str}{v:V}{A:Around}{E:Value->Shared->Prop}
theorem B9{b:Bool}{Q:Value->Shared->Prop}(I:Inv X pins σ H s)(e:H a=some (.ins C dx fs))(c:Cls X.K C)(n:fZ X.K C f)(l:fs.lookup f=some v)
  (h:∀u s',Inv X pins σ H s'->RelV v u->Q u s'):wpAny (model X.prog X.w) A (getAttr (.ref a) f b) Q E s:=by
 obtain⟨mA,O,r,_,_,_⟩:=CK I.hok e;obtain⟨u,hu,ru⟩:=mP.some_of (v:=v) (o:=mA f) (by rw[<- l];exact r f);exact get_map I.kIn O (c.get f) c.hd n hu (EG ru) (h u _ (I.tok _) ru)
theorem A7{y:V}{u:Value}{Q:Unit->Shared->Prop}(I:Inv X pins σ H s)(e:H a=some (.ins C dx fs))(c:Cls X.K C)(n:fZ X.K C f)(hl:fs.length<1000)(ry:RelV y u)
  (h:∀s',Inv X pins σ (upd H a (.ins C dx (bT f y fs))) s'->Q () s'):wpAny (model X.prog X.w) A (setAttr (.ref a) f u) Q E s:=by
 obtain⟨mA,O,r,wi,_,ho⟩:=CK I.hok e;have hz:(fs.map (·.1)).length<=sizeLine:=by rw[List.length_map,sizeLine_eq];omega
 refine IM I.kIn O c.sa c.po n.ME c.hd wi hz fun h' O' sb=>h _ ?_
 have hd:∃o,h'.get? dx=some o:=let⟨o,_,_,e',_⟩:=O'.ns;⟨o,e'⟩
 refine I.write (x:=a) (e:=dx) (by rw[e];exact True.intro) (.inr ho) (fun b q hb z=>(sb.2 b hb).trans z) hd ?_;refine⟨by rw[aA O.ne];exact ho,?_,O.ne,O'.obj,_,O'.ns,fun g=>?_,fun g hg=>?_⟩
 ·have:=dH f y fs;omega
 ·show mP ((bT f y fs).lookup g) (if g=f then some u else mA g)
  rw[bO];by_cases q:g=f
  ·rw[if_pos q,if_pos q];exact ry
  ·rw[if_neg q,if_neg q];exact r g
 ·by_cases q:g=f
  ·rw[q];exact(pG f y fs).1
  ·refine(pG f y fs).2 g (wi g fun z=>hg ?_);show(if g=f then some u else mA g)=none
   rw[if_neg q];exact z
theorem Inv.made(I:Inv X pins σ H s):Inv X pins σ (upd (upd H s.heap.objs.size (.own (s.heap.objs.size+1))) (s.heap.objs.size+1) (.ins C s.heap.objs.size []))
  {s with heap:=(s.heap.push W.emptyDict).push (W.instObj C s.heap.objs.size)}:=by
 have e1:(s.heap.push W.emptyDict).get? s.heap.objs.size=some W.emptyDict:=Heap.get?_push_size s.heap rfl;have e2:((s.heap.push W.emptyDict).push (W.instObj C s.heap.objs.size)).get? (s.heap.objs.size+1)=some (W.instObj C s.heap.objs.size):=by
  have:=Heap.get?_push_size (s.heap.push W.emptyDict) (o:=W.instObj C s.heap.objs.size) rfl
  rwa [Heap.size_push]at this
 have e3:(s.heap.push W.emptyDict).Ns s.heap.objs.size (fun _=>none):=⟨W.emptyDict,#[],_,e1,rfl,(fun e he=>absurd he (by simp)),fun _=>rfl⟩;have I1:=I.laid (a:=s.heap.objs.size) (o:=.own (s.heap.objs.size+1)) (h':=s.heap.push W.emptyDict) (t':=s.toks) (fun b u q=>Heap.get?_push_of_some _ q) (Nat.le_refl _) ⟨_,e1⟩;refine I1.laid (a:=s.heap.objs.size+1) (o:=.ins C s.heap.objs.size []) (t':=s.toks) (fun b u q=>Heap.get?_push_of_some _ q) (Nat.le_of_eq (Heap.size_push _ _)) ?_;have ne:s.heap.objs.size≠s.heap.objs.size+1:=Nat.ne_of_lt (Nat.lt_succ_self _);refine⟨by rw[aA ne,a7],Nat.zero_le _,ne,e2,fun _=>none,(Heap.Ns1.of_empty e3).at fun o q=>Heap.get?_push_of_some _ q,fun _=>True.intro,fun y hy=>absurd rfl hy⟩
theorem JY{prog:Program}{w:World}{env:Env}{e:Expr}{f:Str}{pos:Pos}{s:Shared}{Q:Value->Shared->Prop}(hb:attributeBase e f env (eval e env)=eval e env)
  (h:wpAny (model prog w) A (eval e env) (fun o s₁=>wpAny (model prog w) A (getAttr o f true) Q E s₁) E s):wpAny (model prog w) A (eval (.Attribute e f pos) env) Q E s:=
 Attribute_any_ h (by rw[arm_eval_Attribute,hb])
end
noncomputable def RO(K:W.Frag)(ta:TE)(f:Str):TE:=fun σ H Q=>ta σ H fun x H1=>∃a C dx fs v,x=.ref a/\H1 a=some (.ins C dx fs)/\Cls K C/\fZ K C f/\fs.lookup f=some v/\Q v H1
noncomputable def RW(K:W.Frag)(ta tv:TE)(f:Str):TS:=fun D σ H=>tv σ H fun y H1=>ta σ H1 fun x H2=>∃a C dx fs,x=.ref a/\H2 a=some (.ins C dx fs)/\Cls K C/\fZ K C f/\fs.length<1000/\
 D.nx σ (upd H2 a (.ins C dx (bT f y fs)))
section
variable {X:Cx}{o e value:Expr}{f:Str}{pos pos' tpos:Pos}{ta tv:TE}
theorem kB(he:PE X e ta)(hb:attributeBase e f X.env (eval e X.env)=eval e X.env):PE X (.Attribute e f pos) (RO X.K ta f):=by intro pins s σ H Q I h;refine JY hb (thn (he pins s σ H _ I h) fun u s1 ⟨x,H1,I1,rx,a,C,dx,fs,v,ex,ea,c,n,l,q⟩=>?_);subst ex;obtain rfl:u=Value.ref a:=rx;exact B9 I1 ea c n l fun u' s2 I2 ru=>⟨v,H1,I2,ru,q⟩
theorem oX(ha:PE X o ta)(hv:PE X value tv)(hs:swapsWith value (some (.Attribute o f pos')) pos.line X.env=pure false):PS X (.Assign [.Attribute o f pos'] value pos) (RW X.K ta tv f):=by intro pins s σ H D I h;refine plainObj_wpAny_Assign_Attribute (thn (hv pins s σ H _ I h) fun u s1 ⟨y,H1,I1,ry,q⟩=>thn (ha pins s1 σ H1 _ I1 q) fun ov s2 ⟨x,H2,I2,rx,a,C,dx,fs,ex,ea,c,n,l,q2⟩=>?_) hs;subst ex;obtain rfl:ov=Value.ref a:=rx;exact A7 I2 ea c n l ry fun s3 I3=>⟨σ,_,I3,q2⟩
end
end L2
namespace L2
open PySem PySem.Spec PyProof.Rows
structure cQ(k:Nat)(A:Around):Prop where
 hd:A.handled=none
 dp:A.depth+3*k+5<recursionLimit
 un:A.units+16*k+200<cLine
theorem cQ.mono{j k:Nat}{A:Around}(r:cQ k A)(h:j<=k):cQ j A:=⟨r.hd,by have:=r.dp;omega,by have:=r.un;omega⟩
theorem cQ.deeper{k:Nat}{A:Around}(r:cQ (k+1) A)(env:Env):cQ k (A.deeper env):=
 ⟨r.hd,by have:=r.dp;show A.depth+1+3*k+5< _;omega,by have:=r.un;show A.units+3+16*k+200< _;omega⟩
theorem cQ.in1{k:Nat}{A:Around}(r:cQ (k+1) A):cQ k A.in1:=
 ⟨r.hd,by have:=r.dp;show A.depth+3*k+5< _;omega,by have:=r.un;show A.units+1+16*k+200< _;omega⟩
theorem AW{A:Around}{C:Addr}{us:List Value}{kw:List (Str×Value)}:(A.under (.builtin "type.__call__" ⟨.ref C::us,kw⟩)).depth=A.depth+1:=by first|rfl|simp[Around.under,Code.weight,Code.isCreation,Code.isGuard,Code.isCaller,Code.frames,Code.isFrame,guardIds]
theorem AV{A:Around}{C:Addr}{us:List Value}{kw:List (Str×Value)}:(A.under (.builtin "type.__call__" ⟨.ref C::us,kw⟩)).units=A.units+1:=by first|rfl|simp[Around.under,Code.cUnits,Code.frames,Code.isFrame]
theorem cQ.make{k:Nat}{A:Around}(r:cQ (k+1) A)(C:Addr)(us:List Value)(kw:List (Str×Value)):cQ k (A.under (.builtin "type.__call__" ⟨.ref C::us,kw⟩)):=
 ⟨r.hd,by have:=r.dp;rw[AW];omega,by have:=r.un;rw[AV];omega⟩
theorem cQ.depth{k:Nat}{A:Around}(r:cQ k A):A.depth<recursionLimit:=by have:=r.dp;omega
theorem cQ.units{k:Nat}{A:Around}(r:cQ k A):A.units+64<cLine:=by have:=r.un;omega
def KN:TA:=fun _ H Q=>Q [] H
noncomputable def rN(ta:TE)(tr:TA):TA:=fun σ H Q=>ta σ H fun x H1=>tr σ H1 fun xs H2=>Q (x::xs) H2
section
variable {X:Cx}{e:Expr}{es:List Expr}{te:TE}{t:TA}{pos:Pos}
theorem aC:PA X [] KN:=fun _ _ _ _ H Q I h=>Calls.spliced_nil ⟨[],H,I,.nil,h⟩
theorem a8(ha:PE X e te)(hr:PA X es t)(hs:starEach (e::es) X.env=(false,eval e X.env)::starEach es X.env:=by rfl):PA X (e::es) (rN te t):=by
 intro pos pins s σ H Q I h;rw[hs];show wpAny _ _ (spliced ((false,eval e X.env)::backTo pos (starEach es X.env))) _ _ s
 refine Calls.spliced_cons (thn (ha pins s σ H _ I h) fun u s1 ⟨x,H1,I1,r1,q1⟩=>?_);exact thn (hr pos pins s1 σ H1 _ I1 q1) fun us s2 ⟨xs,H2,I2,r2,q2⟩=>⟨x::xs,H2,I2,.cons r1 r2,q2⟩
noncomputable def RH(t:TA):TE:=fun σ H Q=>t σ H fun xs H1=>xs.length<=sizeLine/\∀p,H1 p=none->Q (.ref p) (upd H1 p (.tup xs))
noncomputable def RK(t:TA):TE:=fun σ H Q=>t σ H fun xs H1=>xs.length<=sizeLine/\∀p,H1 p=none->Q (.ref p) (upd H1 p (.lst xs))
theorem dZ{x1}(h:PA X es t):PE X (.Tuple es x1 pos) (RH t):=by intro pins s σ H Q I hq;refine wpAny_Tuple_spliced (thn (h pos pins s σ H _ I hq) fun us s1 ⟨xs,H1,I1,r,z,q⟩=>⟨by rw[<- r.length];exact z,?_⟩);have hf:H1 s1.heap.objs.size=none:=I1.hok.fresh (Nat.le_refl _);refine⟨.ref s1.heap.objs.size,upd H1 s1.heap.objs.size (.tup xs),I1.laid (t':=s1.toks) (fun b u e=>Heap.get?_push_of_some _ e) (Nat.le_refl _) ?_,rfl,q _ hf⟩;exact⟨z,us,r,⟨_,Heap.get?_push_size _ rfl,rfl,_,rfl⟩⟩
theorem fE(h:PA X es t):PE X (.List es pos) (RK t):=by intro pins s σ H Q I hq;refine wpAny_List_spliced (thn (h pos pins s σ H _ I hq) fun us s1 ⟨xs,H1,I1,r,z,q⟩=>⟨by rw[<- r.length];exact z,?_⟩);have hf:H1 s1.heap.objs.size=none:=I1.hok.fresh (Nat.le_refl _);refine⟨.ref s1.heap.objs.size,upd H1 s1.heap.objs.size (.lst xs),I1.laid (t':=s1.toks) (fun b u e=>Heap.get?_push_of_some _ e) (Nat.le_refl _) ?_,rfl,q _ hf⟩;exact⟨z,us,0,r,Heap.get?_push_size _ rfl⟩
end
abbrev Sp:=List V->Hp->VK->XK->Prop
abbrev CXT:=List Env->Hp->Shared->XK->Value->Shared->Prop
structure oI(P:Program)(w:World)(K:W.Frag)(mg:Str->Option Value)(base:Heap)(A:Around)(outer:List Env)(s:Shared)(H:Hp):Prop where
 frames:A.frames=some outer
 mod:Mod K mg base
 bs:∀b o,base.get? b=some o->s.heap.get? b=some o/\H b=none
 bsz:base.objs.size<=s.heap.objs.size
 kJ:s.heap.FunFrames base outer
 frf:∀b∈frs outer,H b=none
 hok:HOk P w H s.heap
 bare:AllBare s.gens
noncomputable def CE(outer:List Env)(P:Program)(w:World)(H:Hp)(s:Shared)(Q:VK)(u:Value)(s':Shared):Prop:=
 ∃v H',s'.os=s.os/\AllBare s'.gens/\Un (frs outer) [] H H' s.heap s'.heap/\HOk P w H' s'.heap/\RelV v u/\Q v H'
noncomputable def CR(CX:CXT)(outer:List Env)(P:Program)(w:World)(H:Hp)(s:Shared)(Q:VK)(E:XK)(r:Result)(s':Shared):Prop:=
 match r with
 | .ok (.ret u)=>CE outer P w H s Q u s'
 | .ok _=>False
 | .error e=>CX outer H s E e s'
structure bK(P:Program)(w:World)(K:W.Frag)(mg:Str->Option Value)(base:Heap)(CX:CXT)(k:Nat)(f:Addr)(fd:FuncData)(ps:List Str)(sp:Sp):Prop where
 len:∀vs H Q E,sp vs H Q E->vs.length=ps.length
 run:∀(A:Around)(outer:List Env)(s:Shared)(H:Hp)(args:Args)(us:List Value)(vs:List V)(Q:VK)(E:XK),cQ k A->oI P w K mg base A outer s H->BindsTo s fd args (ps.zip us)->Vals vs us->sp vs H Q E ->
  codeAny (model P w) A (.call (.ref f) args) (CR CX outer P w H s Q E) s
theorem oI.make{P:Program}{w:World}{K:W.Frag}{mg:Str->Option Value}{base:Heap}{A:Around}{outer:List Env}{s:Shared}{H:Hp}(e:oI P w K mg base A outer s H)(C:Addr)(us:List Value)(kw:List (Str×Value)):
  oI P w K mg base (A.under (.builtin "type.__call__" ⟨.ref C::us,kw⟩)) outer s H:=⟨by first|exact e.frames|(simpa[Around.under,Code.envs,Code.isFrame,pushEnvs]using e.frames),e.mod,e.bs,e.bsz,e.kJ,e.frf,e.hok,e.bare⟩
theorem oI.in1{P:Program}{w:World}{K:W.Frag}{mg:Str->Option Value}{base:Heap}{A:Around}{outer:List Env}{s:Shared}{H:Hp}(e:oI P w K mg base A outer s H):
  oI P w K mg base A.in1 outer s H:=⟨e.frames,e.mod,e.bs,e.bsz,e.kJ,e.frf,e.hok,e.bare⟩
section
variable {X:Cx}{pins:List (Addr×Obj)}{σ:St}{H:Hp}{s s':Shared}
theorem Inv.HL(I:Inv X pins σ H s):oI X.prog X.w X.K X.mg X.base X.A X.stack s H:=
 ⟨I.ok.frames,I.ok.mod,I.bs,Nat.le_trans I.ok.bsz I.sz,I.stack,I.w8,I.hok,I.bare⟩
theorem Inv.after{Q:VK}{u:Value}(I:Inv X pins σ H s)(h:CE X.stack X.prog X.w H s Q u s'):EP X pins σ Q u s':=by obtain⟨v,H',os,bare,un,hok,r,q⟩:=h;obtain⟨hh,g,d,t,os'⟩:=s';obtain rfl:os'=s.os:=os;exact⟨v,H',I.call (h':=hh) (g':=g) (d':=d) (t':=t) (ch:=[]) un hok bare (fun b z=>absurd z (by simp)),r,q⟩
end
noncomputable def BX(sp:Sp)(dvs:List V)(E:XK)(t:TA):TE:=fun σ H Q=>t σ H fun vs H1=>sp (vs++dvs) H1 Q E
noncomputable def ML(C:Addr)(sp:Sp)(dvs:List V)(E:XK)(t:TA):TE:=fun σ H Q=>t σ H fun vs H1=>∀x dx,H1 x=none->H1 dx=none->dx≠x ->
 sp (.ref x::(vs++dvs)) (upd (upd H1 dx (.own x)) x (.ins C dx [])) (fun v H2=>v=.non/\Q (.ref x) H2) E
noncomputable def Binds(K:W.Frag)(fd:FuncData)(ps:List Str)(ds:List Value):Prop:=
 ∀(s:Shared)(us:List Value),K.In s.heap->(us++ds).length=ps.length->BindsTo s fd ⟨us,[]⟩ (ps.zip (us++ds))
theorem Binds.all{K:W.Frag}{fd:FuncData}{ps:List Str}(h:∀us:List Value,us.length=ps.length->bindArgs fd ⟨us,[]⟩=pure (ps.zip us)):Binds K fd ps []:=fun s us _ hl=>by rw[List.append_nil]at hl ⊢;exact .of_eq (h us hl)
noncomputable def Passes(CX:CXT)(X:Cx)(E:XK):Prop:=∀(pins:List (Addr×Obj))(σ:St)(H:Hp)(s:Shared)(e:Value)(s':Shared),Inv X pins σ H s->CX X.stack H s E e s'->X.xe e s'
section
variable {X:Cx}{CX:CXT}{k:Nat}{f C:Addr}{fd:FuncData}{ps:List Str}{sp:Sp}{dvs:List V}{ds:List Value}{E:XK}{x m:Str}{p pos apos:Pos}{e o:Expr}{es:List Expr}{ta:TE}{t:TA}
theorem L0{pins:List (Addr×Obj)}{σ:St}{H:Hp}{s:Shared}{Q:VK}{us:List Value}{vs:List V}(F:bK X.prog X.w X.K X.mg X.base CX k f fd ps sp)(hr:cQ k X.A)(hb:Binds X.K fd ps ds)(hd:Vals dvs ds)(hx:Passes CX X E)
  (I:Inv X pins σ H s) (r:Vals vs us) (h:sp (vs++dvs) H Q E):wpAny (model X.prog X.w) X.A (call (.ref f) us) (EP X pins σ Q) X.xe s:=by
 have r2:Vals (vs++dvs) (us++ds):=r.append hd;have hl:(us++ds).length=ps.length:=by rw[<- r2.length];exact F.len _ _ _ _ h
 refine wpAny_call (codeAny_mono (F.run X.A X.stack s H ⟨us,[]⟩ (us++ds) (vs++dvs) Q E hr I.HL (hb s us I.kIn hl) r2 h) fun r s' hq=>?_);cases r with
 |error e=>exact hx pins σ H s e s' I hq
 |ok fl=>
  cases fl with
  |ret u=>exact I.after hq
  |next=>exact False.elim hq
  |brk=>exact False.elim hq
  |cont=>exact False.elim hq
theorem IY(F:bK X.prog X.w X.K X.mg X.base CX k f fd ps sp)(hr:cQ k X.A)(hg:Gl X x)(hm:X.mg x=some (.ref f))(hk:W.keepIn X.K (.ref f)=true)(hb:Binds X.K fd ps ds)(hd:Vals dvs ds)(hx:Passes CX X E)
  (ha:PA X (e::es) t) (hdb:(x==("__debug__" : Str))=false:=by decide) (he:starEach (e::es) X.env=(false,eval e X.env)::starEach es X.env:=by rfl) (hpl:(backTo pos (starEach es X.env)).any (·.1)=false:=by rfl):
  PE X (.Call (.Name x p) (e::es) [] pos) (BX sp dvs E t):=by
 intro pins s σ H Q I h;refine wpAny_Call_Name_kw (jC I hg hm ?_ hdb);refine W.callWith_K (h₀:=X.base) I.ok.mod.kin hk (thn (ha pos pins s σ H _ I h) fun us s1 ⟨vs,H1,I1,r,q⟩=>⟨I1.kIn,?_⟩) he hpl;exact L0 F hr hb hd hx I1 r q
structure Mk(K:W.Frag)(C f:Addr):Prop where
 makes:W.makesIn K C=true
 init:W.findIn K (.ref C) "__init__" =some (some (.ref f))
 fn:W.isFn K (.ref f)=true
 kp:W.keepIn K (.ref C)=true
theorem FU{pins:List (Addr×Obj)}{σ:St}{H:Hp}{s:Shared}{Q:VK}{us:List Value}{vs:List V}(M:Mk X.K C f)(F:bK X.prog X.w X.K X.mg X.base CX k f fd ps sp)(hr:cQ (k+1) X.A)(hb:Binds X.K fd ps ds)(hd:Vals dvs ds)
  (hx:Passes CX X E) (I:Inv X pins σ H s) (r:Vals vs us)
  (h:∀x dx,H x=none->H dx=none->dx≠x->sp (.ref x::(vs++dvs)) (upd (upd H dx (.own x)) x (.ins C dx [])) (fun v H2=>v=.non/\Q (.ref x) H2) E):
  wpAny (model X.prog X.w) X.A (call (.ref C) us) (EP X pins σ Q) X.xe s:=by
 have hq:=h (s.heap.objs.size+1) s.heap.objs.size (I.hok.fresh (Nat.le_succ _)) (I.hok.fresh (Nat.le_refl _)) (Nat.ne_of_lt (Nat.lt_succ_self _));have I2:=Inv.made (C:=C) I;have r2:Vals (V.ref (s.heap.objs.size+1)::(vs++dvs)) (Value.ref (s.heap.objs.size+1)::(us++ds)):=.cons rfl (r.append hd);have hl:(Value.ref (s.heap.objs.size+1)::us++ds).length=ps.length:=by have e:=r2.length;rw[F.len _ _ _ _ hq]at e;exact e.symm
 refine wpAny_call (GJ (f:=f) I.kIn M.makes M.init (beq_iff_eq.mp M.fn) (codeAny_mono (F.run _ X.stack _ _ ⟨Value.ref (s.heap.objs.size+1)::us,[]⟩ (Value.ref (s.heap.objs.size+1)::(us++ds)) _ _ E (hr.make C us [])
  (I2.HL.make C us []) (hb _ (Value.ref (s.heap.objs.size+1)::us) I2.kIn hl) r2 hq) fun r s' hq'=>?_))
 cases r with
 |error e=>exact hx pins σ _ _ e s' I2 hq'
 |ok fl=>
  cases fl with
  |ret u=>obtain⟨v,H',I3,rv,ev,q3⟩:=I2.after hq';subst ev;exact⟨rv,⟨V.ref (s.heap.objs.size+1),H',I3,rfl,q3⟩⟩
  |next=>exact False.elim hq'
  |brk=>exact False.elim hq'
  |cont=>exact False.elim hq'
theorem IX(M:Mk X.K C f)(F:bK X.prog X.w X.K X.mg X.base CX k f fd ps sp)(hr:cQ (k+1) X.A)(hg:Gl X x)(hm:X.mg x=some (.ref C))(hb:Binds X.K fd ps ds)(hd:Vals dvs ds)(hx:Passes CX X E)
  (ha:PA X (e::es) t) (hdb:(x==("__debug__" : Str))=false:=by decide) (he:starEach (e::es) X.env=(false,eval e X.env)::starEach es X.env:=by rfl) (hpl:(backTo pos (starEach es X.env)).any (·.1)=false:=by rfl):
  PE X (.Call (.Name x p) (e::es) [] pos) (ML C sp dvs E t):=by
 intro pins s σ H Q I h;refine wpAny_Call_Name_kw (jC I hg hm ?_ hdb);refine W.callWith_K (h₀:=X.base) I.ok.mod.kin M.kp (thn (ha pos pins s σ H _ I h) fun us s1 ⟨vs,H1,I1,r,q⟩=>⟨I1.kIn,?_⟩) he hpl;exact FU M F hr hb hd hx I1 r q
end
structure aK(N P:List Str)(sc:Scope):Prop where
 kind:sc.kind=.function
 co:sc.isCoroutine=false
 gen:sc.isGenerator=false
 nd:N.Nodup
 pre:N.take P.length=P
 par:∀x∈P,sc.names.lookup x=some .local\/sc.names.lookup x=some .cell
 LF:∀y∈sc.names,y.2≠ .free
theorem vP{kindOf:Str->Option NameKind}{x:Str}:∀{binds:List (Str×Value)}{m:Str->Option Value},(∀v,(x,v)∉binds)->bindL kindOf binds m x=m x
 |[],_,_=>rfl
 |(n,v)::r,m,h=>by
  unfold bindL;rw[vP fun w hw=>h w (List.mem_cons_of_mem _ hw)];split
  ·have:x≠n:=by rintro rfl;exact h v List.mem_cons_self
   simp[this]
  ·rfl
theorem vR{kindOf:Str->Option NameKind}{x:Str}:∀{binds:List (Str×Value)}{m:Str->Option Value},(∀v,(x,v)∉binds)->bindC kindOf binds m x=m x
 |[],_,_=>rfl
 |(n,v)::r,m,h=>by
  unfold bindC;rw[vR fun w hw=>h w (List.mem_cons_of_mem _ hw)];split
  ·rfl
  ·have:x≠n:=by rintro rfl;exact h v List.mem_cons_self
   simp[this]
theorem vQ{kindOf:Str->Option NameKind}{x:Str}{v:Value}:∀{P:List Str}{vs:List Value}{i:Nat}{m:Str->Option Value},P.Nodup->P[i]? =some x->vs[i]? =some v->kindOf x=some .local ->
  bindL kindOf (P.zip vs) m x=some v
 |[],_,_,_,_,h,_,_=>by simp at h
 |_::_,[],_,_,_,_,h,_=>by simp at h
 |p::P,w::vs,0,m,nd,h1,h2,hk=>by
  simp at h1 h2;subst h1;subst h2;show bindL kindOf ((p,w)::P.zip vs) m p=_
  unfold bindL;rw[vP fun v hv=>(List.nodup_cons.mp nd).1 (List.of_mem_zip hv).1,if_pos hk];simp
 |p::P,w::vs,i+1,m,nd,h1,h2,hk=>by
  show bindL kindOf ((p,w)::P.zip vs) m x=_
  unfold bindL;exact vQ (i:=i) (List.nodup_cons.mp nd).2 (by simpa using h1) (by simpa using h2) hk
theorem vS{kindOf:Str->Option NameKind}{x:Str}{v:Value}:∀{P:List Str}{vs:List Value}{i:Nat}{m:Str->Option Value},P.Nodup->P[i]? =some x->vs[i]? =some v->kindOf x≠some .local ->
  bindC kindOf (P.zip vs) m x=some v
 |[],_,_,_,_,h,_,_=>by simp at h
 |_::_,[],_,_,_,_,h,_=>by simp at h
 |p::P,w::vs,0,m,nd,h1,h2,hk=>by
  simp at h1 h2;subst h1;subst h2;show bindC kindOf ((p,w)::P.zip vs) m p=_
  unfold bindC;rw[vR fun v hv=>(List.nodup_cons.mp nd).1 (List.of_mem_zip hv).1,if_neg hk];simp
 |p::P,w::vs,i+1,m,nd,h1,h2,hk=>by
  show bindC kindOf ((p,w)::P.zip vs) m x=_
  unfold bindC;exact vS (i:=i) (List.nodup_cons.mp nd).2 (by simpa using h1) (by simpa using h2) hk
noncomputable def start(N:List Str)(vs:List V):St:=vs.map some++List.replicate (N.length - vs.length) none
noncomputable def u6(CX:CXT)(P:Program)(w:World)(K:W.Frag)(mg:Str->Option Value)(base:Heap)(N:List Str)(qual:Str)(scope:Scope)(f:Addr)(cd:Value)(A:Around)(outer:List Env)(s:Shared)(H:Hp)(E:XK):Cx where
 prog:=P
 w:=w
 K:=K
 mg:=mg
 base:=base
 A:=A.deeper (envOfC qual scope s.heap.objs.size f cd)
 N:=N
 s_0:=s
 H_0:=H
 env:=envOfC qual scope s.heap.objs.size f cd
 outer:=outer
 stack:=envOfC qual scope s.heap.objs.size f cd::outer
 ex:=[]
 calm:=true
 fn:=fun _=>true
 pn:=[]
 xe:=fun e s'=>wpAny (model P w) (A.deeper (envOfC qual scope s.heap.objs.size f cd)) (leaving (envOfC qual scope s.heap.objs.size f cd) e) (fun _ s''=>CX outer H s E e s'') (fun e' s''=>CX outer H s E e' s'') s'
theorem zO{sc:Scope}{n:Nat}{x:Str}(h:sc.names.lookup x=some .cell):∃c,(cellsFrom n sc.names []).lookup x=some c:=by have q:=W.cellsFrom_some sc.names n [] (.inl h);exact Option.isSome_iff_exists.mp q
theorem pI{CX:CXT}{P:Program}{w:World}{K:W.Frag}{mg:Str->Option Value}{base:Heap}{N ps:List Str}{qual:Str}{scope:Scope}{f:Addr}{cd:Value}{A:Around}{outer:List Env}{s s1:Shared}{H:Hp}{E:XK}{us:List Value}{vs:List V}
  (S:aK N ps scope) (hd:A.handled=none) (e0:oI P w K mg base A outer s H) (hl:vs.length=ps.length) (r:Vals vs us)
  (x:InCallC s s.heap.objs.size (bindL (envOfC qual scope s.heap.objs.size f cd).kindOf (ps.zip us) fun _=>none) (cellsFrom (s.heap.objs.size+1) scope.names []) (bindC (envOfC qual scope s.heap.objs.size f cd).kindOf (ps.zip us) fun _=>none) s1):
  Inv (u6 CX P w K mg base N qual scope f cd A outer s H E) [] (start N vs) H s1:=by
 have hpl:ps.length<=N.length:=by have:=congrArg List.length S.pre;rw[List.length_take]at this;omega
 obtain⟨h1,tk,rfl,hk⟩:=x.done;have noA:∀b:Addr,b∉ (u6 CX P w K mg base N qual scope f cd A outer s H E).ex:=fun b z=>absurd (show b∈([]:List Addr)from z) (by simp)
 refine⟨⟨e0.mod,S.kind,rfl,rfl,Nat.le_refl _,fun y z c h1 h2=>?_,fun y hy=>?_,fun y c _ h=>?_,fun _=>hd,Around.frames_deeper e0.frames,.inr ⟨rfl,rfl⟩,fun b z=>absurd z (noA b),e0.bs,e0.bsz,fun b _ _=>noA b,fun b z=>absurd z (noA b),e0.kJ,e0.frf⟩,
  rfl,e0.bare,Un.kept hk,⟨_,x.toInCall.ns,fun i y v h1 h2 h3=>?_⟩,fun y c h=>⟨_,x.cell y c h⟩,e0.hok.fresh (Nat.le_refl _),fun y c h=>?_,fun p hp=>absurd (show p∈([]:List (Addr×Obj))from hp) (by simp),e0.hok.kept hk,?_⟩
 ·exact name_of_addr x.apart (PySem.mem_of_lookup h1) (PySem.mem_of_lookup h2)
 ·have hy:scope.names.lookup y=some .cell\/scope.names.lookup y=some .free:=hy;rcases hy with hy|hy
  ·exact zO hy
  ·exact absurd rfl (S.LF _ (PySem.mem_of_lookup hy))
 ·exact Nat.le_of_lt (x.above y c (PySem.mem_of_lookup h))
 ·have hi:i<vs.length:=by
   unfold start at h2;by_cases hi:i<vs.length
   ·exact hi
   ·rw[List.getElem?_append_right (by simpa using hi)]at h2;rw[List.getElem?_replicate]at h2;split at h2<;>cases h2
  have ha:vs[i]? =some v:=by
   unfold start at h2;rw[List.getElem?_append_left (by simpa using hi),List.getElem?_map]at h2;cases e:vs[i]? with
   |none=>rw[e]at h2;cases h2
   |some a=>rw[e]at h2;cases h2;rfl
  obtain⟨u,hu,rv⟩:=r.get ha;have hp:ps[i]? =some y:=by rw[<- S.pre,List.getElem?_take_of_lt (by omega)];exact h1
  have ndP:ps.Nodup:=by rw[<- S.pre];exact S.nd.sublist (List.take_sublist _ _)
  refine⟨u,rv,?_⟩;rcases S.par y (List.mem_of_getElem? hp)with k|k
  ·exact .inl ⟨k,vQ ndP hp hu k⟩
  ·obtain⟨c,e⟩:=zO (n:=s.heap.objs.size+1) k;refine .inr ⟨.inl k,c,e,?_⟩;have q:=x.cell y c e;rw[vS ndP hp hu (by show scope.names.lookup y≠ _;rw[k];decide)]at q;exact q
 ·exact e0.hok.fresh (Nat.le_of_lt (x.above y c (PySem.mem_of_lookup h)))
 ·unfold start;show _=N.length
  rw[List.length_append,List.length_map,List.length_replicate];omega
theorem R5{CX:CXT}{P:Program}{w:World}{K:W.Frag}{mg:Str->Option Value}{base:Heap}{k:Nat}{f:Addr}{name qual:Str}{params:Arguments}{body:List Stmt}{scope:Scope}{dV kV doc pm cdv ct oc:Value}{an od:Option Addr}
  {osl:Array (Option Value)}{N ps:List Str}{sp:Sp} (lk:K.lookup f=some ⟨oc,od,.func (W.fnOf name qual params body scope dV kV doc pm an cdv ct),osl⟩) (hcd:W.codeIn K cdv qual=true) (S:aK N ps scope)
  (len:∀vs H Q E,sp vs H Q E->vs.length=ps.length)
  (hbody:∀(A:Around)(outer:List Env)(s:Shared)(H:Hp)(vs:List V)(Q:VK)(E:XK),cQ k (A.deeper (envOfC qual scope s.heap.objs.size f cdv))->sp vs H Q E ->
   ∃t,PSs (u6 CX P w K mg base N qual scope f cdv A outer s H E) body t/\t {nx:=fun _ H'=>Q .non H',rt:=Q} (start N vs) H):
  bK P w K mg base CX (k+1) f (W.fnOf name qual params body scope dV kV doc pm an cdv ct) ps sp:=by
 refine⟨len,fun A outer s H args us vs Q E hr e0 hb r hsp=>?_⟩;have hl:=len _ _ _ _ hsp;have KX:K.In s.heap:=e0.mod.kin.keeps fun b o e=>(e0.bs b o e).1
 have lim:s.heap.NoLimit:=e0.mod.nolimit.keeps fun b o e=>(e0.bs b o e).1
 have hkind:∀y∈ps.zip us,scope.names.lookup y.1=some .local\/(scope.names.lookup y.1=some .cell/\((cellsFrom (s.heap.objs.size+1) scope.names []).lookup y.1).isSome=true):=fun⟨n,v⟩ hy=>by
  rcases S.par n (List.of_mem_zip hy).1 with q|q
  ·exact .inl q
  ·exact .inr ⟨q,W.cellsFrom_some _ _ _ (.inl q)⟩
 refine codeAny_call_function hr.depth (KX _ _ lk) rfl S.co S.gen rfl (W.codeRec_of KX hcd) (hb _ _ _ _ ?_);refine wpAny_newFunctionEnv_cells S.kind hkind fun env he s1 x=>?_
 subst he;refine⟨lim.keeps x.toInCall.keep,codeAny_func ?_⟩;obtain⟨t,ht,hq⟩:=hbody A outer s H vs Q E (hr.deeper _) hsp;have I:Inv (u6 CX P w K mg base N qual scope f cdv A outer s H E) [] (start N vs) H s1:=pI S hr.hd e0 hl r x;refine wpAny_mono (ht [] s1 (start N vs) H _ I hq) (fun fl s' hs=>?_) fun e s' hs=>hs
 have fin:∀{σ':St}{H':Hp}{v:V}{u:Value},Inv (u6 CX P w K mg base N qual scope f cdv A outer s H E) [] σ' H' s'->RelV v u->Q v H'->CE outer P w H s Q u s':=
  fun{σ' H' v u} J rv q=>⟨v,H',J.os,J.bare,J.base,J.hok,rv,q⟩
 cases fl with
 |ret u=>obtain⟨v,σ',H',J,rv,q⟩:=hs;exact fin J rv q
 |next=>obtain⟨σ',H',J,q⟩:=hs;exact fin (v:=V.non) (u:=Value.none) J rfl q
 |brk=>obtain⟨_,_,_,q⟩:=hs;exact False.elim q
 |cont=>obtain⟨_,_,_,q⟩:=hs;exact False.elim q
end L2
namespace L2
open PySem PySem.Spec PyProof.Rows
section
variable {X:Cx}{x:Str}{p pos:Pos}{e:Expr}{es:List Expr}{t:TA}{id T:String}{r:List V->Hp->VK->Prop}
noncomputable def tCB(r:List V->Hp->VK->Prop)(t:TA):TE:=fun σ H Q=>t σ H fun vs H1=>r vs H1 Q
theorem bM(hc:jT X (.builtin id) r)(hg:Gl X x)(hm:X.mg x=none)(hv:bootBuiltins x=some (.builtin id))(ha:PA X (e::es) t)(hn:x≠ "__name__" :=by decide)(hdb:(x==("__debug__" : Str))=false:=by decide)
  (he:starEach (e::es) X.env=(false,eval e X.env)::starEach es X.env:=by rfl) (hpl:(backTo pos (starEach es X.env)).any (·.1)=false:=by rfl):PE X (.Call (.Name x p) (e::es) [] pos) (tCB r t):=by
 intro pins s σ H Q I h;refine wpAny_Call_Name_kw (mE I hg hm hv ?_ hn hdb);exact PyProof.Rows.callWith_builtin1 (thn (ha pos pins s σ H _ I h) fun us s1 ⟨vs,H1,I1,r1,q1⟩=>hc pins s1 σ H1 vs us Q I1 r1 q1) he hpl
theorem uU(hc:jT X (.type T) r)(hg:Gl X x)(hm:X.mg x=none)(hv:bootBuiltins x=some (.type T))(ha:PA X (e::es) t)(hn:x≠ "__name__" :=by decide)(hdb:(x==("__debug__" : Str))=false:=by decide)
  (he:starEach (e::es) X.env=(false,eval e X.env)::starEach es X.env:=by rfl) (hpl:(backTo pos (starEach es X.env)).any (·.1)=false:=by rfl):PE X (.Call (.Name x p) (e::es) [] pos) (tCB r t):=by
 intro pins s σ H Q I h;refine wpAny_Call_Name_kw (mE I hg hm hv ?_ hn hdb);exact PyProof.Rows.callWith_type1 (thn (ha pos pins s σ H _ I h) fun us s1 ⟨vs,H1,I1,r1,q1⟩=>hc pins s1 σ H1 vs us Q I1 r1 q1) he hpl
end
end L2
namespace HT
open PySem PyProof.Rows
section
variable {prog:Program}{w:World}{A:Around}{E:Value->Shared->Prop}{s:Shared}
noncomputable def sIx(n d:Nat):Option Int->Nat
 |none=>d
 |some v=>if v<0 then(v+(n:Int)).toNat else min v.toNat n
end
end HT
namespace L2
open PySem PySem.Spec PyProof.Rows
abbrev TO:=St->Hp->(Option Int->Hp->Prop)->Prop
noncomputable def PO(X:Cx)(e:Option Expr)(t:TO):Prop:=
 ∀(pins:List (Addr×Obj))(s:Shared)(σ:St)(H:Hp)(Q:Option Int->Hp->Prop),Inv X pins σ H s->t σ H Q ->
  wpAny (model X.prog X.w) X.A (evalPart e X.env) (fun u s'=>∃o H',Inv X pins σ H' s'/\IsPart u o/\Q o H') X.xe s
def IH:TO:=fun _ H Q=>Q none H
def MI(t:TE):TO:=fun σ H Q=>t σ H fun x H1=>∃i,x=.int i/\Q (some i) H1
section
variable {X:Cx}{e:Expr}{te:TE}{lo hi:Option Expr}{tl th:TO}{pos p2:Pos}
theorem IU:PO X none IH:=by intro pins s σ H Q I h;rw[evalPart_none];exact wpAny_pure ⟨none,H,I,.none,h⟩
theorem IT(h:PE X e te):PO X (some e) (MI te):=by
 intro pins s σ H Q I hw;rw[evalPart_some];refine thn (h pins s σ H _ I hw) fun u s1 ⟨x,H1,I1,r1,q1⟩=>?_
 obtain⟨i,rfl,q⟩:=q1;obtain⟨t,rfl⟩:=r1;exact⟨some i,H1,I1,.int i t,q⟩
noncomputable def SlR(X:Cx)(r:V->Option Int->Option Int->Hp->VK->Prop):Prop:=
 ∀(pins:List (Addr×Obj))(s:Shared)(σ:St)(H:Hp)(x:V)(v vl vu:Value)(lo hi:Option Int)(sl:Addr)(Q:VK),Inv X pins σ H s->RelV x v->s.heap.IsSliceOf sl vl vu .none->IsPart vl lo->IsPart vu hi->r x lo hi H Q ->
  ∃T id,typeLookup (.type T) "__getitem__" =pure (some (.builtin id))/\s.TypeIs v T/\wpAny (model X.prog X.w) X.A (getItem v (.ref sl)) (EP X pins σ Q) X.xe s
noncomputable def tSl(r:V->Option Int->Option Int->Hp->VK->Prop)(te:TE)(tl th:TO):TE:=fun σ H Q=>te σ H fun x H1=>tl σ H1 fun l H2=>th σ H2 fun u H3=>r x l u H3 Q
theorem G6{r:V->Option Int->Option Int->Hp->VK->Prop}(hr:SlR X r)(he:PE X e te)(hl:PO X lo tl)(hu:PO X hi th):PE X (.Subscript e (.Slice lo hi none p2) pos) (tSl r te tl th):=by
 intro pins s σ H Q I h;refine Subscript_ (thn (he pins s σ H _ I h) fun v s1 ⟨x,H1,I1,r1,q1⟩=>?_);refine wpAny_Slice (thn (hl pins s1 σ H1 _ I1 q1) fun vl s2 ⟨l,H2,I2,pl,q2⟩=>thn (hu pins s2 σ H2 _ I2 q2) fun vu s3 ⟨u,H3,I3,pu,q3⟩=>?_);rw[evalPart_none];refine wpAny_pure ?_;have I4:Inv X pins σ H3 {s3 with heap:=s3.heap.push {cls:=.type "slice",data:=.fields #[vl,vu,.none]}}:=I3.kept (t':=s3.toks) fun b ob q=>Heap.get?_push_of_some _ q
 obtain⟨T,id,hT,ht,hg⟩:=hr pins {s3 with heap:=s3.heap.push {cls:=.type "slice",data:=.fields #[vl,vu,.none]}} σ H3 x v vl vu l u s3.heap.objs.size Q I4 r1 (Heap.IsSliceOf.new ..) pl pu q3;show wpAny (model X.prog X.w) X.A (subscriptTail e (.Slice lo hi none p2) v (.ref s3.heap.objs.size)) (EP X pins σ Q) X.xe {s3 with heap:=s3.heap.push {cls:=.type "slice",data:=.fields #[vl,vu,.none]}}
 exact tail_any (ops:=[.ref s3.heap.objs.size,v]) ht hT hg (by with_unfolding_all rfl)
noncomputable def EY(xs:List V)(lo hi:Option Int):List V:=(xs.drop (HT.sIx xs.length 0 lo)).take (HT.sIx xs.length xs.length hi - HT.sIx xs.length 0 lo)
theorem zL(xs:List V)(lo hi:Option Int):(EY xs lo hi).length<=xs.length:=by unfold EY;rw[List.length_take,List.length_drop];omega
end
end L2
namespace L2
open PySem PySem.Spec PyProof.Rows
noncomputable def ixN(n:Nat)(i:Int):Option Nat:=if 0<=i then(if i<n then some i.toNat else none)else if -(n:Int)<=i then some (i+n).toNat else none
def atI{α:Type}(xs:List α)(i:Int):Option α:=(ixN xs.length i).bind fun j=>xs[j]?
theorem JF{n:Nat}{i:Int}{j:Nat}(h:ixN n i=some j):seqIndex? i n=some j/\j<n/\-(n:Int)<=i/\i<n:=by
 unfold ixN at h;by_cases h0:0<=i
 ·rw[if_pos h0]at h;by_cases h1:i<n
  ·rw[if_pos h1]at h;have e:i.toNat=j:=Option.some.inj h;exact⟨by rw[seqIndex_of h0 h1,e],by omega,by omega,h1⟩
  ·rw[if_neg h1]at h;cases h
 ·rw[if_neg h0]at h;by_cases h1:-(n:Int)<=i
  ·rw[if_pos h1]at h;have e:(i+n).toNat=j:=Option.some.inj h;exact⟨by rw[seqIndex_neg (by omega) h1,e],by omega,h1,by omega⟩
  ·rw[if_neg h1]at h;cases h
theorem CZ{α:Type}{xs:List α}{i:Int}{v:α}(h:atI xs i=some v):∃j,seqIndex? i xs.length=some j/\xs[j]? =some v/\j<xs.length/\-(xs.length:Int)<=i/\i<xs.length:=by
 unfold atI at h;cases e:ixN xs.length i with
 |none=>rw[e]at h;cases h
 |some j=>rw[e]at h;obtain⟨h1,h2,h3,h4⟩:=JF e;exact⟨j,h1,h,h2,h3,h4⟩
theorem K0{α:Type}{xs:List α}{j:Nat}{v:α}(h:xs[j]? =some v):atI xs (j:Int)=some v:=by
 have hj:j<xs.length:=(List.getElem?_eq_some_iff.mp h).1;have e:ixN xs.length (j:Int)=some j:=by unfold ixN;rw[if_pos (by omega),if_pos (by omega)];simp
 unfold atI;rw[e];exact h
def K2(b:Expr):Prop:=∀o i,subscripted b false o i=operate [o,i] (getItem o i)
noncomputable def IxR(X:Cx)(r:R2):Prop:=
 ∀(value slice:Expr)(pins:List (Addr×Obj))(s:Shared)(σ:St)(H:Hp)(x y:V)(v u:Value)(Q:VK),Inv X pins σ H s->RelV x v->RelV y u->r x y H Q ->
  subscripted slice false v u=operate [v,u] (getItem v u)->wpAny (model X.prog X.w) X.A (subscriptTail value slice v u) (EP X pins σ Q) X.xe s
noncomputable def MtR(X:Cx)(id:String)(r:V->List V->Hp->VK->Prop):Prop:=
 ∀(pins:List (Addr×Obj))(s:Shared)(σ:St)(H:Hp)(x:V)(xs:List V)(v:Value)(us:List Value)(Q:VK),Inv X pins σ H s->RelV x v->Vals xs us->r x xs H Q ->
  wpAny (model X.prog X.w) X.A (call (.builtin id) (v::us)) (EP X pins σ Q) X.xe s
section
variable {X:Cx}{a b:Expr}{ta tb:TE}{pos:Pos}
theorem cN{r:R2}(hr:IxR X r)(ha:PE X a ta)(hb:PE X b tb)(hs:K2 b):PE X (.Subscript a b pos) (tOp r ta tb):=by intro pins s σ H Q I h;exact Subscript_ (M8 ha hb I h fun v u s2 x y H2 I2 rx ry q=>hr a b pins s2 σ H2 x y v u Q I2 rx ry q (hs _ _))
noncomputable def S6(K:W.Frag):R2:=fun x y H Q=>∃p xs i v,x=.ref p/\y=.int i/\SqL K H p xs/\atI xs i=some v/\Q v H
noncomputable def MU(K:W.Frag):R2:=fun x y H Q=>∃p xs i v,x=.ref p/\y=.int i/\SqT K H p xs/\atI xs i=some v/\Q v H
theorem nM:IxR X (S6 X.K):=by
 intro value slice pins s σ H x y v u Q I rx ry h hs;obtain⟨p,xs,i,z,rfl,rfl,hq,he,q⟩:=h;cases rx;obtain⟨t,rfl⟩:=ry;obtain⟨its,r,pl,hz⟩:=I.list hq;obtain⟨j,h1,h2,h3,h4,h5⟩:=CZ he;obtain⟨w,ew,rw'⟩:=r.get h2;have hl:=r.length;have hn:=sQ;have fin:EP X pins σ Q w s:=⟨z,H,I,rw',q⟩;by_cases h0:0<=i
 ·have hj:i.toNat=j:=by rw[seqIndex_of h0 h5]at h1;exact Option.some.inj h1
  exact item_listR pl.isList h0 (by omega) (by rw[hj];simpa using ew) fin hs
 ·have hj:(i+(its.toArray.size:Int)).toNat=j:=by rw[seqIndex_neg (by omega) h4]at h1;rw[List.size_toArray,<- hl];exact Option.some.inj h1
  exact subscriptTail_builtinR (x:=w) pl.isList.typeIs slot_list_getitem.lookup
   (wpAny_getItem_list_neg (Q:=fun r s'=>r=w/\EP X pins σ Q r s') pl.isList (by omega) (by rw[List.size_toArray]<;>omega) (by omega) (by rw[hj];simpa using ew) ⟨rfl,fin⟩) hs
theorem cD:IxR X (MU X.K):=by
 intro value slice pins s σ H x y v u Q I rx ry h hs;obtain⟨p,xs,i,z,rfl,rfl,hq,he,q⟩:=h;cases rx;obtain⟨t,rfl⟩:=ry;obtain⟨its,r,pl,hz⟩:=I.tuple hq;obtain⟨j,h1,h2,h3,h4,h5⟩:=CZ he;obtain⟨w,ew,rw'⟩:=r.get h2;have hl:=r.length;have hn:=sQ;have fin:EP X pins σ Q w s:=⟨z,H,I,rw',q⟩;exact subscriptTail_builtinR (x:=w) pl.typeIs slot_tuple_getitem.lookup
  (getItem_tuple (j:=j) (Q:=fun r s'=>r=w/\EP X pins σ Q r s') pl (by omega) (by omega) (by rw[List.size_toArray,<- hl];exact h1) (by simpa using ew) ⟨rfl,fin⟩) hs
theorem wB(lo hi:Option Int)(n:Nat):(sliceBounds lo hi none n).1=((HT.sIx n 0 lo:Nat):Int)/\(sliceBounds lo hi none n).2.1=((HT.sIx n n hi:Nat):Int)/\(sliceBounds lo hi none n).2.2=1:=by
 refine⟨?_,?_,rfl⟩
 ·cases lo with
  |none=>simp[sliceBounds,HT.sIx]
  |some i=>
   simp only[sliceBounds,HT.sIx,Option.getD_none,show(1:Int)>0 by decide,if_true];by_cases h:i<0
   ·simp only[h,if_true]<;>omega
   ·simp only[h,if_false]<;>omega
 ·cases hi with
  |none=>simp[sliceBounds,HT.sIx]
  |some i=>
   simp only[sliceBounds,HT.sIx,Option.getD_none,show(1:Int)>0 by decide,if_true];by_cases h:i<0
   ·simp only[h,if_true]<;>omega
   ·simp only[h,if_false]<;>omega
theorem tT(its:List Value)(lo hi:Option Int):slicePick its.toArray lo hi none=((its.drop (HT.sIx its.length 0 lo)).take (HT.sIx its.length its.length hi - HT.sIx its.length 0 lo)).toArray:=by obtain⟨h1,h2,h3⟩:=wB lo hi its.toArray.size;unfold slicePick;rw[h1,h2,h3];simp only[sliceRange_one,pick_run,List.size_toArray]<;>rfl
noncomputable def RZ(K:W.Frag):V->Option Int->Option Int->Hp->VK->Prop:=fun x lo hi H Q=>∃a xs,x=.ref a/\SqL K H a xs/\∀p,H p=none->Q (.ref p) (upd H p (.lst (EY xs lo hi)))
theorem IL:SlR X (RZ X.K):=by intro pins s σ H x v vl vu lo hi sl Q I rx hs pl pu h;obtain⟨a,xs,rfl,hx,q⟩:=h;cases rx;obtain⟨its,r,ht,hz⟩:=I.list hx;have hlen:=r.length;refine⟨"list",_,slot_list_getitem.lookup,ht.isList.typeIs,?_⟩;refine wpAny_getItem_list_slice ht.isList hs pl pu .none (by simp) ?_ (by rw[List.size_toArray]<;>omega);rw[tT,<- hlen];refine⟨.ref s.heap.objs.size,_,I.laid (t':=s.toks) (o:=.lst (EY xs lo hi)) (fun b ob q=>Heap.get?_push_of_some _ q) (Nat.le_refl _) ?_,rfl,q _ (I.hok.fresh (Nat.le_refl _))⟩;exact⟨Nat.le_trans (zL xs lo hi) hz,_,0,(r.drop (HT.sIx xs.length 0 lo)).take (HT.sIx xs.length xs.length hi - HT.sIx xs.length 0 lo),Heap.get?_push_size _ rfl⟩
theorem cF:jT X (.builtin "len") (fun xs H Q=>∃p ys,xs=[.ref p]/\(SqL X.K H p ys\/SqT X.K H p ys)/\Q (.int ys.length) H):=by
 intro pins s σ H xs us Q I r h;obtain⟨p,ys,rfl,hq,q⟩:=h;obtain⟨u,rfl,rx⟩:=vals1 r;cases rx;have hn:=sQ;rcases hq with hq|hq
 ·obtain⟨its,r',pl,hz⟩:=I.list hq;have hlen:=r'.length;exact Calls.call_len_list pl.isList (by simp only[List.size_toArray]<;>omega) ⟨.int ys.length,H,I.tok _,⟨s.toks+1,by rw[List.size_toArray,hlen]⟩,q⟩
 ·obtain⟨its,r',pl,hz⟩:=I.tuple hq;have hlen:=r'.length;exact len_tuple pl (by simp only[List.size_toArray]<;>omega) ⟨.int ys.length,H,I.tok _,⟨s.toks+1,by rw[List.size_toArray,hlen]⟩,q⟩
noncomputable def tyV(K:W.Frag)(T:String)(x:V)(H:Hp):Prop:=match x with
 | .str _=>T= "str"
 | .int _=>T= "int"
 | .ref p=>(T= "list" /\∃xs,SqL K H p xs)\/(T= "tuple" /\∃o,K.lookup p=some o/\o.cls=.type "tuple" /\o.dict=none)\/
   (T= "dict" /\((∃kvs,H p=some (.dK kvs))\/∃kvs,H p=some (.dT kvs)))\/(T= "set" /\∃S n,H p=some (.set S n))
 |_=>False
theorem FJ{pins:List (Addr×Obj)}{σ:St}{H:Hp}{s:Shared}{T:String}{x:V}{v:Value}(I:Inv X pins σ H s)(r:RelV x v)(ty:tyV X.K T x H):
  s.TypeIs v T/\∀a,v=.ref a->∃ob,s.heap.get? a=some ob/\ob.dict=none:=by
 cases x with
 |str z=>obtain⟨t,rfl⟩:=r;cases (show T= "str" from ty);exact⟨typeIs_str s z t,fun _ e=>nomatch e⟩
 |int i=>obtain⟨t,rfl⟩:=r;cases (show T= "int" from ty);exact⟨typeIs_int s i t,fun _ e=>nomatch e⟩
 |ref p=>
  cases r;rcases ty with⟨rfl,xs,hq⟩|⟨rfl,o,hk,hc,hd⟩|⟨rfl,hk⟩|⟨rfl,S,n,hk⟩
  ·obtain⟨its,_,pl,_⟩:=I.list hq;refine⟨pl.isList.typeIs,fun a e=>?_⟩;cases e;obtain⟨o,n,e,c,hd,_⟩:=pl;exact⟨o,e,hd⟩
  ·refine⟨⟨o,I.kIn p o hk,hc⟩,fun a e=>?_⟩;cases e;exact⟨o,I.kIn _ o hk,hd⟩
  ·have z:∃o,s.heap.get? p=some o/\o.ExactDict:=by
    rcases hk with⟨kvs,hk⟩|⟨kvs,hk⟩
    ·obtain⟨_,_,_,_,o,_,_,e,ex,_⟩:=I.hok p _ hk;exact⟨o,e,ex⟩
    ·obtain⟨_,_,_,_,o,_,_,e,ex,_⟩:=I.hok p _ hk;exact⟨o,e,ex⟩
   obtain⟨o,e,ex⟩:=z;refine⟨⟨o,e,ex.1⟩,fun a e2=>?_⟩;cases e2;exact⟨o,e,ex.2.1⟩
  ·obtain⟨o,_,_,_,e,ex,_⟩:=I.hok p _ hk;refine⟨⟨o,e,ex.1⟩,fun a e2=>?_⟩;cases e2;exact⟨o,e,ex.2.1⟩
 |_=>exact False.elim ty
noncomputable def RQ(K:W.Frag)(T:String)(r:V->List V->Hp->VK->Prop)(to:TE):TE:=fun σ H Q=>to σ H fun x H1=>tyV K T x H1/\r x [] H1 Q
noncomputable def tBM(K:W.Frag)(T:String)(r:V->List V->Hp->VK->Prop)(to:TE)(t:TA):TE:=fun σ H Q=>to σ H fun x H1=>tyV K T x H1/\t σ H1 fun xs H2=>r x xs H2 Q
variable {o e:Expr}{es:List Expr}{to:TE}{t:TA}{name:Str}{apos cpos:Pos}{T id:String}{r:V->List V->Hp->VK->Prop}
theorem AE(pa:PlainAttrs T)(slot:Slot T name id)(hty:typeOf (.builtin id)=pure (.type "method_descriptor"))(hm:MtR X id r)(ho:PE X o to)
  (hbase:attributeBase o name X.env (eval o X.env)=eval o X.env:=by rfl) (hline:(apos.endLine==cpos.line)=true:=by rfl):PE X (.Call (.Attribute o name apos) [] [] cpos) (RQ X.K T r to):=by
 intro pins s σ H Q I h;refine wpAny_Call_method0_late hbase hline (thn (ho pins s σ H _ I h) fun v s1 ⟨x,H1,I1,r1,ty,q1⟩=>?_);obtain⟨h1,h2⟩:=FJ I1 r1 ty;exact⟨T,id,pa,slot,hty,h1,h2,Calls.callWith_builtin rfl (PySem.evalArgs_none (hm pins s1 σ H1 x [] v [] Q I1 r1 .nil q1))⟩
theorem iR(pa:PlainAttrs T)(slot:Slot T name id)(hty:typeOf (.builtin id)=pure (.type "method_descriptor"))(hm:MtR X id r)(ho:PE X o to)(ha:PA X (e::es) t)
  (hbase:attributeBase o name X.env (eval o X.env)=eval o X.env:=by rfl)
  (hfew:((backTo cpos (starEach (e::es) X.env)).all (fun x=>!x.1)&& (backToKw cpos (keywordEach [] X.env)).all (fun x=>x.1.isSome)
   && decide ((e::es).length+([]:List Keyword).length+(if([]:List Keyword).isEmpty then 0 else 1)<30))=true:=by rfl)
  (hline:(apos.endLine==cpos.line)=true:=by rfl) (hs:starEach (e::es) X.env=(false,eval e X.env)::starEach es X.env:=by rfl) (hplain:(backTo cpos (starEach es X.env)).any (·.1)=false:=by rfl):
  PE X (.Call (.Attribute o name apos) (e::es) [] cpos) (tBM X.K T r to t):=by
 intro pins s σ H Q I h;refine wpAny_Call_method_late hbase hfew hline rfl (thn (ho pins s σ H _ I h) fun v s1 ⟨x,H1,I1,r1,ty,q1⟩=>?_);obtain⟨h1,h2⟩:=FJ I1 r1 ty;refine⟨T,id,pa,slot,hty,h1,h2,?_⟩;have hA:=ha cpos pins s1 σ H1 _ I1 q1;rw[hs]at hA ⊢;refine Calls.callWith_builtin (by show(false||(backTo cpos (starEach es X.env)).any (·.1))=false;rw[hplain]<;>rfl) (Calls.evalArgs_plain ?_);exact thn hA fun us s2 ⟨vs,H2,I2,r2,q2⟩=>hm pins s2 σ H2 x vs v us Q I2 r1 r2 q2
end
end L2
namespace L2
open PySem PySem.Spec PyProof.Rows
noncomputable def MtM(X:Cx)(id:String)(r:V->List V->Hp->VK->Prop):Prop:=
 ∀(pins:List (Addr×Obj))(s:Shared)(σ:St)(H:Hp)(x:V)(xs:List V)(v:Value)(us:List Value)(Q:VK),Inv X pins σ H s->RelV x v->Vals xs us->r x xs H Q ->
  wpAny (model X.prog X.w) X.A (call (.builtin id) (v::us)) (EP X pins σ Q) X.xe s
theorem Vals.one:∀{x:V}{us:List Value},Vals [x] us->∃u,us=[u]/\RelV x u
 |_,_,.cons r .nil=>⟨_,rfl,r⟩
theorem Vals.zero:∀{us:List Value},Vals [] us->us=[]
 |_,.nil=>rfl
theorem Vals.dropLast{xs:List V}{us:List Value}(h:Vals xs us):Vals xs.dropLast us.dropLast:=by
 induction h with
 |nil=>exact .nil
 |cons r t ih=>
  cases t with
  |nil=>exact .nil
  |cons q t'=>exact .cons r ih
theorem BI{α:Type}(l:List α):l.eraseIdx (l.length - 1)=l.dropLast:=by
 induction l with
 |nil=>rfl
 |cons a r ih=>
  cases r with
  |nil=>rfl
  |cons b r=>
   have e:(a::b::r).length - 1=((b::r).length - 1)+1:=by have h1:(a::b::r).length=r.length+2:=rfl;have h2:(b::r).length=r.length+1:=rfl;omega
   rw[e,List.eraseIdx_cons_succ,ih];all_goals rfl
section
variable {X:Cx}{pins:List (Addr×Obj)}{σ:St}{H:Hp}{s:Shared}{l b:Addr}{xs ys zs:List V}
theorem Inv.DZ{its its':List Value}{n:Nat}{f:Array Value->Array Value}{t':Nat}(I:Inv X pins σ H s)(hH:H l=some (.lst xs))
  (e:s.heap.get? l=some {cls:=.type "list",data:=.seq its.toArray n}) (hf:f its.toArray=its'.toArray) (hv:Vals ys its') (hz:ys.length<=sizeLine):
  Inv X pins σ (upd H l (.lst ys)) {s with heap:=s.heap.update l (Obj.mapSeq f),toks:=t'}:=by
 have q:=PySem.IsL.update e f;rw[hf]at q;refine I.write (x:=l) (e:=l) (by rw[hH];exact trivial) (.inl rfl) (fun b' u hb hu=>(Heap.get?_update_other s.heap (Obj.mapSeq f) (Ne.symm hb)).trans hu) ⟨_,q⟩ ?_;exact⟨hz,its',_,hv,q⟩
theorem Inv.LH{its:List Value}{t':Nat}(I:Inv X pins σ H s)(hv:Vals ys its)(hz:ys.length<=sizeLine):
  Inv X pins σ (upd H s.heap.objs.size (.lst ys)) {s with heap:=s.heap.push {cls:=.type "list",data:=.seq its.toArray},toks:=t'}:=
 I.laid (fun _ _ q=>Heap.get?_push_of_some _ q) (Nat.le_refl _) ⟨hz,its,0,hv,Heap.get?_push_size _ rfl⟩
theorem Inv.fresh(I:Inv X pins σ H s):H s.heap.objs.size=none:=I.hok.fresh (Nat.le_refl _)
theorem Inv.yK(I:Inv X pins σ H s)(hH:H l=some (.lst xs)):xs.length<=sizeLine/\∃(its:List Value)(n:Nat),Vals xs its/\xs.length=its.length/\s.heap.get? l=some {cls:=.type "list",data:=.seq its.toArray n}:=by obtain⟨z,its,n,r,e⟩:=I.hok l _ hH;exact⟨z,its,n,r,r.length,e⟩
end
section
variable {X:Cx}
noncomputable def IQ:V->List V->Hp->VK->Prop:=fun x vs H Q=>∃l xs y,x=.ref l/\vs=[y]/\H l=some (.lst xs)/\xs.length<sizeLine/\Q .non (upd H l (.lst (xs++[y])))
theorem cM:MtM X "list.append" IQ:=by intro pins s σ H x vs v us Q I rx rv h;obtain⟨l,xs,y,rfl,rfl,hH,hz,q⟩:=h;cases rx;obtain⟨u,rfl,ru⟩:=rv.one;obtain⟨z,its,n,r,hl,e⟩:=I.yK hH;refine call_meets F.slot_list_append ⟨_,e,rfl⟩ F.entry_list_append (F.args_list_append_2 _ _) (PySem.list_append l its.toArray n u (by rw[List.size_toArray];omega)) ⟨e,?_⟩;refine⟨.non,_,I.DZ (its':=its++[u]) hH e (by simp) (r.append (.cons ru .nil)) ?_,rfl,q⟩;rw[List.length_append,List.length_singleton];omega
noncomputable def S0:V->List V->Hp->VK->Prop:=fun x vs H Q=>∃l xs y,x=.ref l/\vs=[]/\H l=some (.lst xs)/\xs[xs.length - 1]? =some y/\Q y (upd H l (.lst xs.dropLast))
theorem AR:MtM X "list.pop" S0:=by
 intro pins s σ H x vs v us Q I rx rv h;obtain⟨l,xs,y,rfl,rfl,hH,hy,q⟩:=h;cases rx;have hus:=rv.zero;subst hus;obtain⟨z,its,n,r,hl,e⟩:=I.yK hH;obtain⟨u,hu,ru⟩:=r.get hy;have hy':its.toArray[its.toArray.size - 1]? =some u:=by
  show its.toArray[its.length - 1]? =some u
  rw[<- Array.getElem?_toList,<- hl];exact hu
 refine call_meets F.slot_list_pop ⟨_,e,rfl⟩ F.entry_list_pop (F.args_list_pop_1 _) (MeetsSeq.list_pop_last l its.toArray n u hy' (by rw[List.size_toArray];omega)) ⟨e,?_⟩;refine⟨y,_,I.DZ (its':=its.dropLast) hH e ?_ r.dropLast ?_,ru,q⟩
 ·show its.toArray.eraseIdxIfInBounds (its.toArray.size - 1)=its.dropLast.toArray
  rw[List.size_toArray,List.eraseIdxIfInBounds_toArray,BI]
 ·rw[List.length_dropLast];omega
noncomputable def S7:R2:=fun x y H Q=>∃l b xs zs,x=.ref l/\y=.ref b/\H l=some (.lst xs)/\H b=some (.lst zs)/\xs.length+zs.length<=sizeLine/\∀p,H p=none->Q (.ref p) (upd H p (.lst (xs++zs)))
theorem LC:OpR X (binaryOp .Add) S7:=by
 intro pins s σ H x y v u Q I rx ry h;obtain⟨l,b,xs,zs,rfl,rfl,hH,hB,hz,q⟩:=h;cases rx;cases ry;obtain⟨z,its,n,r,hl,e⟩:=I.yK hH;obtain⟨z2,its2,n2,r2,hl2,e2⟩:=I.yK hB;refine PySem.P.add_list e e2 ?_ (by rw[List.size_toArray,List.size_toArray];omega);have ea:its.toArray++its2.toArray=(its++its2).toArray:=by simp
 rw[ea];exact⟨.ref _,_,I.LH (t':=s.toks) (r.append r2) (by rw[List.length_append];omega),rfl,q _ I.fresh⟩
end
end L2
namespace L2
open PySem PySem.Spec PyProof.Rows
theorem Vals.ints:∀{ns:List Int}{us:List Value},Vals (ns.map V.int) us->IntsAre us ns
 |[],us,h=>by rw[List.map_nil]at h;cases h;exact IntsAre.nil
 |n::ns,us,h=>by
  rw[List.map_cons]at h;cases h with
  |cons r t=>obtain⟨k,rfl⟩:=r;exact IntsAre.cons n k (Vals.ints t)
theorem Vals.bls:∀{bs:List Bool}{us:List Value},Vals (bs.map V.bl) us->us=bs.map Value.bool
 |[],us,h=>by rw[List.map_nil]at h;cases h;rfl
 |b::bs,us,h=>by
  rw[List.map_cons]at h;cases h with
  |cons r t=>cases r;rw[Vals.bls t,List.map_cons]
theorem Vals.IP{a:Addr}{us:List Value}(r:Vals [V.ref a] us):us=[Value.ref a]:=by
 cases r with
 |cons r t=>cases t;cases r;rfl
section
variable {prog:Program}{w:World}{A:Around}{E:Value->Shared->Prop}{s:Shared}{l:Addr}{its:List Value}{ns:List Int}{Q:Value->Shared->Prop}
theorem IJ(hh:A.handled=none)(hl:s.heap.IsList l its.toArray)(hi:IntsAre its ns)
  (h:∀h' tk t',(∀b o,s.heap.get? b=some o->h'.get? b=some o)->Q (.int ns.sum t') {s with heap:=h',toks:=tk}):wpAny (model prog w) A (call (.builtin "sum") [.ref l]) Q E s:=by
 obtain⟨xs,e⟩:=hi.allInts.items;have hn:numsOf (intItems xs).toList=ns:=by rw[<- e];exact hi.numsOf
 rw[nums_intItems]at hn;rw[e]at hl;refine PySem.sum_intListG hh hl fun h' tk t' hk=>?_
 have:=h h' tk t' hk;rw[preSum_eq,List.take_of_length_le (by simp),hn];exact this
theorem J8(hh:A.handled=none)(hl:s.heap.IsList l its.toArray)(hi:IntsAre its ns)(hne:0<ns.length)
  (h:∀h' tk M t',(∀b o,s.heap.get? b=some o->h'.get? b=some o)->M∈ns->(∀a,a∈ns->a<=M)->Q (.int M t') {s with heap:=h',toks:=tk}):wpAny (model prog w) A (call (.builtin "max") [.ref l]) Q E s:=by
 obtain⟨xs,e⟩:=hi.allInts.items;have hn:numsOf (intItems xs).toList=ns:=by rw[<- e];exact hi.numsOf
 rw[nums_intItems]at hn;subst hn;rw[e]at hl;have hsz:0<xs.size:=by simpa using hne
 refine PySem.max_intList hh hl hsz fun v h' tk hv hk=>?_
 obtain⟨t,rfl⟩:=intItems_at hv;obtain⟨h1,h2⟩:=argBest_gt (numAt xs) (xs.size - 1);refine h h' tk _ t hk ?_ fun a ha=>?_
 ·rw[numAt_eq];exact PySem.getD_mem (by rw[List.length_map,Array.length_toList];omega)
 ·obtain⟨j,hj,rfl⟩:=mem_getD ha;rw[List.length_map,Array.length_toList]at hj;rw[<- numAt_eq];exact h2 j (by omega)
theorem J7(hh:A.handled=none)(hl:s.heap.IsList l its.toArray)(hi:IntsAre its ns)(hne:0<ns.length)
  (h:∀h' tk M t',(∀b o,s.heap.get? b=some o->h'.get? b=some o)->M∈ns->(∀a,a∈ns->M<=a)->Q (.int M t') {s with heap:=h',toks:=tk}):wpAny (model prog w) A (call (.builtin "min") [.ref l]) Q E s:=by
 obtain⟨xs,e⟩:=hi.allInts.items;have hn:numsOf (intItems xs).toList=ns:=by rw[<- e];exact hi.numsOf
 rw[nums_intItems]at hn;subst hn;rw[e]at hl;have hsz:0<xs.size:=by simpa using hne
 refine PySem.min_intList hh hl hsz fun v h' tk hv hk=>?_
 obtain⟨t,rfl⟩:=intItems_at hv;obtain⟨h1,h2⟩:=argBest_lt (numAt xs) (xs.size - 1);refine h h' tk _ t hk ?_ fun a ha=>?_
 ·rw[numAt_eq];exact PySem.getD_mem (by rw[List.length_map,Array.length_toList];omega)
 ·obtain⟨j,hj,rfl⟩:=mem_getD ha;rw[List.length_map,Array.length_toList]at hj;rw[<- numAt_eq];exact h2 j (by omega)
end
section
variable {X:Cx}
noncomputable def RY(K:W.Frag):List V->Hp->VK->Prop:=fun vs H Q=>∃(a:Addr)(ns:List Int),vs=[V.ref a]/\SqL K H a (ns.map V.int)/\Q (.int ns.sum) H
noncomputable def S5(K:W.Frag):List V->Hp->VK->Prop:=fun vs H Q=>∃(a:Addr)(ns:List Int),vs=[V.ref a]/\SqL K H a (ns.map V.int)/\0<ns.length/\∀m,m∈ns->(∀y,y∈ns->y<=m)->Q (.int m) H
noncomputable def S4(K:W.Frag):List V->Hp->VK->Prop:=fun vs H Q=>∃(a:Addr)(ns:List Int),vs=[V.ref a]/\SqL K H a (ns.map V.int)/\0<ns.length/\∀m,m∈ns->(∀y,y∈ns->m<=y)->Q (.int m) H
theorem HR(hc:X.calm=true):jT X (.builtin "sum") (RY X.K):=by intro pins s σ H vs us Q I r h;obtain⟨a,ns,rfl,hs,q⟩:=h;obtain⟨its,rv,hl,_⟩:=I.list hs;rw[Vals.IP r];exact IJ (I.ok.hd hc) hl.isList rv.ints fun h' tk t' hk=>⟨.int _,H,I.kept hk,⟨_,rfl⟩,q⟩
theorem HS(hc:X.calm=true):jT X (.builtin "max") (S5 X.K):=by intro pins s σ H vs us Q I r h;obtain⟨a,ns,rfl,hs,hne,q⟩:=h;obtain⟨its,rv,hl,_⟩:=I.list hs;rw[Vals.IP r];exact J8 (I.ok.hd hc) hl.isList rv.ints hne fun h' tk m t' hk h1 h2=>⟨.int _,H,I.kept hk,⟨_,rfl⟩,q m h1 h2⟩
theorem M5(hc:X.calm=true):jT X (.builtin "min") (S4 X.K):=by intro pins s σ H vs us Q I r h;obtain⟨a,ns,rfl,hs,hne,q⟩:=h;obtain⟨its,rv,hl,_⟩:=I.list hs;rw[Vals.IP r];exact J7 (I.ok.hd hc) hl.isList rv.ints hne fun h' tk m t' hk h1 h2=>⟨.int _,H,I.kept hk,⟨_,rfl⟩,q m h1 h2⟩
end
theorem GR{prog:Program}{w:World}{A:Around}{E:Value->Shared->Prop}{s:Shared}{l:Addr}{items:Array Value}{Q:Value->Shared->Prop}(hl:s.heap.IsList l items)
  (h:∀s₂:Shared,s₂={s with heap:=s.heap.push {cls:=.type "list_iterator",data:=.fields #[.ref l,.int 0 0]}} ->
   (s₂.heap.IsListIter s.heap.objs.size l 0/\s₂.heap.IsList l items)->l≠s.heap.objs.size->Q (.ref s.heap.objs.size) s₂):wpAny (model prog w) A (pyIter (.ref l)) Q E s:=by
 have hlt:l<s.heap.objs.size:=by obtain⟨_,e,_⟩:=hl;exact Heap.lt_size e
 exact wpAny_pyIter_list hl (h _ rfl ⟨⟨_,Heap.get?_push_size _ rfl,rfl,rfl⟩,hl.push _⟩ (Nat.ne_of_lt hlt))
theorem xK{prog:Program}{w:World}{A:Around}{bs:List Bool}{its:List Value}(e:its=bs.map Value.bool):
  TruthOf prog w A (fun i v=>its.toArray[i]? =some v) (fun i=>bs.getD i false):=fun i v s Q E hv hq=>by
 have hv':its[i]? =some v:=by simpa using hv
 rw[e,List.getElem?_map]at hv';obtain⟨b,hb,rfl⟩:=Option.map_eq_some_iff.mp hv';have hg:bs.getD i false=b:=by rw[List.getD_eq_getElem?_getD,hb]<;>rfl
 have hq':Q (bs.getD i false) s:=hq;rw[hg]at hq';exact wpAny_truthy_bool hq'
theorem any_range:∀bs:List Bool,(List.range bs.length).any (fun i=>bs.getD i false)=bs.any id
 |[]=>rfl
 |b::bs=>by rw[List.length_cons,List.range_succ_eq_map,List.any_cons,List.any_map,List.any_cons,<- any_range bs];all_goals rfl
section
variable {X:Cx}
noncomputable def S8(K:W.Frag):List V->Hp->VK->Prop:=fun vs H Q=>∃(a:Addr)(bs:List Bool),vs=[V.ref a]/\SqL K H a (bs.map V.bl)/\Q (.bl (bs.any id)) H
theorem M6(hc:X.calm=true):jT X (.builtin "any") (S8 X.K):=by
 intro pins s σ H vs us Q I r h;obtain⟨a,bs,rfl,hs,q⟩:=h;obtain⟨its,rv,hl,_⟩:=I.list hs;rw[Vals.IP r];have hb:=rv.bls;refine call_any_walk (GR hl.isList fun s₂ e2 st hne=>?_);subst e2;refine⟨_,_,_,_,_,_,_,rfl,Walks.list (A:=X.A.in1) (I.ok.hd hc) _ a hne its.toArray,st,xK hb,fun h' tk hk=>?_⟩;refine⟨.bl _,H,I.kept fun b o eo=>hk b o (fun hmem=>?_) (Heap.get?_push_of_some _ eo),?_,q⟩
 ·rcases List.mem_cons.mp hmem with e1|hmem
  ·exact absurd (e1▸Heap.lt_size eo) (Nat.lt_irrefl _)
  ·cases hmem
 ·show Value.bool _=Value.bool _
  rw[<- any_range,hb,List.size_toArray,List.length_map]
end
mutual
inductive Dp (K:W.Frag) (H:Hp):V->PyData->Prop
 |non:Dp K H .non .none
 |bl (b:Bool):Dp K H (.bl b) (.bool b)
 |int (i:Int):Dp K H (.int i) (.int i)
 |str (x:Str):Dp K H (.str x) (.str x)
 |lst {a:Addr}{xs:List V}{ds:List PyData}:SqL K H a xs->tL K H xs ds->Dp K H (.ref a) (.list ds)
 |tup {a:Addr}{xs:List V}{ds:List PyData}:SqT K H a xs->tL K H xs ds->Dp K H (.ref a) (.tuple ds)
inductive tL (K:W.Frag) (H:Hp):List V->List PyData->Prop
 |nil:tL K H [] []
 |cons {v:V}{vs:List V}{d:PyData}{ds:List PyData}:Dp K H v d->tL K H vs ds->tL K H (v::vs) (d::ds)
end
section
variable {X:Cx}{pins:List (Addr×Obj)}{σ:St}{H:Hp}{s:Shared}
mutual
theorem Dp.reads(I:Inv X pins σ H s):∀(d:PyData)(v:V)(u:Value),Dp X.K H v d->RelV v u->∃as,Reads s.heap u d as
 | .none,_,_,h,r=>by cases h;cases r;exact⟨_,Reads.none⟩
 | .bool b,_,_,h,r=>by cases h;cases r;exact⟨_,Reads.bool b⟩
 | .int i,_,_,h,r=>by cases h;obtain⟨t,rfl⟩:=r;exact⟨_,Reads.int i t⟩
 | .str x,_,_,h,r=>by cases h;obtain⟨t,rfl⟩:=r;exact⟨_,Reads.str x t⟩
 | .list ds,_,_,h,r=>by
  cases h with
  |lst hs ha=>cases r;obtain⟨its,rv,⟨o,n,ho,hc,_,hd⟩,_⟩:=I.list hs;obtain⟨as,hr⟩:=Dp.readsAll I ds _ its ha rv;exact⟨_,Reads.list ho hc hd hr⟩
 | .tuple ds,_,_,h,r=>by
  cases h with
  |tup hs ha=>cases r;obtain⟨its,rv,⟨o,ho,hc,n,hd⟩,_⟩:=I.tuple hs;obtain⟨as,hr⟩:=Dp.readsAll I ds _ its ha rv;exact⟨_,Reads.tuple ho hc hd hr⟩
 | .dict _,_,_,h,_=>by cases h
theorem Dp.readsAll(I:Inv X pins σ H s):∀(ds:List PyData)(vs:List V)(us:List Value),tL X.K H vs ds->Vals vs us->∃as,ReadsAll s.heap us ds as
 |[],_,_,h,r=>by cases h;cases r;exact⟨_,ReadsAll.nil⟩
 |d::ds,_,_,h,r=>by
  cases h with
  |cons h1 h2=>
   cases r with
   |cons r1 r2=>obtain⟨as,q1⟩:=Dp.reads I d _ _ h1 r1;obtain⟨bs,q2⟩:=Dp.readsAll I ds _ _ h2 r2;exact⟨_,ReadsAll.cons q1 q2⟩
end
end
section
variable {X:Cx}
noncomputable def S3(K:W.Frag):R2:=fun x y H Q=>∃d e,Dp K H x d/\Dp K H y e/\SeqAt.shaped d=true/\SeqAt.shaped e=true/\Q (.bl (!PyData.eqv d e)) H
theorem LB(hu:X.A.units+64<cLine):OpR X (compareOp .NotEq) (S3 X.K):=by intro pins s σ H x y v u Q I rx ry h;obtain⟨d,e,hd,he,sd,se,q⟩:=h;obtain⟨as,r1⟩:=Dp.reads I d x v hd rx;obtain⟨bs,r2⟩:=Dp.reads I e y u he ry;exact SeqAt.compareNe_shaped r1 r2 sd se hu ⟨.bl _,H,I,rfl,q⟩
end
end L2
namespace L2
open PySem PySem.Spec PyProof.Rows
abbrev IC(h:Heap)(c:Addr)(v:Option Value):Prop:=h.IsCell c v
noncomputable def RX(scope sc:Scope):Scope:=
 {scope with names:=scope.names.map fun(n,k)=>if(k== .free&& sc.kind== .function&& sc.names.lookup n==some .cell)then(n,.cell)else(n,k)}
noncomputable def bH(cells:List (Str×Addr)):List (Str×NameKind)->List (Str×Addr)->List (Str×Addr)
 |[],acc=>acc
 |(n,k)::r,acc=>if k== .free then bH cells r ((n,(cells.lookup n).getD 0)::acc)else bH cells r acc
theorem oE(env:Env)(f:Str×NameKind->List (Str×Addr)->Sem (ForInStep (List (Str×Addr))))
  (hf:∀n k c,f (n,k) c=if k== .free then(do let a<- cellOf env n;pure (.yield ((n,a)::c)))else pure (.yield c)):
  ∀(names:List (Str×NameKind))(acc:List (Str×Addr)),(∀y∈names,y.2=.free->∃c,env.cells.lookup y.1=some c)->forIn names acc f=pure (bH env.cells names acc)
 |[],acc,_=>by rw[List.forIn_nil];rfl
 |(n,k)::r,acc,h=>by
  rw[List.forIn_cons,hf];have ih:=fun acc=>oE env f hf r acc fun y hy=>h y (List.mem_cons_of_mem _ hy)
  unfold bH;by_cases hk:(k==NameKind.free)=true
  ·rw[if_pos hk,if_pos hk];obtain⟨c,hc⟩:=h (n,k) List.mem_cons_self (by simpa using hk);have e:cellOf env n=pure c:=by unfold cellOf;rw[hc]
   rw[e];have e2:(env.cells.lookup n).getD 0=c:=by rw[hc];rfl
   rw[e2];exact ih _
  ·rw[if_neg hk,if_neg hk];exact ih _
theorem mM{scope:Scope}{env:Env}(h:∀y∈scope.names,y.2=.free->∃c,env.cells.lookup y.1=some c):closureFor scope env=pure (bH env.cells scope.names []):=by simp only[closureFor];rw[oE env _ (fun n k c=>rfl) scope.names [] h];rfl
theorem mem_lookup{α:Type}:∀{l:List (Str×α)}{n:Str}{c:α},(n,c)∈l->∃c',l.lookup n=some c'
 |(k,v)::r,n,c,h=>by
  rw[List.lookup_cons];cases hb:n==k with
  |true=>exact⟨_,rfl⟩
  |false=>
   rcases List.mem_cons.mp h with e|h
   ·cases e;simp at hb
   ·exact mem_lookup h
theorem fS{cells:List (Str×Addr)}:∀{names:List (Str×NameKind)}{acc:List (Str×Addr)}{n:Str}{c:Addr},(n,c)∈bH cells names acc->(n,c)∈acc\/((n,.free)∈names/\c=(cells.lookup n).getD 0)
 |[],_,_,_,h=>.inl h
 |(m,k)::r,acc,n,c,h=>by
  unfold bH at h;split at h
  ·rename_i hk;have hk:k=.free:=by simpa using hk
   rcases fS h with h|⟨h1,h2⟩
   ·rcases List.mem_cons.mp h with e|h
    ·cases e;exact .inr ⟨hk▸List.mem_cons_self,rfl⟩
    ·exact .inl h
   ·exact .inr ⟨List.mem_cons_of_mem _ h1,h2⟩
  ·rcases fS h with h|⟨h1,h2⟩
   ·exact .inl h
   ·exact .inr ⟨List.mem_cons_of_mem _ h1,h2⟩
theorem kU{cells:List (Str×Addr)}:∀{names:List (Str×NameKind)}{acc:List (Str×Addr)}{p:Str×Addr},p∈acc->p∈bH cells names acc
 |[],_,_,h=>h
 |(m,k)::r,acc,p,h=>by
  unfold bH;split
  ·exact kU (List.mem_cons_of_mem _ h)
  ·exact kU h
theorem hO{cells:List (Str×Addr)}:∀{names:List (Str×NameKind)}{acc:List (Str×Addr)}{n:Str},(n,.free)∈names->(n,(cells.lookup n).getD 0)∈bH cells names acc
 |(m,k)::r,acc,n,h=>by
  unfold bH;rcases List.mem_cons.mp h with e|h
  ·cases e;exact kU List.mem_cons_self
  ·split
   ·exact hO h
   ·exact hO h
theorem iZ:∀{names:List (Str×NameKind)}{h:Heap}{acc:List (Str×Addr)}{x:Str}{c:Addr},(x,c)∈cellsFrom h.objs.size names acc ->
  (x,c)∈acc\/((x,.cell)∈names/\h.objs.size<=c/\IC (pushCells h names) c none)
 |[],_,_,_,_,h=>.inl h
 |(n,k)::r,h,acc,x,c,hm=>by
  unfold cellsFrom at hm;unfold pushCells;split at hm
  ·rename_i hk;rw[if_pos hk];have hk:k=.cell:=by simpa using hk
   rw[<- Heap.size_push h {cls:=.type "cell",data:=.cell none}]at hm;rcases iZ hm with hm|⟨h1,h2,h3⟩
   ·rcases List.mem_cons.mp hm with e|hm
    ·cases e;exact .inr ⟨hk▸List.mem_cons_self,Nat.le_refl _,_,pushCells_keeps r _ _ _ (Heap.get?_push_size _ rfl),rfl⟩
    ·exact .inl hm
   ·rw[Heap.size_push]at h2;exact .inr ⟨List.mem_cons_of_mem _ h1,Nat.le_of_succ_le h2,h3⟩
  ·rename_i hk;rw[if_neg hk];rcases iZ hm with hm|⟨h1,h2,h3⟩
   ·exact .inl hm
   ·exact .inr ⟨List.mem_cons_of_mem _ h1,h2,h3⟩
theorem lS:∀{names:List (Str×NameKind)}{n:Nat}{acc:List (Str×Addr)}{p:Str×Addr},p∈acc->p∈cellsFrom n names acc
 |[],_,_,_,h=>h
 |(m,k)::r,n,acc,p,h=>by
  unfold cellsFrom;split
  ·exact lS (List.mem_cons_of_mem _ h)
  ·exact lS h
theorem pS:∀{names:List (Str×NameKind)}{n:Nat}{acc:List (Str×Addr)}{x:Str},(x,.cell)∈names->∃c,(x,c)∈cellsFrom n names acc
 |(m,k)::r,n,acc,x,h=>by
  unfold cellsFrom;rcases List.mem_cons.mp h with e|h
  ·cases e;exact⟨n,lS List.mem_cons_self⟩
  ·split
   ·exact pS h
   ·exact pS h
theorem pR:∀{names:List (Str×NameKind)}{h:Heap}{acc:List (Str×Addr)}{x y:Str}{c:Addr},(∀p∈acc,p.2<h.objs.size)->(∀x y c,(x,c)∈acc->(y,c)∈acc->x=y) ->
  (x,c)∈cellsFrom h.objs.size names acc->(y,c)∈cellsFrom h.objs.size names acc->x=y
 |[],_,_,_,_,_,_,hi,h1,h2=>hi _ _ _ h1 h2
 |(n,k)::r,h,acc,x,y,c,hl,hi,h1,h2=>by
  unfold cellsFrom at h1 h2;split at h1
  ·rename_i hk;rw[if_pos hk]at h2;rw[<- Heap.size_push h {cls:=.type "cell",data:=.cell none}]at h1 h2;refine pR (h:=h.push _) (fun p hp=>?_) (fun x y c a b=>?_) h1 h2
   ·rw[Heap.size_push];rcases List.mem_cons.mp hp with rfl|hp
    ·exact Nat.lt_succ_self _
    ·exact Nat.lt_succ_of_lt (hl p hp)
   ·rcases List.mem_cons.mp a with e|a<;>rcases List.mem_cons.mp b with e'|b
    ·cases e;cases e';rfl
    ·cases e;exact absurd (hl _ b) (Nat.lt_irrefl _)
    ·cases e';exact absurd (hl _ a) (Nat.lt_irrefl _)
    ·exact hi _ _ _ a b
  ·rename_i hk;rw[if_neg hk]at h2;exact pR hl hi h1 h2
theorem qI{M:Model}{A:Around}{E:Value->Shared->Prop}{s:Shared}{scope:Scope}{globals:Addr}{closure:List (Str×Addr)}{qual:Str}{func:Option Addr}{code:Value}{around:Env}{builtins:Addr}{Q:Env->Shared->Prop}
  (h:Q (newEnv scope s.heap.objs.size globals (cellsFrom (s.heap.objs.size+1) scope.names closure) qual func code (some around) builtins)
   {s with heap:=pushCells (s.heap.push {cls:=.type "dict",data:=.dict #[]}) scope.names}):
  wpAny M A (newFunctionEnv scope globals closure [] qual func code (some around) builtins) Q E s:=by
 simp only[newFunctionEnv,Option.isSome_some,if_true];refine wpAny_bind (wpAny_alloc ?_);refine wpAny_bind (wpAny_layCells _ (fun n k c=>rfl) scope.names closure _ _ ?_);rw[show({s with heap:=s.heap.push {cls:=.type "dict",data:=.dict #[]}}:Shared).heap.objs.size=s.heap.objs.size+1 from Heap.size_push ..];rw[List.forIn_nil];exact wpAny_bind (wpAny_pure (wpAny_pure h))
theorem kE{sc:Scope}:∀{names:List (Str×NameKind)}{x:Str}{k:NameKind},
  (names.map fun(n,k)=>if(k==NameKind.free&& sc.kind== .function&& sc.names.lookup n==some .cell)then(n,NameKind.cell)else(n,k)).lookup x=some k ->
  ∃k',names.lookup x=some k'/\(k=k'\/(k'=.free/\k=.cell))
 |[],_,_,h=>by simp at h
 |(n,k₀)::r,x,k,h=>by
  have ih:=@kE sc r x k;have h':List.lookup x ((if(k₀==NameKind.free&& sc.kind== .function&& sc.names.lookup n==some .cell)=true then(n,NameKind.cell)else(n,k₀))::(r.map _))=some k:=h;cases hx:x==n with
  |true=>
   simp only[List.lookup_cons,hx];by_cases hc:(k₀==NameKind.free&& sc.kind== .function&& sc.names.lookup n==some .cell)=true
   ·rw[if_pos hc]at h';simp only[List.lookup_cons,hx]at h';cases h';simp only[Bool.and_eq_true,beq_iff_eq]at hc;exact⟨k₀,rfl,.inr ⟨hc.1.1,rfl⟩⟩
   ·rw[if_neg hc]at h';simp only[List.lookup_cons,hx]at h';cases h';exact⟨_,rfl,.inl rfl⟩
  |false=>
   simp only[List.lookup_cons,hx];by_cases hc:(k₀==NameKind.free&& sc.kind== .function&& sc.names.lookup n==some .cell)=true
   ·rw[if_pos hc]at h';simp only[List.lookup_cons,hx]at h';exact ih h'
   ·rw[if_neg hc]at h';simp only[List.lookup_cons,hx]at h';exact ih h'
structure oJ(N:List Str)(sc scope:Scope)(own:List (Str×Nat)):Prop where
 kind:scope.kind=.function
 uniq:∀y∈scope.names,scope.names.lookup y.1=some y.2
 ix:∀p∈own,N[p.2]? =some p.1
 free:∀y∈scope.names,y.2=.free->sc.names.lookup y.1=some .cell\/sc.names.lookup y.1=some .free
 own:∀y∈scope.names,y.2=.local\/y.2=.cell->y.1∈own.map (·.1)\/y.1∉N
def wipe(σ:St):List Nat->St
 |[]=>σ
 |v::vs=>(wipe σ vs).set v none
theorem gW(σ:St):∀vs:List Nat,(wipe σ vs).length=σ.length
 |[]=>rfl
 |v::vs=>by unfold wipe;rw[List.length_set,gW σ vs]
theorem lG{σ:St}{i:Nat}{x:V}:∀{vs:List Nat},(wipe σ vs)[i]? =some (some x)->σ[i]? =some (some x)/\i∉vs
 |[],h=>⟨h,by simp⟩
 |v::vs,h=>by
  unfold wipe at h;by_cases hi:v=i
  ·subst hi;by_cases hv:v<(wipe σ vs).length
   ·rw[List.getElem?_set_self hv]at h;cases h
   ·rw[List.getElem?_eq_none (by simpa using hv)]at h;cases h
  ·rw[List.getElem?_set_ne hi]at h;obtain⟨h1,h2⟩:=lG h;exact⟨h1,by simp only[List.mem_cons,not_or];exact⟨fun e=>hi e.symm,h2⟩⟩
noncomputable abbrev Cx.blk(X:Cx)(s:Shared)(H:Hp)(scope:Scope)(cenv:Env)(fp:List Addr):Cx:={X with s_0:=s,H_0:=H,env:=cenv,outer:=X.stack,ex:=fp,fn:=fun x=>scope.names.lookup x==some .cell,pn:=[],xe:=fun _ _=>False}
section
variable {X:Cx}{pins:List (Addr×Obj)}{σ:St}{H:Hp}{s:Shared}
theorem qS{scope:Scope}{own:List (Str×Nat)}{fp:List Addr}(I:Inv X pins σ H s)(ok:oJ X.N X.env.scope scope own)(hN:X.N.Nodup)(hfp:∀b∈fp,mQ X pins H b/\b<s.heap.objs.size):
  Inv (X.blk s H scope (compEnvC scope (cellsFrom (s.heap.objs.size+1) scope.names (bH X.env.cells scope.names [])) s.heap.objs.size X.env) fp) [] (wipe σ (own.map (·.2))) H {s with heap:=pushCells (s.heap.push {cls:=.type "dict",data:=.dict #[]}) scope.names}:=by
 have hfree:∀y∈scope.names,y.2=.free->∃c,X.env.cells.lookup y.1=some c:=fun y hy e=>by
  rcases ok.free y hy e with k|k
  ·exact I.ok.has _ (.inl k)
  ·exact I.ok.has _ (.inr k)
 generalize hcenv:compEnvC scope (cellsFrom (s.heap.objs.size+1) scope.names (bH X.env.cells scope.names [])) s.heap.objs.size X.env=cenv;have kp:∀b o,s.heap.get? b=some o->(pushCells (s.heap.push {cls:=.type "dict",data:=.dict #[]}) scope.names).get? b=some o:=fun b o e=>pushCells_keeps _ _ _ _ (Heap.get?_push_of_some _ e)
 have hL:cenv.locals=s.heap.objs.size:=by rw[<- hcenv];rfl
 have hcl:cenv.cells=cellsFrom (s.heap.objs.size+1) scope.names (bH X.env.cells scope.names []):=by rw[<- hcenv];rfl
 have hsc:cenv.scope=RX scope X.env.scope:=by rw[<- hcenv];rfl
 rw[<- Heap.size_push s.heap {cls:=.type "dict",data:=.dict #[]}]at hcl;have cm:∀{y c},(y,c)∈bH X.env.cells scope.names []->X.env.cells.lookup y=some c/\c<s.heap.objs.size:=fun{y c} hm=>by
  rcases fS hm with hm|⟨h1,rfl⟩
  ·cases hm
  ·obtain⟨c,hc⟩:=hfree _ h1 rfl;rw[hc];obtain⟨w,z⟩:=I.cell _ _ hc;exact⟨rfl,z.lt⟩
 have mem:∀{y c},cenv.cells.lookup y=some c->(X.env.cells.lookup y=some c/\c<s.heap.objs.size)\/(s.heap.objs.size+1<=c/\IC (pushCells (s.heap.push {cls:=.type "dict",data:=.dict #[]}) scope.names) c none):=fun{y c} e=>by
  rw[hcl]at e;rcases iZ (PySem.mem_of_lookup e)with hm|⟨_,h2,h3⟩
  ·exact .inl (cm hm)
  ·rw[Heap.size_push]at h2;exact .inr ⟨h2,h3⟩
 have look:∀{y},scope.names.lookup y=some .free->∃c,cenv.cells.lookup y=some c/\X.env.cells.lookup y=some c:=fun{y} hl=>by
  have hy:(y,NameKind.free)∈scope.names:=PySem.mem_of_lookup hl;obtain⟨c',e'⟩:=mem_lookup (lS (names:=scope.names) (n:=(s.heap.push {cls:=.type "dict",data:=.dict #[]}).objs.size) (hO (cells:=X.env.cells) (acc:=[]) hy));rw[<- hcl]at e';refine⟨c',e',?_⟩;rw[hcl]at e';rcases iZ (PySem.mem_of_lookup e')with hm|⟨h1,_,_⟩
  ·exact(cm hm).1
  ·have:=ok.uniq _ h1;rw[hl]at this;cases this
 have okB:(X.blk s H scope cenv fp).Ok:=by
  refine⟨I.ok.mod,by show cenv.scope.kind=_;rw[hsc];exact ok.kind,by show cenv.globals=_;rw[<- hcenv];exact I.ok.glob,by show cenv.builtins=_;rw[<- hcenv];exact I.ok.blt,by show s.heap.objs.size<=cenv.locals;rw[hL];exact Nat.le_refl _,
   fun y z c e1 e2=>?_,fun y hy=>?_,fun y c z e=>?_,I.ok.hd,I.ok.frames,.inl rfl,fun b hb=>⟨?_,fun y c e z=>?_⟩,I.bs,Nat.le_trans I.ok.bsz I.sz,fun b o e hb=>?_,fun b hb z=>?_,I.stack,I.w8⟩
  ·have e1:cenv.cells.lookup y=some c:=e1;have e2:cenv.cells.lookup z=some c:=e2;rw[hcl]at e1 e2;refine pR (fun p hp=>?_) (fun y z c a b=>I.ok.inj y z c (cm a).1 (cm b).1) (PySem.mem_of_lookup e1) (PySem.mem_of_lookup e2);rw[Heap.size_push];exact Nat.lt_succ_of_lt (cm (y:=p.1) (c:=p.2) hp).2
  ·show∃c,cenv.cells.lookup y=some c
   have key:∀k,cenv.kindOf y=some k->(k=.cell\/k=.free)->∃c,cenv.cells.lookup y=some c:=fun k hk hk'=>by
    unfold Env.kindOf at hk;rw[hsc]at hk;obtain⟨k',e,r⟩:=kE hk;have:k'=.cell\/k'=.free:=by
     rcases r with rfl|⟨rfl,_⟩
     ·exact hk'
     ·exact .inr rfl
    rcases this with rfl|rfl
    ·obtain⟨c,hm⟩:=pS (n:=(s.heap.push {cls:=.type "dict",data:=.dict #[]}).objs.size) (acc:=bH X.env.cells scope.names []) (PySem.mem_of_lookup e);obtain⟨c',e'⟩:=mem_lookup hm;exact⟨c',by rw[hcl];exact e'⟩
    ·obtain⟨c,h1,_⟩:=look e;exact⟨c,h1⟩
   rcases hy with hy|hy
   ·exact key _ hy (.inl rfl)
   ·exact key _ hy (.inr rfl)
  ·have z:(scope.names.lookup y==some NameKind.cell)=true:=z;have z:scope.names.lookup y=some .cell:=by simpa using z
   have e:cenv.cells.lookup y=some c:=e;rw[hcl]at e;rcases iZ (PySem.mem_of_lookup e)with hm|⟨_,h2,_⟩
   ·rcases fS hm with hm|⟨h1,_⟩
    ·cases hm
    ·have q:=ok.uniq _ h1;rw[z]at q;cases q
   ·rw[Heap.size_push]at h2;exact Nat.le_of_succ_le h2
  ·show b≠cenv.locals
   rw[hL];exact Nat.ne_of_lt (hfp b hb).2
  ·have e:cenv.cells.lookup y=some c:=e;rcases mem e with⟨h1,_⟩|⟨h1,_⟩
   ·exact(hfp b hb).1.2.2.2.2.1 y c h1 z
   ·have h2:s.heap.objs.size+1<=b:=by rw[<- z];exact h1
    exact absurd (Nat.lt_of_lt_of_le (hfp b hb).2 (Nat.le_of_succ_le h2)) (Nat.lt_irrefl _)
  ·rcases(hfp b hb).1.2.2.2.1 with z|z
   ·exact I.ok.GH b o e z
   ·exact absurd (Nat.lt_of_lt_of_le (Heap.lt_size e) (Nat.le_trans I.ok.bsz z)) (Nat.lt_irrefl _)
  ·rcases List.mem_cons.mp (I.rP b z)with z|z
   ·exact(hfp b hb).1.2.1 z
   ·exact(hfp b hb).1.2.2.1 z
 refine⟨okB,rfl,I.bare,Un.kept kp,⟨fun _=>none,?_,fun i y av e1 e2 e3=>?_⟩,fun y c e=>?_,?_,fun y c e=>?_,fun p hp=>?_,I.hok.kept kp,by rw[gW];exact I.len⟩
 ·show Heap.Ns _ cenv.locals _
  rw[hL];exact Heap.Ns.keeps (Heap.Ns.new ..) fun b o e=>pushCells_keeps _ _ _ _ e
 ·obtain⟨e2,hne⟩:=lG e2;have hfr:scope.names.lookup y=some .free/\(cenv.kindOf y=some .cell\/cenv.kindOf y=some .free):=by
   have key:∀k,cenv.scope.names.lookup y=some k->k=.local\/k=.cell\/k=.free->scope.names.lookup y=some .free/\(cenv.kindOf y=some .cell\/cenv.kindOf y=some .free):=fun k hk hk'=>by
    have hk0:=hk;rw[hsc]at hk;obtain⟨k',e,r⟩:=kE hk;have no:¬(k'=.local\/k'=.cell):=fun hh=>by
     rcases ok.own _ (PySem.mem_of_lookup e) hh with e'|e'
     ·obtain⟨p,hp,hpy⟩:=List.mem_map.mp e';have e3:=ok.ix p hp;have:p.1=y:=hpy;rw[this]at e3;exact hne (List.mem_map.mpr ⟨p,hp,sN hN e3 e1⟩)
     ·exact e' (List.mem_of_getElem? e1)
    rcases r with rfl|⟨rfl,rfl⟩
    ·rcases hk' with rfl|rfl|rfl
     ·exact absurd (.inl rfl) no
     ·exact absurd (.inr rfl) no
     ·exact⟨e,.inr hk0⟩
    ·exact⟨e,.inl hk0⟩
   have e3:Vis cenv.scope y:=e3;rcases e3 with e3|e3|e3
   ·exact key _ e3 (.inl rfl)
   ·exact key _ e3 (.inr (.inl rfl))
   ·exact key _ e3 (.inr (.inr rfl))
  obtain⟨m,hn,hl⟩:=I.loc;have hvis:Vis X.env.scope y:=(ok.free _ (PySem.mem_of_lookup hfr.1) rfl).elim (fun k=>.inr (.inl k)) (fun k=>.inr (.inr k));obtain⟨w,r,q⟩:=hl i y av e1 e2 hvis;refine⟨w,r,.inr ⟨hfr.2,?_⟩⟩;obtain⟨c,h1,h2⟩:=look hfr.1;rcases q with⟨k,_⟩|⟨_,c',e',z⟩
  ·have k:X.env.scope.names.lookup y=some .local:=k;rcases ok.free _ (PySem.mem_of_lookup hfr.1) rfl with k'|k'<;>rw[show X.env.scope.names.lookup y=_ from k']at k<;>cases k
  ·rw[h2]at e';cases e';exact⟨c,h1,z.keeps kp⟩
 ·have e:cenv.cells.lookup y=some c:=e;rcases mem e with⟨h1,_⟩|⟨_,z⟩
  ·obtain⟨w,z⟩:=I.cell y c h1;exact⟨w,z.keeps kp⟩
  ·exact⟨_,z⟩
 ·show H cenv.locals=none
  rw[hL];exact I.hok.fresh (Nat.le_refl _)
 ·have e:cenv.cells.lookup y=some c:=e;rcases mem e with⟨h1,_⟩|⟨h1,_⟩
  ·exact I.gY y c h1
  ·exact I.hok.fresh (Nat.le_of_succ_le h1)
 ·exact absurd (show p∈([]:List (Addr×Obj))++[]from hp) (by simp)
theorem HY{E:Value->Shared->Prop}{D:Addr}{xs:List V}{y:V}{v:Value}{Q:Value->Shared->Prop}(I:Inv X pins σ H s)(hD:H D=some (.lst xs))(hz:xs.length<sizeLine)(r:RelV y v)
  (h:∀s',Inv X pins σ (upd H D (.lst (xs++[y]))) s'->Q .none s'):wpAny (model X.prog X.w) X.A (call (.builtin "list.append") [.ref D,v]) Q E s:=by
 obtain⟨hz',its,n,ri,e⟩:=I.hok D _ hD;have hl:=ri.length;refine append_at (hsz:=by rw[List.size_toArray];omega) e fun h' sb ho'=>?_
 refine h {s with heap:=h'} (I.write (t':=s.toks) (by rw[hD];trivial) (.inl rfl) (fun b u hb q=>(sb.2 b hb).trans q) ⟨_,ho'⟩ ⟨by rw[List.length_append];exact hz,its++[v],n+1,ri.append (.cons r .nil),?_⟩);rw[ho'];simp
noncomputable def PTs(X:Cx)(ifs:List Expr)(t:TT):Prop:=
 ∀(pins:List (Addr×Obj))(s:Shared)(σ:St)(H:Hp)(Q:Bool->Hp->Prop),Inv X pins σ H s->t σ H Q ->
  wpAny (model X.prog X.w) X.A (forIn ifs true fun c r=>if r=true then do let ok<- isTrue c X.env (eval c X.env);pure (ForInStep.yield ok)else pure (ForInStep.yield r)) (TP X pins σ Q) X.xe s
def FN:TT:=fun _ H Q=>Q true H
theorem gC:PTs X [] FN:=fun _ _ _ H _ I h=>wpAny_tests_nil ⟨H,I,h⟩
theorem IS{c:Expr}{t:TT}(h:PT X c t):PTs X [c] t:=fun pins s σ H Q I hw=>wpAny_tests_one (h pins s σ H Q I hw)
end
theorem vZ{α:Type}{t:Sem α}{Q Q':α->Shared->Prop}{M:Model}{A:Around}{E:Value->Shared->Prop}{s:Shared}(h:wpAny M A t Q (fun _ _=>False) s)(hQ:∀a s,Q a s->Q' a s):wpAny M A t Q' E s:=wpAny_mono h hQ fun _ _ z=>False.elim z
theorem oB{prog:Program}{w:World}{A:Around}{R:Result->Shared->Prop}{s:Shared}{elt target iter:Expr}{ifs:List Expr}{scope:Scope}{pos:Pos}{it acc:Value}{env:Env}(I:Nat->Shared->Prop)
  (turn:∀n s,I n s->wpAny (model prog w) A (pyNext it) (fun r s₁=>match r with
   |none=>R (.ok .next) s₁
   |some v=>wpAny (model prog w) A (letOwnedTupleGo target it v) (fun _ s₁'=>wpAny (model prog w) A (assign target env v) (fun _ s₂=>
     wpAny (model prog w) A (forIn ifs true fun c r=>if r=true then do let ok<- isTrue c env (eval c env);pure (ForInStep.yield ok)else pure (ForInStep.yield r)) (fun ok s₃=>
      if ok=true then wpAny (model prog w) A (eval elt env) (fun x s₄=>
       wpAny (model prog w) A (call (.builtin "list.append") [acc,x]) (fun _ s₅=>∃m,m<n/\I m s₅) (notedBy (model prog w) A env fun e s'=>R (.error e) s') s₄) (notedBy (model prog w) A env fun e s'=>R (.error e) s') s₃
      else∃m,m<n/\I m s₃) (notedBy (model prog w) A env fun e s'=>R (.error e) s') s₂) (notedBy (model prog w) A env fun e s'=>R (.error e) s') s₁') (notedBy (model prog w) A env fun e s'=>R (.error e) s') s₁) (notedBy (model prog w) A env fun e s'=>R (.error e) s') s)
  (n:Nat) (h:I n s):
  codeAny (model prog w) A (.compLoop (.ListComp elt [⟨target,iter,ifs,0⟩] scope pos) 0 it acc env) R s:=by
 refine codeAny_loop rfl I (fun n s hI=>?_) n h;show wpAny _ A ((compTurn (.ListComp elt [⟨target,iter,ifs,0⟩] scope pos) 0 it acc env).onRaise (fun x=>do noteFrame x env;theTreesLotGoes x)) _ _ s
 refine wpAny_noted ?_;rw[compTurn_list];refine wpAny_bind (wpAny_standAt (wpAny_bind (wpAny_mono (turn n s hI) (fun r s₁ h₁=>?_) fun _ _ h'=>h')));cases r with
 |none=>exact wpAny_pure h₁
 |some v=>
  refine wpAny_bind (wpAny_mono h₁ (fun _ s₁' h₁'=>?_) fun _ _ h'=>h');refine wpAny_bind (wpAny_mono h₁' (fun _ s₂ h₂=>wpAny_bind (wpAny_mono h₂ (fun ok s₃ h₃=>?_) fun _ _ h'=>h')) fun _ _ h'=>h');cases ok with
  |false=>exact wpAny_pure ⟨rfl,h₃⟩
  |true=>exact wpAny_bind (wpAny_bind (wpAny_mono h₃ (fun x s₄ h₄=>wpAny_bind (wpAny_mono h₄ (fun _ s₅ h₅=>wpAny_pure (wpAny_pure ⟨rfl,h₅⟩)) fun _ _ h'=>h')) fun _ _ h'=>h'))
section
variable {X:Cx}
noncomputable def tLc(wi:TI)(g:TG)(tt:TT)(te:TE)(vs:List Nat):TE:=fun σ H Q=>wi σ H fun J H1=>∀D,H1 D=none->∃W:Nat->Nat->Hp->Prop,(∃m,W 0 m (upd H1 D (.lst [])))/\∀i m H,W i m H ->
 (J.stop i H/\Q (.ref D) H)\/(J.go i H/\∃Nx:Hp->Prop,(∀H',Nx H'->∃m',m'<m/\W (i+1) m' H')/\∀x H',J.yld i H x H'->g x (wipe σ vs) H' fun σ2 H2=>wipe σ2 vs=wipe σ vs/\tt σ2 H2 fun b H3=>
  if b=true then te σ2 H3 fun y H4=>∃acc,H4 D=some (.lst acc)/\acc.length<sizeLine/\Nx (upd H4 D (.lst (acc++[y])))else Nx H3)
theorem CD{pins:List (Addr×Obj)}{s:Shared}{σ:St}{H:Hp}{Q:VK}{elt tg iter:Expr}{ifs:List Expr}{scope:Scope}{own:List (Str×Nat)}{pos pos':Pos}{wi:TI}{g:TG}{tt:TT}{te:TE}{use:Option (Value->Sem Unit)}{Qf:Value->Shared->Prop}
  (hc:X.calm=true) (hN:X.N.Nodup) (I:Inv X pins σ H s) (hi:PI X tg iter wi) (ok:oJ X.N X.env.scope scope own)
  (hg:∀(s:Shared)(H:Hp)(C:Addr)(cl:List (Str×Addr))(fp:List Addr),PG (X.blk s H scope (compEnvC scope cl C X.env) fp) tg g) (ht:∀(s:Shared)(H:Hp)(C:Addr)(cl:List (Str×Addr))(fp:List Addr),PTs (X.blk s H scope (compEnvC scope cl C X.env) fp) ifs tt)
  (he:∀(s:Shared)(H:Hp)(C:Addr)(cl:List (Str×Addr))(fp:List Addr),PE (X.blk s H scope (compEnvC scope cl C X.env) fp) elt te) (hs:∀x,foldedSetIterable iter X.env x=pure x)
  (h:tLc wi g tt te (own.map (·.2)) σ H Q)
  (hRR:∀D C s' m H',Inv X pins σ H' s'->Q (.ref D) H'->s'.heap.Ns C m->mQ X pins H' C->compPost (model X.prog X.w) X.A X.xe use Qf (.ref D) C (.ok .next) s'):
  wpAny (model X.prog X.w) X.A (comprehension (.ListComp elt [⟨tg,iter,ifs,0⟩] scope pos) scope X.env pos' (newList []) false (eval iter X.env) use) Qf X.xe s:=by
 have hfree:∀y∈scope.names,y.2=.free->∃c,X.env.cells.lookup y.1=some c:=fun y hy e=>by
  rcases ok.free y hy e with k|k
  ·exact I.ok.has _ (.inl k)
  ·exact I.ok.has _ (.inr k)
 refine wpAny_comprehension_free (use:=use) rfl hs (mM hfree) ok.kind (fun y hy e=>by rw[ok.uniq y hy,e])
  (thn (hi pins s σ H _ I h) fun xv s1 hx=>thn hx fun itv s2 h2=>?_)
 obtain⟨it,fp,tn,J,H2,e,I2,T,st2,f2,q⟩:=h2;subst e;refine wpAny_newObj_type (qI ?_) (by show 0<=sizeLine;decide);generalize hD:s2.heap.objs.size=D;have hDn:H2 D=none:=I2.hok.fresh (Nat.le_of_eq hD);obtain⟨W,⟨m0,w0⟩,turn⟩:=q D hDn;generalize hs3:({s2 with heap:=s2.heap.push {cls:=.type "list",data:=.seq ([]:List Value).toArray}}:Shared)=s3;have I3:Inv X pins σ (upd H2 D (.lst [])) s3:=by rw[<- hs3];refine I2.laid (t':=s2.toks) (fun b o e=>Heap.get?_push_of_some _ e) (Nat.le_of_eq hD) ⟨Nat.zero_le _,[],0,.nil,?_⟩;rw[<- hD];exact Heap.get?_push_size _ rfl
 have h3:s3.heap=s2.heap.push {cls:=.type "list",data:=.seq ([]:List Value).toArray}:=by rw[<- hs3]
 have sz:∀b∈fp,b<s2.heap.objs.size:=fun b hb=>by obtain⟨o,e,_⟩:=T.obj _ _ st2 b hb;exact Heap.lt_size e
 have f3:∀b∈fp,mQ X pins (upd H2 D (.lst [])) b/\b<s3.heap.objs.size:=fun b hb=>by have hlt:=sz b hb;refine⟨⟨?_,(f2 b hb).2⟩,by rw[h3,Heap.size_push];exact Nat.lt_succ_of_lt hlt⟩;rw[aA (by rw[<- hD];exact Nat.ne_of_lt hlt)];exact(f2 b hb).1
 have st3:tn 0 s3.heap:=T.keep _ _ _ st2 fun b _ o e=>by rw[h3];exact Heap.get?_push_of_some _ e
 have I4:=qS I3 ok hN f3;have pg:=hg s3 (upd H2 D (.lst [])) s3.heap.objs.size (cellsFrom (s3.heap.objs.size+1) scope.names (bH X.env.cells scope.names [])) fp;have pt:=ht s3 (upd H2 D (.lst [])) s3.heap.objs.size (cellsFrom (s3.heap.objs.size+1) scope.names (bH X.env.cells scope.names [])) fp;have pe:=he s3 (upd H2 D (.lst [])) s3.heap.objs.size (cellsFrom (s3.heap.objs.size+1) scope.names (bH X.env.cells scope.names [])) fp;show codeAny _ _ (.compStart (.ListComp elt [⟨tg,iter,ifs,0⟩] scope pos) 0 (.ref it) (.ref D) (compEnvC scope (cellsFrom (s3.heap.objs.size+1) scope.names (bH X.env.cells scope.names [])) s3.heap.objs.size X.env)) (compPost (model X.prog X.w) X.A X.xe use Qf (.ref D) s3.heap.objs.size) {s3 with heap:=pushCells (s3.heap.push {cls:=.type "dict",data:=.dict #[]}) scope.names}
 have nfp:∀b∈fp,(upd H2 D (.lst [])) b=none:=fun b hb=>(f3 b hb).1.1
 generalize hce:compEnvC scope (cellsFrom (s3.heap.objs.size+1) scope.names (bH X.env.cells scope.names [])) s3.heap.objs.size X.env=ce at I4 pg pt pe ⊢;have cL:ce.locals=s3.heap.objs.size:=by subst hce;rfl
 generalize hH3:upd H2 D (.lst [])=H3 at I3 I4 pg pt pe w0 nfp f3;generalize hs4:({s3 with heap:=pushCells (s3.heap.push {cls:=.type "dict",data:=.dict #[]}) scope.names}:Shared)=s4 at I4 ⊢;have st4:tn 0 s4.heap:=T.keep _ _ _ st3 fun b _ o e=>by rw[<- hs4];exact pushCells_keeps _ _ _ _ (Heap.get?_push_of_some _ e)
 have stat:∀{σ':St}{H':Hp}{s':Shared},Inv (X.blk s3 H3 scope ce fp) [] σ' H' s'->(∀b∈fp,H' b=none)->∀b∈fp,mQ (X.blk s3 H3 scope ce fp) [] H' b:=fun{σ' H' s'} I' hn b hb=>
  ⟨hn b hb,(I'.ok.exf b hb).1,I'.ok.BH b hb,.inl hb,fun x c e=>(I'.ok.exf b hb).2 x c e,fun p hp=>absurd (show p∈([]:List (Addr×Obj))++[]from hp) (by simp)⟩
 have loop:codeAny (model X.prog X.w) X.A (.compLoop (.ListComp elt [⟨tg,iter,ifs,0⟩] scope pos) 0 (.ref it) (.ref D) ce) (compPost (model X.prog X.w) X.A X.xe use Qf (.ref D) s3.heap.objs.size) s4:=by
  refine oB (fun n s'=>∃i H',Inv (X.blk s3 H3 scope ce fp) [] (wipe σ (own.map (·.2))) H' s'/\tn i s'.heap/\(∀b∈fp,H' b=none)/\W i n H') ?_ m0 ⟨0,H3,I4,st4,nfp,w0⟩;rintro n s5 ⟨i,H5,I5,st5,n5,w5⟩;rcases turn i n H5 w5 with⟨stop,qq⟩|⟨go,Nx,hNx,step⟩
  ·have td:=T.done (X.blk s3 H3 scope ce fp) rfl rfl rfl hc i [] s5 _ H5 (fun _ _=>False) I5 (stat I5 n5) st5 stop;refine vZ td fun r s6 ⟨hr,I6⟩=>?_
   subst hr;have I7:Inv X pins σ H5 s6:=I3.CW (ch:=fp) I6.os I6.base I6.hok I6.bare fun b hb=>⟨(f3 b hb).1.2.2.2.1,(f3 b hb).1.2.1,(f3 b hb).1.2.2.2.2.1,(f3 b hb).1.2.2.2.2.2⟩
   have nC:H5 s3.heap.objs.size=none:=by have z:H5 ce.locals=none:=I6.free;rw[cL]at z;exact z
   obtain⟨m,hn,_⟩:=I6.loc;have hn:s6.heap.Ns ce.locals m:=hn;rw[cL]at hn;exact hRR D s3.heap.objs.size s6 m H5 I7 qq hn (I3.BC (Nat.le_refl _) nC)
  ·have ti:=T.item (X.blk s3 H3 scope ce fp) rfl rfl rfl hc i [] s5 _ H5 (fun _ _=>False) I5 (stat I5 n5) st5 go;refine vZ ti fun r s6 ⟨u,hr,h6⟩=>?_
   subst hr;refine vZ h6 fun _ s7 ⟨x,H7,I7,r7,y7,st7,n7⟩=>?_
   have I7':=I7.pinned (stat I7 n7) (T.obj _ _ st7);refine vZ (pg _ s7 _ H7 x u _ I7' r7 (step x H7 y7)) fun _ s8 ⟨σ8,H8,I8,hw8,q8⟩=>?_
   refine vZ (pt _ s8 σ8 H8 _ I8 q8) fun b s9 ⟨H9,I9,q9⟩=>?_
   have fin:∀{s':Shared}{H':Hp},Inv (X.blk s3 H3 scope ce fp) ([]++oY fp s7.heap) σ8 H' s'->Nx H'->∃m,m<n/\∃i H',Inv (X.blk s3 H3 scope ce fp) [] (wipe σ (own.map (·.2))) H' s'/\tn i s'.heap/\(∀b∈fp,H' b=none)/\W i m H':=fun{s' H'} I' nx=>by
    obtain⟨m',hm,w'⟩:=hNx H' nx;have pin':∀b∈fp,∀o,s7.heap.get? b=some o->s'.heap.get? b=some o/\H' b=none:=fun b hb o e=>
     let z:=I'.pin (b,o) (List.mem_append_right _ (List.mem_append_right _ (jB hb e)))
     ⟨z.1,z.2.1⟩
    have hl:(wipe σ (own.map (·.2))).length=σ8.length:=by rw[<- hw8,gW]
    refine⟨m',hm,i+1,H',(I'.jX (pins:=[])).weak hl (fun j v e=>?_),T.keep _ _ _ st7 fun b hb o e=>(pin' b hb o e).1,fun b hb=>?_,w'⟩
    ·rw[<- hw8]at e;exact(lG e).1
    ·obtain⟨o,e,_⟩:=T.obj _ _ st7 b hb;exact(pin' b hb o e).2
   cases b with
   |false=>simp only[Bool.false_eq_true,if_false]at q9 ⊢;exact fin I9 q9
   |true=>
    simp only[if_true]at q9 ⊢;refine vZ (pe _ s9 σ8 H9 _ I9 q9) fun z s10 ⟨yv,H10,I10,r10,acc,hD10,hz10,nx⟩=>?_
    exact HY (X:=X.blk s3 H3 scope ce fp) I10 hD10 hz10 r10 fun s11 I11=>fin I11 nx
 exact codeAny_compStart_list loop (T.self X.A 0 _ _ _ st4 loop)
theorem qE{elt tg iter:Expr}{ifs:List Expr}{scope:Scope}{own:List (Str×Nat)}{pos:Pos}{wi:TI}{g:TG}{tt:TT}{te:TE}(hc:X.calm=true)(hN:X.N.Nodup)(hi:PI X tg iter wi)(ok:oJ X.N X.env.scope scope own)
  (hg:∀(s:Shared)(H:Hp)(C:Addr)(cl:List (Str×Addr))(fp:List Addr),PG (X.blk s H scope (compEnvC scope cl C X.env) fp) tg g) (ht:∀(s:Shared)(H:Hp)(C:Addr)(cl:List (Str×Addr))(fp:List Addr),PTs (X.blk s H scope (compEnvC scope cl C X.env) fp) ifs tt)
  (he:∀(s:Shared)(H:Hp)(C:Addr)(cl:List (Str×Addr))(fp:List Addr),PE (X.blk s H scope (compEnvC scope cl C X.env) fp) elt te) (hs:∀x,foldedSetIterable iter X.env x=pure x:=by intro _;rfl):
  PE X (.ListComp elt [⟨tg,iter,ifs,0⟩] scope pos) (tLc wi g tt te (own.map (·.2))):=by
 intro pins s σ H Q I h;rw[eval_ListComp];refine CD hc hN I hi ok hg ht he hs h fun D C s' m H' I' q hn f=>⟨m,hn,fun h'' sb=>?_⟩
 obtain⟨f0,f1,f2,f3,f4,f5⟩:=f;exact⟨.ref D,H',I'.turned (t':=s'.toks) (fun b o hb e=>(sb.2 b hb).trans e) f0 f1 f3 f4 f5,rfl,q⟩
theorem xX{i:Nat}{y:Str}{py:Pos}{elt tg iter:Expr}{ifs:List Expr}{scope:Scope}{own:List (Str×Nat)}{pos spos:Pos}{wi:TI}{g:TG}{tt:TT}{te:TE}(hc:X.calm=true)(hN:X.N.Nodup)(hy:X.N[i]? =some y)(hyl:X.env.scope.names.lookup y=some .local)
  (hsw:swapsWith (.ListComp elt [⟨tg,iter,ifs,0⟩] scope pos) (some (.Name y py)) spos.line X.env=pure true) (hi:PI X tg iter wi) (ok:oJ X.N X.env.scope scope own)
  (hg:∀(s:Shared)(H:Hp)(C:Addr)(cl:List (Str×Addr))(fp:List Addr),PG (X.blk s H scope (compEnvC scope cl C X.env) fp) tg g) (ht:∀(s:Shared)(H:Hp)(C:Addr)(cl:List (Str×Addr))(fp:List Addr),PTs (X.blk s H scope (compEnvC scope cl C X.env) fp) ifs tt)
  (he:∀(s:Shared)(H:Hp)(C:Addr)(cl:List (Str×Addr))(fp:List Addr),PE (X.blk s H scope (compEnvC scope cl C X.env) fp) elt te) (hs:∀x,foldedSetIterable iter X.env x=pure x:=by intro _;rfl):
  PS X (.Assign [.Name y py] (.ListComp elt [⟨tg,iter,ifs,0⟩] scope pos) spos) (DJ (tLc wi g tt te (own.map (·.2))) (kI i)):=by
 intro pins s σ H D I h;rw[exec_Assign_Name_used _ _ _ _ hsw];refine wpAny_bind (wpAny_standAt (wpAny_bind ?_));show wpAny _ X.A (do let _<- comprehension (.ListComp elt [⟨tg,iter,ifs,0⟩] scope pos) scope X.env (firstIterPos [⟨tg,iter,ifs,0⟩] pos) (newList []) false (eval iter X.env) (some (assign (.Name y py) X.env))) _ _ s
 have h:tLc wi g tt te (own.map (·.2)) σ H (fun x H1=>kI i x σ H1 D.nx):=h;refine wpAny_bind (thn (CD (Qf:=fun _ s'=>SP X pins D .next s') hc hN I hi ok hg ht he hs h fun L C s' m H' I' q hn f=>?_) fun _ s' hq=>wpAny_pure (wpAny_pure hq));show wpAny _ _ (assign (.Name y py) X.env (.ref L)) _ _ _
 refine wpAny_assign_Name (oP (v:=V.ref L) I' hN hy (.inl hyl) rfl (fun s2 I2 ⟨a,sb,ha⟩=>?_) (.inr hyl));obtain⟨f0,f1,f2,f3,f4,f5⟩:=f;have haC:C≠a:=by
  rcases ha with z|z
  ·rw[z];exact f1
  ·exact fun e=>f4 y a z e.symm
 refine⟨m,hn.sameBut sb haC,fun h3 sb3=>?_⟩;exact⟨_,H',I2.turned (t':=s2.toks) (fun b o hb e=>(sb3.2 b hb).trans e) f0 f1 f3 f4 f5,q⟩
theorem r8{elt:Expr}{gs:List Comprehension}{scope:Scope}{pos py:Pos}{y:Str}{l:Nat}{env:Env}(hk:env.scope.kind=.function)(hy:env.scope.names.lookup y=some .local)(hl:(py.line==pos.line)=true)
  (ha:(scope.names.any fun(n,k)=>n==y&& (k== .local||k== .cell))=false):swapsWith (.ListComp elt gs scope pos) (some (.Name y py)) l env=pure true:=by
 have ky:env.kindOf y=some .local:=hy;have hb:env.blockKind=.function:=by unfold Env.blockKind;rw[hk];rfl
 unfold swapsWith;simp only[hb,ky,ha,Expr.pos,hl];rfl
end
theorem fL{K:W.Frag}{a:Addr}{xs:List V}{g:TG}{tt:TT}{te:TE}{vs:List Nat}{σ:St}{H1:Hp}{D:Addr}{Qd:Hp->Prop}(Pv:Nat->Hp->Prop)(h0:Pv 0 (upd H1 D (.lst [])))(hl:∀i H,i<=xs.length->Pv i H->SqL K H a xs)
  (hs:∀i x H,xs[i]? =some x->Pv i H->g x (wipe σ vs) H fun σ2 H2=>wipe σ2 vs=wipe σ vs/\tt σ2 H2 fun b H3=>
   if b=true then te σ2 H3 fun y H4=>∃acc,H4 D=some (.lst acc)/\acc.length<sizeLine/\Pv (i+1) (upd H4 D (.lst (acc++[y])))else Pv (i+1) H3) (hd:∀H,Pv xs.length H->Qd H):
  ∃W:Nat->Nat->Hp->Prop,(∃m,W 0 m (upd H1 D (.lst [])))/\∀i m H,W i m H ->
   ((Itl K a).stop i H/\Qd H)\/((Itl K a).go i H/\∃Nx:Hp->Prop,(∀H',Nx H'->∃m',m'<m/\W (i+1) m' H')/\∀x H',(Itl K a).yld i H x H'->g x (wipe σ vs) H' fun σ2 H2=>wipe σ2 vs=wipe σ vs/\tt σ2 H2 fun b H3=>
    if b=true then te σ2 H3 fun y H4=>∃acc,H4 D=some (.lst acc)/\acc.length<sizeLine/\Nx (upd H4 D (.lst (acc++[y])))else Nx H3):=by
 refine⟨fun i m H=>m=xs.length - i/\i<=xs.length/\Pv i H,⟨xs.length,by simp,Nat.zero_le _,h0⟩,?_⟩;rintro i m H ⟨rfl,hi,p⟩;have q:=hl i H hi p;by_cases hlt:i<xs.length
 ·refine .inr ⟨⟨xs,xs[i],q,by simp[hlt]⟩,Pv (i+1),fun H' p'=>⟨xs.length - (i+1),by omega,rfl,hlt,p'⟩,fun x H' y=>?_⟩;obtain⟨e,y⟩:=y;subst e;exact hs i x _ (y xs q) p
 ·have e:i=xs.length:=by omega
  subst e;exact .inl ⟨⟨xs,q,Nat.le_refl _⟩,hd H p⟩
theorem LJ{K:W.Frag}{a:Addr}{xs:List V}{g:TG}{tt:TT}{te:TE}{vs:List Nat}{σ:St}{H1:Hp}{D:Addr}{Qd:Hp->Prop}(Pv:Nat->Hp->Prop)(h0:Pv 0 (upd H1 D (.lst [])))(hl:∀i H,i<=xs.length->Pv i H->SqT K H a xs)
  (hs:∀i x H,xs[i]? =some x->Pv i H->g x (wipe σ vs) H fun σ2 H2=>wipe σ2 vs=wipe σ vs/\tt σ2 H2 fun b H3=>
   if b=true then te σ2 H3 fun y H4=>∃acc,H4 D=some (.lst acc)/\acc.length<sizeLine/\Pv (i+1) (upd H4 D (.lst (acc++[y])))else Pv (i+1) H3) (hd:∀H,Pv xs.length H->Qd H):
  ∃W:Nat->Nat->Hp->Prop,(∃m,W 0 m (upd H1 D (.lst [])))/\∀i m H,W i m H ->
   ((Itt K a).stop i H/\Qd H)\/((Itt K a).go i H/\∃Nx:Hp->Prop,(∀H',Nx H'->∃m',m'<m/\W (i+1) m' H')/\∀x H',(Itt K a).yld i H x H'->g x (wipe σ vs) H' fun σ2 H2=>wipe σ2 vs=wipe σ vs/\tt σ2 H2 fun b H3=>
    if b=true then te σ2 H3 fun y H4=>∃acc,H4 D=some (.lst acc)/\acc.length<sizeLine/\Nx (upd H4 D (.lst (acc++[y])))else Nx H3):=by
 refine⟨fun i m H=>m=xs.length - i/\i<=xs.length/\Pv i H,⟨xs.length,by simp,Nat.zero_le _,h0⟩,?_⟩;rintro i m H ⟨rfl,hi,p⟩;have q:=hl i H hi p;by_cases hlt:i<xs.length
 ·refine .inr ⟨⟨xs,xs[i],q,by simp[hlt]⟩,Pv (i+1),fun H' p'=>⟨xs.length - (i+1),by omega,rfl,hlt,p'⟩,fun x H' y=>?_⟩;obtain⟨e,y⟩:=y;subst e;exact hs i x _ (y xs q) p
 ·have e:i=xs.length:=by omega
  subst e;exact .inl ⟨⟨xs,q,Nat.le_refl _⟩,hd H p⟩
noncomputable def RB(N:List Str)(sc scope:Scope)(own:List (Str×Nat)):Bool:=
 (match scope.kind with| .function=>true|_=>false)&& (scope.names.all fun y=>decide (scope.names.lookup y.1=some y.2))&& (own.all fun p=>decide (N[p.2]? =some p.1))&&
  (scope.names.all fun y=>match y.2 with
   | .free=>(match sc.names.lookup y.1 with|some .cell=>true|some .free=>true|_=>false)
   | .local=>decide (y.1∈own.map (·.1))||decide (y.1∉N)
   | .cell=>decide (y.1∈own.map (·.1))||decide (y.1∉N)
   |_=>true)
theorem cU{N:List Str}{sc scope:Scope}{own:List (Str×Nat)}(h:RB N sc scope own=true):oJ N sc scope own:=by
 unfold RB at h;simp only[Bool.and_eq_true,List.all_eq_true,decide_eq_true_eq]at h;obtain⟨⟨⟨h1,h2⟩,h3⟩,h4⟩:=h;refine⟨?_,h2,h3,fun y hy e=>?_,fun y hy e=>?_⟩
 ·split at h1
  ·assumption
  ·cases h1
 ·have q:=h4 y hy;simp only[e]at q;split at q<;>first|exact .inl (by assumption)|exact .inr (by assumption)|cases q
 ·have q:=h4 y hy;rcases e with e|e<;>(simp only[e,Bool.or_eq_true,decide_eq_true_eq]at q;exact q)
end L2
namespace L2
open PySem PySem.Spec PyProof.Rows
section
variable {κ:Type} [DecidableEq κ]
noncomputable def rK(kvs:List (κ×V))(k:κ):Option V:=(kvs.find? fun kv=>decide (kv.1=k)).map (·.2)
noncomputable def putK(kvs:List (κ×V))(k:κ)(v:V):List (κ×V):=
 if(kvs.any fun kv=>decide (kv.1=k))=true then kvs.map (fun kv=>if kv.1=k then(kv.1,v)else kv)else kvs++[(k,v)]
theorem mT{p:κ×V}{r:List (κ×V)}{k:κ}(e:p.1=k):rK (p::r) k=some p.2:=by simp[rK,List.find?_cons,e]
theorem mU{p:κ×V}{r:List (κ×V)}{k:κ}(e:¬p.1=k):rK (p::r) k=rK r k:=by simp[rK,List.find?_cons,e]
theorem xF(k:κ):∀kvs:List (κ×V),(kvs.any fun kv=>decide (kv.1=k))=(rK kvs k).isSome
 |[]=>rfl
 |p::r=>by
  rw[List.any_cons];by_cases e:p.1=k
  ·simp only[mT e,decide_eq_true e,Bool.true_or,Option.isSome_some]
  ·rw[mU e,decide_eq_false e,Bool.false_or];exact xF k r
theorem kF(kvs:List (κ×V))(k:κ)(v:V):(putK kvs k v).length<=kvs.length+1:=by
 unfold putK;split
 ·rw[List.length_map];omega
 ·rw[List.length_append,List.length_cons,List.length_nil];omega
theorem mP.iV{o:Option V}{u:Option Value}(r:mP o u):o.isSome=u.isSome:=by
 cases o with
 |none=>cases u with
  |none=>rfl
  |some _=>exact(show False from r).elim
 |some _=>cases u with
  |none=>exact(show False from r).elim
  |some _=>rfl
theorem mP.getD{o:Option V}{u:Option Value}{d:V}{d':Value}(r:mP o u)(rd:RelV d d'):RelV (o.getD d) (u.getD d'):=by
 cases o with
 |none=>cases u with
  |none=>exact rd
  |some _=>exact(show False from r).elim
 |some _=>cases u with
  |none=>exact(show False from r).elim
  |some _=>exact r
theorem KV.val{kvs:List (κ×V)}{vs:List (κ×Value)}(r:KV kvs vs)(k:κ):mP (rK kvs k) (valueAt vs k):=by
 unfold KV at r;induction r with
 |nil=>exact True.intro
 | @cons p q ps qs h t ih=>
  obtain⟨h1,h2⟩:=h;by_cases e:p.1=k
  ·have e':q.1=k:=h1.symm.trans e;have b:valueAt (q::qs) k=some q.2:=by simp[valueAt,List.find?_cons,e']
   rw[mT e,b];exact h2
  ·have e':¬q.1=k:=fun z=>e (h1.trans z)
   have b:valueAt (q::qs) k=valueAt qs k:=by simp[valueAt,List.find?_cons,e']
   rw[mU e,b];exact ih
theorem KV.any{kvs:List (κ×V)}{vs:List (κ×Value)}(r:KV kvs vs)(k:κ):(kvs.any fun kv=>decide (kv.1=k))=vs.any fun kv=>decide (kv.1=k):=by
 unfold KV at r;induction r with
 |nil=>rfl
 |cons h t ih=>rw[List.any_cons,List.any_cons,ih,h.1]
theorem KV.L1{kvs:List (κ×V)}{vs:List (κ×Value)}(r:KV kvs vs)(k:κ){y:V}{u:Value}(ry:RelV y u):
  KV (kvs.map fun kv=>if kv.1=k then(kv.1,y)else kv) (vs.map fun kv=>if kv.1=k then(kv.1,u)else kv):=by
 unfold KV at r ⊢;induction r with
 |nil=>exact .nil
 | @cons p q ps qs h t ih=>
  rw[List.map_cons,List.map_cons];refine .cons ?_ ih;obtain⟨h1,h2⟩:=h;by_cases e:p.1=k
  ·rw[if_pos e,if_pos (h1.symm.trans e)];exact⟨h1,ry⟩
  ·rw[if_neg e,if_neg (fun z=>e (h1.trans z))];exact⟨h1,h2⟩
theorem KV.put{kvs:List (κ×V)}{vs:List (κ×Value)}(r:KV kvs vs)(k:κ){y:V}{u:Value}(ry:RelV y u):KV (putK kvs k y) (stored vs k u):=by
 unfold putK stored;rw[r.any k];by_cases e:(vs.any fun kv=>decide (kv.1=k))=true
 ·rw[if_pos e,if_pos e];exact r.L1 k ry
 ·rw[if_neg e,if_neg e];exact Paired.snoc r ⟨rfl,ry⟩
theorem KV.length{kvs:List (κ×V)}{vs:List (κ×Value)}(r:KV kvs vs):kvs.length=vs.length:=Paired.length r
end
theorem sR{P:Program}{w:World}{k:Key}{u:Value}(r:RelV (kV k) u):(bY P w).is k u=true:=by
 cases k with
 |inl i=>obtain⟨t,e⟩:=(show∃t,u=Value.int i t from r);subst e;exact yI P w i t
 |inr x=>obtain⟨t,e⟩:=(show∃t,u=Value.str x t from r);subst e;exact yH P w x t
theorem vE{P:Program}{w:World}:∀{ks:List Key}{us:List Value},Vals (ks.map kV) us->ItemsAre (bY P w) ks us
 |[],_,r=>by rw[List.map_nil]at r;cases r;exact .nil
 |k::ks,_,r=>by
  rw[List.map_cons]at r;cases r with
  |cons h t=>exact .cons (sR h) (vE t)
noncomputable abbrev KT(H:Hp):List (List Key×V)->List (List Key×Addr×Value)->Prop:=Paired fun p q=>p.1=q.1/\H q.2.1=some (.tup (p.1.map kV))/\RelV p.2 q.2.2
theorem KT.val{H:Hp}{kvs:List (List Key×V)}{xs:List (List Key×Addr×Value)}(r:KT H kvs xs)(k:List Key):mP (rK kvs k) ((atKey xs k).map (·.2)):=by
 induction r with
 |nil=>exact True.intro
 | @cons p q ps qs h t ih=>
  obtain⟨h1,_,h2⟩:=h;by_cases e:p.1=k
  ·have e':q.1=k:=h1.symm.trans e;have b:atKey (q::qs) k=some q.2:=by simp[atKey,List.find?_cons,e']
   rw[mT e,b];exact h2
  ·have e':¬q.1=k:=fun z=>e (h1.trans z)
   have b:atKey (q::qs) k=atKey qs k:=by simp[atKey,List.find?_cons,e']
   rw[mU e,b];exact ih
theorem KT.L1{H:Hp}{kvs:List (List Key×V)}{xs:List (List Key×Addr×Value)}(r:KT H kvs xs)(k:List Key){y:V}{u:Value}(ry:RelV y u):
  KT H (kvs.map fun kv=>if kv.1=k then(kv.1,y)else kv) (xs.map (putAt k u)):=by
 induction r with
 |nil=>exact .nil
 | @cons p q ps qs h t ih=>
  rw[List.map_cons,List.map_cons];refine .cons ?_ ih;obtain⟨h1,h2,h3⟩:=h;unfold putAt;by_cases e:p.1=k
  ·rw[if_pos e,if_pos (h1.symm.trans e)];exact⟨h1,h2,ry⟩
  ·rw[if_neg e,if_neg (fun z=>e (h1.trans z))];exact⟨h1,h2,h3⟩
theorem KT.put{H:Hp}{kvs:List (List Key×V)}{xs:List (List Key×Addr×Value)}(r:KT H kvs xs)(k:List Key){b:Addr}{y:V}{u:Value}(hb:H b=some (.tup (k.map kV)))(ry:RelV y u):
  KT H (putK kvs k y) (storedH xs k b u):=by
 have e:(kvs.any fun kv=>decide (kv.1=k))=(atKey xs k).isSome:=by rw[xF,(r.val k).iV,Option.isSome_map]
 unfold putK storedH;rw[e];by_cases q:(atKey xs k).isSome=true
 ·rw[if_pos q,if_pos q];exact r.L1 k ry
 ·rw[if_neg q,if_neg q];exact Paired.snoc r ⟨rfl,hb,ry⟩
theorem KT.keeps{H H':Hp}{kvs:List (List Key×V)}{xs:List (List Key×Addr×Value)}(r:KT H kvs xs)(ht:∀b ys,H b=some (.tup ys)->H' b=some (.tup ys)):KT H' kvs xs:=
 Paired.LG r fun _ _ z=>⟨z.1,ht _ _ z.2.1,z.2.2⟩
section
variable {P:Program}{w:World}{H:Hp}{h:Heap}{a:Addr}
theorem K5{u:HO}(ok:HOk P w H h)(e:Rd H a u):d6 P w H h a u:=e.ok ok
theorem qR{kvs:List (Key×V)}(ok:HOk P w H h)(e:Rd H a (.dK kvs)):kvs.length<=sizeLine/\(a==sysModules)=false/\∃vs,KV kvs vs/\h.DictOf (bY P w) a vs:=
 show d6 P w H h a (.dK kvs)from K5 ok e
theorem R9{kvs:List (Key×V)}(ok:HOk P w H h)(e:H a=some (.dK kvs)):kvs.length<=sizeLine/\(a==sysModules)=false/\∃vs,KV kvs vs/\h.DictOf (bY P w) a vs:=qR ok (.inl e)
theorem kH{ks:List Key}(ok:HOk P w H h)(e:H a=some (.tup (ks.map kV))):(tupleKind (bY P w)).is h ks a:=by obtain⟨_,its,r,o,h1,h2,n,h3⟩:=(show d6 P w H h a (.tup (ks.map kV))from ok a _ e);exact⟨o,its.toArray,n,h1,h2,h3,by simpa using vE r⟩
theorem nX{kvs:List (List Key×V)}(ok:HOk P w H h)(e:Rd H a (.dT kvs)):kvs.length<=sizeLine/\(a==sysModules)=false/\
  ∃xs,KT H kvs xs/\h.DictOfH (tupleKind (bY P w)) a xs:=by
 obtain⟨z,y,xs,r,o,es,ep,h1,h2,h3,h4,h5⟩:=(show d6 P w H h a (.dT kvs)from K5 ok e);refine⟨z,y,xs,r,o,es,ep,h1,h2,h3,h4,fun x hx=>?_,h5⟩;have all:∀{l:List (List Key×V)}{m:List (List Key×Addr×Value)},KT H l m->∀x∈m,(tupleKind (bY P w)).is h x.1 x.2.1:=by
  intro l m q;induction q with
  |nil=>intro x hx;exact nomatch hx
  | @cons p q ps qs hq t ih=>
   intro x hx;rcases List.mem_cons.mp hx with e|hx
   ·subst e;exact kH ok (by rw[<- hq.1];exact hq.2.1)
   ·exact ih x hx
 exact all r x hx
theorem R8{kvs:List (List Key×V)}(ok:HOk P w H h)(e:H a=some (.dT kvs)):kvs.length<=sizeLine/\(a==sysModules)=false/\
  ∃xs,KT H kvs xs/\h.DictOfH (tupleKind (bY P w)) a xs:=nX ok (.inl e)
end
noncomputable def lF(H:Hp)(a:Addr)(y:V)(r:Option V):Prop:=
 (∃kvs k,Rd H a (.dK kvs)/\y=kV k/\r=rK kvs k)\/∃kvs k b,Rd H a (.dT kvs)/\y=.ref b/\H b=some (.tup (k.map kV))/\r=rK kvs k
noncomputable def K4(H:Hp)(a:Addr)(y v:V)(H':Hp):Prop:=
 (∃kvs k,H a=some (.dK kvs)/\y=kV k/\kvs.length<sizeLine/\H'=upd H a (.dK (putK kvs k v)))\/
 ∃kvs k b,H a=some (.dT kvs)/\y=.ref b/\H b=some (.tup (k.map kV))/\kvs.length<sizeLine/\H'=upd H a (.dT (putK kvs k v))
section
variable {X:Cx}{pins:List (Addr×Obj)}{σ:St}{H:Hp}{s:Shared}{a:Addr}{y v:V}{u r:Value}{o:Option V}{A:Around}{E:Value->Shared->Prop}
theorem Inv.big(I:Inv X pins σ H s):sysModules<s.heap.objs.size:=by have h:mainGlobals<s.heap.objs.size:=(I.mod.glob.keeps I.bk).lt;exact Nat.lt_trans (by decide) h
theorem EW{Q:Value->Shared->Prop}(hu:A.units+1<cLine)(I:Inv X pins σ H s)(g:lF H a y (some v))(ry:RelV y u)(h:∀w' s',Inv X pins σ H s'->RelV v w'->Q w' s'):
  wpAny (model X.prog X.w) A (getItem (.ref a) u) Q E s:=by
 rcases g with⟨kvs,k,e,ey,l⟩|⟨kvs,k,b,e,ey,eb,l⟩
 ·subst ey;obtain⟨z,hd,vs,rel,dd⟩:=qR I.hok e;obtain⟨w',hw,rw'⟩:=mP.some_of (v:=v) (o:=valueAt vs k) (by rw[l];exact rel.val k);exact wpAny_getItem_of (sR ry) dd.mapOf hw (h w' _ (I.tok _) rw')
 ·subst ey;cases (show u=Value.ref b from ry);obtain⟨z,hd,xs,rel,dd⟩:=nX I.hok e;obtain⟨w',hw,rw'⟩:=mP.some_of (v:=v) (o:=(atKey xs k).map (·.2)) (by rw[l];exact rel.val k);obtain⟨p,hp,hp2⟩:=Option.map_eq_some_iff.mp hw;refine wpAny_getItem_heap (tupleKind_room_in1 hu) (kH I.hok eb) dd hp ?_;rw[hp2];exact h w' _ (I.tok _) rw'
theorem W5{Q:Value->Shared->Prop}(hu:A.units+1<cLine)(I:Inv X pins σ H s)(g:lF H a y o)(ry:RelV y u)(h:∀s',Inv X pins σ H s'->Q (.bool o.isSome) s'):
  wpAny (model X.prog X.w) A (compareOp .In u (.ref a)) Q E s:=by
 rcases g with⟨kvs,k,e,ey,l⟩|⟨kvs,k,b,e,ey,eb,l⟩
 ·subst ey;obtain⟨z,hd,vs,rel,dd⟩:=qR I.hok e;refine wpAny_in_of (sR ry) hd dd.mapOf ?_;rw[<- (rel.val k).iV,<- l];exact h _ (I.tok _)
 ·subst ey;cases (show u=Value.ref b from ry);obtain⟨z,hd,xs,rel,dd⟩:=nX I.hok e;refine wpAny_in_heap (tupleKind_room_in1 hu) (kH I.hok eb) hd dd ?_;have q:=(rel.val k).iV;rw[Option.isSome_map]at q;rw[<- q,<- l];exact h _ (I.tok _)
theorem JV{Q:Value->Shared->Prop}(hu:A.units+1<cLine)(I:Inv X pins σ H s)(g:lF H a y o)(ry:RelV y u)(h:∀s',Inv X pins σ H s'->Q (.bool (!o.isSome)) s'):
  wpAny (model X.prog X.w) A (compareOp .NotIn u (.ref a)) Q E s:=by
 rcases g with⟨kvs,k,e,ey,l⟩|⟨kvs,k,b,e,ey,eb,l⟩
 ·subst ey;obtain⟨z,hd,vs,rel,dd⟩:=qR I.hok e;refine wpAny_notIn_of (sR ry) hd dd.mapOf ?_;rw[<- (rel.val k).iV,<- l];exact h _ (I.tok _)
 ·subst ey;cases (show u=Value.ref b from ry);obtain⟨z,hd,xs,rel,dd⟩:=nX I.hok e;refine wpAny_notIn_heap (tupleKind_room_in1 hu) (kH I.hok eb) hd dd ?_;have q:=(rel.val k).iV;rw[Option.isSome_map]at q;rw[<- q,<- l];exact h _ (I.tok _)
theorem CU{h':Heap}{t':Nat}{ob:HO}(I:Inv X pins σ H s)(mu:Mut (H a))(hs:Heap.SameBut a s.heap h')(he:∃q,h'.get? a=some q)(new:d6 X.prog X.w (upd H a ob) h' a ob):
  Inv X pins σ (upd H a ob) {s with heap:=h',toks:=t'}:=
 I.write (x:=a) (e:=a) mu (.inl rfl) (fun b q hb z=>(hs.2 b hb).trans z) he new
theorem LZ{P:Program}{w:World}{H':Hp}{h':Heap}{kvs:List (Key×V)}{vs:List (Key×Value)}(z:kvs.length<=sizeLine)(hd:(a==sysModules)=false)(rel:KV kvs vs)(dd:h'.DictOf (bY P w) a vs):
  d6 P w H' h' a (.dK kvs):=⟨z,hd,vs,rel,dd⟩
theorem EV{H':Hp}{Q:Unit->Shared->Prop}(hu:A.units+1<cLine)(I:Inv X pins σ H s)(g:K4 H a y v H')(ry:RelV y u)(rv:RelV v r)(h:∀s',Inv X pins σ H' s'->Q () s'):
  wpAny (model X.prog X.w) A (setItem (.ref a) u r) Q E s:=by
 rcases g with⟨kvs,k,e,ey,l,eH⟩|⟨kvs,k,b,e,ey,eb,l,eH⟩
 ·subst ey eH;obtain⟨z,hd,vs,rel,dd⟩:=R9 I.hok e;have hz:vs.length<=sizeLine:=by rw[<- rel.length];exact z
  have hl:(putK kvs k v).length<=sizeLine:=by have:=kF kvs k v;omega
  refine wpAny_setItem_pairs (hsz:=hz) (sR ry) dd fun h' dd' hs=>h _ ?_
  have he:∃q,h'.get? a=some q:=let⟨q,_,_,hq,_⟩:=dd';⟨q,hq⟩
  exact CU I (by rw[e];exact True.intro) hs he (LZ hl hd (rel.put k rv) dd')
 ·subst ey eH;cases (show u=Value.ref b from ry);obtain⟨z,hd,xs,rel,dd⟩:=R8 I.hok e;have hz:xs.length<=sizeLine:=by rw[<- Paired.length rel];exact z
  have hl:(putK kvs k v).length<=sizeLine:=by have:=kF kvs k v;omega
  refine wpAny_setItem_heap (hsz:=hz) (tupleKind_room_in1 hu) (kH I.hok eb) dd fun h' dd' hs=>h _ ?_
  obtain⟨q,es,ep,hq,h2,h3,h4,_,h5⟩:=dd';refine CU I (by rw[e];exact True.intro) hs ⟨q,hq⟩ ⟨hl,hd,_,(rel.put k eb rv).keeps fun c ys ec=>?_,q,es,ep,hq,h2,h3,h4,h5⟩;rw[aA (fC ec e (fun z=>nomatch z))];exact ec
end
noncomputable def RD(i:Expr):Prop:=∀ov iv,subscripted i false ov iv=operate [ov,iv] (getItem ov iv)
theorem IK{prog:Program}{w:World}{A:Around}{E:Value->Shared->Prop}{s:Shared}{env:Env}{value slice:Expr}{pos:Pos}{T id:String}{Q:Value->Shared->Prop}
  (hl:typeLookup (.type T) "__getitem__" =pure (some (.builtin id))) (hs:RD slice)
  (h:wpAny (model prog w) A (eval value env) (fun o s₁=>wpAny (model prog w) A (eval slice env) (fun i s₂=>s₂.TypeIs o T/\wpAny (model prog w) A (getItem o i) Q E s₂) E s₁) E s):
  wpAny (model prog w) A (eval (.Subscript value slice pos) env) Q E s:=by
 refine Subscript_ (wpAny_mono h (fun o s₁ h₁=>wpAny_mono h₁ (fun i s₂ h₂=>?_) fun _ _ x=>x) fun _ _ x=>x);obtain⟨hT,h₂⟩:=h₂;unfold subscriptTail;refine wpAny_bind ?_;rw[getitemInPython_of_ne hT.not_modules];refine wpAny_bind (wpAny_specialOf hT hl ?_);have fin:wpAny (model prog w) A (subscripted slice false o i) (fun r s₃=>wpAny (model prog w) A (letTemporaryGo value o r>>=fun _=>pure r) Q E s₃) E s₂:=by rw[hs o i];exact wpAny_operating (wpAny_mono h₂ (fun r s₃ h₃=>wpAny_bind (wpAny_letTemporaryGo (wpAny_pure h₃))) fun _ _ x=>x)
 first
  |exact wpAny_pure (wpAny_bind fin)
  |exact wpAny_bind (wpAny_pure (wpAny_bind fin))
  |exact wpAny_bind fin
theorem zI{X:Cx}{pins:List (Addr×Obj)}{σ:St}{H:Hp}{s:Shared}{a:Addr}{y:V}{o:Option V}(I:Inv X pins σ H s)(g:lF H a y o):s.TypeIs (.ref a) "dict" :=by
 rcases g with⟨kvs,k,e,_,_⟩|⟨kvs,k,b,e,_,_,_⟩
 ·obtain⟨_,_,vs,_,dd⟩:=qR I.hok e;exact dd.typeIs
 ·obtain⟨_,_,xs,_,dd⟩:=nX I.hok e;exact dd.typeIs
noncomputable def MO(td ty:TE):TE:=fun σ H Q=>td σ H fun x H1=>ty σ H1 fun y H2=>∃a v,x=.ref a/\lF H2 a y (some v)/\Q v H2
noncomputable def RP(ty td:TE):TE:=fun σ H Q=>ty σ H fun y H1=>td σ H1 fun x H2=>∃a o,x=.ref a/\lF H2 a y o/\Q (.bl o.isSome) H2
noncomputable def II(ty td:TE):TE:=fun σ H Q=>ty σ H fun y H1=>td σ H1 fun x H2=>∃a o,x=.ref a/\lF H2 a y o/\Q (.bl (!o.isSome)) H2
noncomputable def MT(td ty tv:TE):TS:=fun D σ H=>tv σ H fun v H1=>td σ H1 fun x H2=>ty σ H2 fun y H3=>∃a H4,x=.ref a/\K4 H3 a y v H4/\D.nx σ H4
section
variable {X:Cx}{o i e value:Expr}{pos pos' tpos:Pos}{td ty tv:TE}
theorem lJ(hu:X.A.units+1<cLine)(ho:PE X o td)(hi:PE X i ty)(hs:RD i):PE X (.Subscript o i pos) (MO td ty):=by intro pins s σ H Q I h;refine IK PySem.F.slot_dict_getitem.lookup hs (thn (ho pins s σ H _ I h) fun u s1 ⟨x,H1,I1,rx,q1⟩=>thn (hi pins s1 σ H1 _ I1 q1) fun iv s2 ⟨y,H2,I2,ry,a,v,ex,g,q2⟩=>?_);subst ex;obtain rfl:u=Value.ref a:=rx;exact⟨zI I2 g,EW hu I2 g ry fun w' s3 I3 rw'=>⟨v,H2,I3,rw',q2⟩⟩
theorem AF(hu:X.A.units+1<cLine)(hi:PE X i ty)(ho:PE X o td):PC X .In i o (RP ty td):=by
 intro pins s σ H Q I h;refine thn (hi pins s σ H _ I h) fun iv s1 ⟨y,H1,I1,ry,q1⟩=>thn (ho pins s1 σ H1 _ I1 q1) fun u s2 ⟨x,H2,I2,rx,a,ov,ex,g,q2⟩=>?_
 subst ex;obtain rfl:u=Value.ref a:=rx;exact W5 hu I2 g ry fun s3 I3=>⟨.bl ov.isSome,H2,I3,rfl,q2⟩
theorem d7(hu:X.A.units+1<cLine)(hi:PE X i ty)(ho:PE X o td):PC X .NotIn i o (II ty td):=by
 intro pins s σ H Q I h;refine thn (hi pins s σ H _ I h) fun iv s1 ⟨y,H1,I1,ry,q1⟩=>thn (ho pins s1 σ H1 _ I1 q1) fun u s2 ⟨x,H2,I2,rx,a,ov,ex,g,q2⟩=>?_
 subst ex;obtain rfl:u=Value.ref a:=rx;exact JV hu I2 g ry fun s3 I3=>⟨.bl (!ov.isSome),H2,I3,rfl,q2⟩
theorem eV(hu:X.A.units+1<cLine)(ho:PE X o td)(hi:PE X i ty)(hv:PE X value tv)(hs:swapsWith value (some (.Subscript o i pos')) pos.line X.env=pure false):
  PS X (.Assign [.Subscript o i pos'] value pos) (MT td ty tv):=by
 intro pins s σ H D I h;refine wpAny_Assign_Subscript (thn (hv pins s σ H _ I h) fun r s1 ⟨v,H1,I1,rv,q1⟩=>thn (ho pins s1 σ H1 _ I1 q1) fun u s2 ⟨x,H2,I2,rx,q2⟩=>thn (hi pins s2 σ H2 _ I2 q2) fun iv s3 ⟨y,H3,I3,ry,a,H4,ex,g,q3⟩=>?_) hs;subst ex;obtain rfl:u=Value.ref a:=rx;exact EV hu I3 g ry rv fun s4 I4=>⟨σ,H4,I4,q3⟩
end
theorem HM{P:Program}{w:World}{H:Hp}(h:Heap)(hb:sysModules<h.objs.size):d6 P w H (h.push {cls:=.type "dict",data:=.dict #[]}) h.objs.size (.dT []):=
 ⟨Nat.zero_le _,beq_eq_false_iff_ne.mpr (Ne.symm (Nat.ne_of_lt hb)),[],.nil,_,#[],0,Heap.get?_push_size _ rfl,⟨rfl,rfl,rfl⟩,rfl,rfl,List.nodup_nil⟩
def KP:TE:=fun _ H Q=>∀p,H p=none->Q (.ref p) (upd H p (.dT []))
section
variable {X:Cx}{pos:Pos}
theorem dG:PE X (.Dict [] [] pos) KP:=fun pins s σ H Q I h=>
 wpAny_Dict_empty ⟨.ref s.heap.objs.size,_,I.laid (a:=s.heap.objs.size) (o:=.dT []) (t':=s.toks) (fun _ _ q=>Heap.get?_push_of_some _ q) (Nat.le_refl _) (HM s.heap I.big),rfl,h _ (I.hok.fresh (Nat.le_refl _))⟩
end
structure M1(X:Cx)(o:Expr)(m:Str)(apos:Pos)(e:Expr)(cpos:Pos):Prop where
 base:attributeBase o m X.env (eval o X.env)=eval o X.env
 few:((backTo cpos (starEach [e] X.env)).all (fun x=>!x.1)&& (backToKw cpos (keywordEach [] X.env)).all (fun x=>x.1.isSome)
  && decide (([e]:List Expr).length+([]:List Keyword).length+(if([]:List Keyword).isEmpty then 0 else 1)<30))=true
 line:(apos.endLine==cpos.line)=true
 trees:backTo cpos (starEach [e] X.env)=[(false,eval e X.env)]
structure M2(X:Cx)(o:Expr)(m:Str)(apos:Pos)(e f:Expr)(cpos:Pos):Prop where
 base:attributeBase o m X.env (eval o X.env)=eval o X.env
 few:((backTo cpos (starEach [e,f] X.env)).all (fun x=>!x.1)&& (backToKw cpos (keywordEach [] X.env)).all (fun x=>x.1.isSome)
  && decide (([e,f]:List Expr).length+([]:List Keyword).length+(if([]:List Keyword).isEmpty then 0 else 1)<30))=true
 line:(apos.endLine==cpos.line)=true
 trees:backTo cpos (starEach [e,f] X.env)=[(false,eval e X.env),(false,eval f X.env)]
def IsD(H:Hp)(a:Addr):Prop:=(∃kvs,Rd H a (.dK kvs))\/∃kvs,Rd H a (.dT kvs)
theorem GW{X:Cx}{pins:List (Addr×Obj)}{σ:St}{H:Hp}{s:Shared}{a:Addr}(I:Inv X pins σ H s)(d:IsD H a):
  s.TypeIs (.ref a) "dict" /\(∀b,Value.ref a=.ref b->∃ob,s.heap.get? b=some ob/\ob.dict=none)/\(a==sysModules)=false:=by
 rcases d with⟨kvs,e⟩|⟨kvs,e⟩
 ·obtain⟨_,hd,vs,_,dd⟩:=qR I.hok e;refine⟨dd.typeIs,fun b q=>?_,hd⟩;cases q;obtain⟨ob,_,_,h1,h2,_⟩:=dd;exact⟨ob,h1,h2.2.1⟩
 ·obtain⟨_,hd,xs,_,dd⟩:=nX I.hok e;refine⟨dd.typeIs,fun b q=>?_,hd⟩;cases q;obtain⟨ob,_,_,h1,h2,_⟩:=dd;exact⟨ob,h1,h2.2.1⟩
section
variable {X:Cx}{pins:List (Addr×Obj)}{σ:St}{H:Hp}{s:Shared}{a:Addr}{y d:V}{u r:Value}{o:Option V}{A:Around}{E:Value->Shared->Prop}
theorem M4{Q:Value->Shared->Prop}(hu:A.units+1<cLine)(I:Inv X pins σ H s)(g:lF H a y o)(ry:RelV y u)(h:∀w' s',Inv X pins σ H s'->RelV (o.getD .non) w'->Q w' s'):
  wpAny (model X.prog X.w) A (call (.builtin "dict.get") [.ref a,u]) Q E s:=by
 rcases g with⟨kvs,k,e,ey,l⟩|⟨kvs,k,b,e,ey,eb,l⟩
 ·subst ey;obtain⟨z,hd,vs,rel,dd⟩:=qR I.hok e;refine call_meetsIn PySem.F.slot_dict_get dd.typeIs PySem.F.entry_dict_get (PySem.F.args_dict_get_2 _ _) (meets_dict_get (bY X.prog X.w) a (sR ry) hd) ⟨_,dd.mapOf,h _ _ (I.tok _) ?_⟩;rw[l];exact(rel.val k).getD rfl
 ·subst ey;cases (show u=Value.ref b from ry);obtain⟨z,hd,xs,rel,dd⟩:=nX I.hok e;refine call_meetsIn PySem.F.slot_dict_get dd.typeIs PySem.F.entry_dict_get (PySem.F.args_dict_get_2 _ _) (meetsH_dict_get (tupleKind (bY X.prog X.w)) a b hd) ⟨tupleKind_room_in1 hu,k,xs,kH I.hok eb,dd,h _ _ (I.tok _) ?_⟩;rw[l];exact(rel.val k).getD rfl
theorem M3{Q:Value->Shared->Prop}(hu:A.units+1<cLine)(I:Inv X pins σ H s)(g:lF H a y o)(ry:RelV y u)(rd:RelV d r)(h:∀w' s',Inv X pins σ H s'->RelV (o.getD d) w'->Q w' s'):
  wpAny (model X.prog X.w) A (call (.builtin "dict.get") [.ref a,u,r]) Q E s:=by
 rcases g with⟨kvs,k,e,ey,l⟩|⟨kvs,k,b,e,ey,eb,l⟩
 ·subst ey;obtain⟨z,hd,vs,rel,dd⟩:=qR I.hok e;refine call_meetsIn PySem.F.slot_dict_get dd.typeIs PySem.F.entry_dict_get (PySem.F.args_dict_get_3 _ _ _) (meets_dict_get_default (bY X.prog X.w) a (sR ry) hd r) ⟨_,dd.mapOf,h _ _ (I.tok _) ?_⟩;rw[l];exact(rel.val k).getD rd
 ·subst ey;cases (show u=Value.ref b from ry);obtain⟨z,hd,xs,rel,dd⟩:=nX I.hok e;refine call_meetsIn PySem.F.slot_dict_get dd.typeIs PySem.F.entry_dict_get (PySem.F.args_dict_get_3 _ _ _) (meetsH_dict_get_default (tupleKind (bY X.prog X.w)) a b hd r) ⟨tupleKind_room_in1 hu,k,xs,kH I.hok eb,dd,h _ _ (I.tok _) ?_⟩;rw[l];exact(rel.val k).getD rd
end
noncomputable def KR(td ty:TE):TE:=fun σ H Q=>td σ H fun x H1=>∃a,x=.ref a/\IsD H1 a/\ty σ H1 fun y H2=>∃o,lF H2 a y o/\Q (o.getD .non) H2
noncomputable def KQ(td ty tx:TE):TE:=fun σ H Q=>td σ H fun x H1=>∃a,x=.ref a/\IsD H1 a/\ty σ H1 fun y H2=>tx σ H2 fun z H3=>∃o,lF H3 a y o/\Q (o.getD z) H3
section
variable {X:Cx}{o e f:Expr}{apos cpos:Pos}{td ty tx:TE}
theorem G8(hu:X.A.units+1<cLine)(ho:PE X o td)(he:PE X e ty)(m:M1 X o "get" apos e cpos):PE X (.Call (.Attribute o "get" apos) [e] [] cpos) (KR td ty):=by intro pins s σ H Q I h;refine wpAny_Call_method m.base m.few m.line PySem.F.plainAttrs_dict PySem.F.slot_dict_get PySem.F.type_dict_get (thn (ho pins s σ H _ I h) fun u s1 ⟨x,H1,I1,rx,a,ex,d,q1⟩=>?_);subst ex;obtain rfl:u=Value.ref a:=rx;obtain⟨t1,t2,_⟩:=GW I1 d;refine⟨t1,t2,?_⟩;rw[m.trees];refine Calls.callWith_builtin rfl (Calls.evalArgs_plain (Calls.spliced_cons (thn (he pins s1 σ H1 _ I1 q1) fun iv s2 ⟨y,H2,I2,ry,ov,g,q2⟩=>Calls.spliced_nil ?_)));exact M4 hu I2 g ry fun w' s3 I3 rw'=>⟨_,H2,I3,rw',q2⟩
theorem sI(hu:X.A.units+1<cLine)(ho:PE X o td)(he:PE X e ty)(hf:PE X f tx)(m:M2 X o "get" apos e f cpos):PE X (.Call (.Attribute o "get" apos) [e,f] [] cpos) (KQ td ty tx):=by
 intro pins s σ H Q I h;refine wpAny_Call_method m.base m.few m.line PySem.F.plainAttrs_dict PySem.F.slot_dict_get PySem.F.type_dict_get (thn (ho pins s σ H _ I h) fun u s1 ⟨x,H1,I1,rx,a,ex,d,q1⟩=>?_);subst ex;obtain rfl:u=Value.ref a:=rx;obtain⟨t1,t2,_⟩:=GW I1 d;refine⟨t1,t2,?_⟩;rw[m.trees];refine Calls.callWith_builtin rfl (Calls.evalArgs_plain (Calls.spliced_cons (thn (he pins s1 σ H1 _ I1 q1) fun iv s2 ⟨y,H2,I2,ry,q2⟩=>
  Calls.spliced_cons (thn (hf pins s2 σ H2 _ I2 q2) fun fv s3 ⟨z,H3,I3,rz,ov,g,q3⟩=>Calls.spliced_nil ?_))))
 exact M3 hu I3 g ry rz fun w' s4 I4 rw'=>⟨_,H3,I4,rw',q3⟩
end
end L2
namespace L2
open PySem PySem.Spec PyProof.Rows
theorem sP:typeLookup (.type "list") "keys" =pure none:=am_miss_of_fast (by first|decide+kernel|rfl)
theorem xG:entryFor table "dict.update.loop" =some Builtin.«dict.update.loop» :=entryFor_of_tree (by kernel_rfl)
theorem jY:plainId "dict.update.loop" =true:=by decide+kernel
section
variable {prog:Program}{w:World}{A:Around}{E:Value->Shared->Prop}
theorem DX{s:Shared}{a:Addr}{o:Obj}{xs:Array Value}{k:Nat}{Q:Option Value->Shared->Prop}(hx:s.heap.get? a=some o)(hc:o.cls=.type "list")(hdat:o.data=.seq xs k)(hd:o.dict=none)(hA:A.handled=none)
  (h:∀h' tk,(∀b ob,s.heap.get? b=some ob->h'.get? b=some ob)->Q none {s with heap:=h',toks:=tk}):wpAny (model prog w) A (getAttr? (.ref a) "keys") Q E s:=by
 obtain⟨c,dct,dat,sl⟩:=o;simp only at hc hdat hd;subst hc hdat hd;obtain⟨hp,g,d,tk,os⟩:=s;have hT:∀tk',(⟨hp,g,d,tk',os⟩:Shared).TypeIs (.ref a) "list" :=fun _=>⟨_,hx,rfl⟩
 have hmiss:=sP;have hname:(["__module__","__name__","__qualname__","__doc__","__annotations__"]:List Str).contains "keys" =false:=by decide+kernel
 have hsz:("keys" : Str).length+100<=sizeLine:=by first|size_fits|decide+kernel
 have f1:=sub_AttributeError;have f3:=PySem.F.slot_list_getattribute.lookup;have f4:=PySem.F.slot_list_getattribute.bind (.ref a);have f5:=am_list_getattr_none;unfold getAttr? getAttrBy? getAttrBy
 repeat (any_goals (first|assumption|exact hT _|((with_reducible show wpAny _ _ (call (Value.builtin "list.__getattribute__") _ _) _ _ _);refine call_meets PySem.F.slot_list_getattribute (hT _) am_entry_list_getattribute (PySem.F.args_list_getattribute_2 _ _) (meets_getattribute_miss_list a xs k sl "keys" _ hmiss hname hsz) ⟨hx,hA,fun h' tk' e hx'=>?_⟩)|wp_step))
 obtain⟨t',u',he⟩:=hx'.there;show wpAny _ _ (getattributeRaised _ _ _ _ _ _ _) _ _ _
 unfold getattributeRaised
 repeat (any_goals (first|assumption|wp_step))
 all_goals first|exact h _ _ hx'.keeps|(dsimp only;repeat (any_goals (first|assumption|exact h _ _ hx'.keeps|wp_step)))
end
section
variable {X:Cx}
theorem j6:∀{ps:List Addr}{us:List Value},Vals (ps.map V.ref) us->us=ps.map Value.ref
 |[],us,r=>by rw[List.map_nil]at r;cases r;rfl
 |p::ps,us,r=>by
  rw[List.map_cons]at r;cases r with
  |cons h t=>cases h;rw[List.map_cons,<- j6 t]
end
end L2
namespace L2
open PySem PySem.Spec PyProof.Rows
section
variable {X:Cx}{pins:List (Addr×Obj)}{σ:St}{H:Hp}{s:Shared}{h':Heap}
theorem Inv.uH{t':Nat}{ch:List Addr}{T:Addr}{ob:HO}(I:Inv X pins σ H s)(k:∀b o,b∉ch->s.heap.get? b=some o->h'.get? b=some o)(hf:∀b∈ch,mQ X pins H b)(hT:s.heap.objs.size<=T)
  (new:d6 X.prog X.w (upd H T ob) h' T ob):Inv X pins σ (upd H T ob) {s with heap:=h',toks:=t'}:=by
 have hn:H T=none:=I.hok.fresh hT;have nit:∀b u,H b=some u->b∉ch:=fun b u e z=>by have q:=(hf b z).1;rw[q]at e;cases e
 refine I.step (g':=s.gens) (d':=s.drawn) (ch:=ch) (fun b hb=>⟨(hf b hb).2.2.2.1,(hf b hb).2.1,(hf b hb).2.2.2.2.1,(hf b hb).2.2.2.2.2⟩) (fun b o _ _ hc e _=>k b o hc e) (fun b o _ _ hc e _=>⟨o.slots,k b o hc e⟩)
  (fun b o _ e n=>?_) (fun b o hc e=>⟨o,k b o hc e⟩) (fun b xs e=>?_) (fun b o u e=>?_) (fun b ps e=>⟨#[],?_⟩) (fun m hm=>?_) (fun b u e=>?_) I.bare
 ·rw[aA (Nat.ne_of_lt (Nat.lt_of_lt_of_le (Heap.lt_size e) hT))];exact n
 ·rw[aA (aH e hn)];exact e
 ·rw[aA (aH e hn)];exact e
 ·rw[aA (aH e hn),e];simp
 ·obtain⟨o,es,ep,ho,r⟩:=hm;exact⟨o,es,ep,k _ o (fun z=>(hf _ z).2.1 rfl) ho,r⟩
 ·by_cases hb:b=T
  ·subst hb;rw[a7]at e;cases e;exact new
  ·rw[aA hb]at e;refine(I.hok b u e).mW (fun c v hc q=>k c v ?_ q) (fun c q=>by rw[aA (aH q hn)];exact q) fun c xs q=>by rw[aA (aH q hn)];exact q
   rcases hc with z|z
   ·rw[z];exact nit b u e
   ·exact nit c _ z
theorem Inv.lock{d:Addr}{u:HO}(I:Inv X pins σ H s)(h:H d=some u)(mu:Mut (some u)):∃od,Inv X pins σ (upd H d (.frz od u)) s:=by
 have x:=I.hok d u h;have ex:∃od,s.heap.get? d=some od:=by
  cases u with
  |lst xs=>obtain⟨_,_,_,_,e⟩:=x;exact⟨_,e⟩
  |dK kvs=>obtain⟨_,_,_,_,o,_,_,e,_⟩:=x;exact⟨o,e⟩
  |dT kvs=>obtain⟨_,_,_,_,o,_,_,e,_⟩:=x;exact⟨o,e⟩
  |set S n=>obtain⟨o,_,_,_,e,_⟩:=x;exact⟨o,e⟩
  |ins C dx fs=>obtain⟨_,_,_,e,_⟩:=x;exact⟨_,e⟩
  |ext φ=>obtain⟨_,⟨_,e⟩,_⟩:=x;exact⟨_,e⟩
  |_=>exact False.elim mu
 obtain⟨od,e⟩:=ex;have new:d6 X.prog X.w (upd H d (.frz od u)) s.heap d (.frz od u):=by
  refine⟨e,x.mW (fun b v _ q=>q) (fun b q=>?_) fun b xs q=>?_⟩
  ·rw[aA (fun z=>by rw[z,h]at q;cases q;exact mu)];exact q
  ·rw[aA (fun z=>by rw[z,h]at q;cases q;exact mu)];exact q
 exact⟨od,I.write (x:=d) (e:=d) (t':=s.toks) (h':=s.heap) (by rw[h];exact mu) (.inl rfl) (fun b v _ q=>q) ⟨od,e⟩ new⟩
theorem Inv.v9{d:Addr}{u:HO}(I:Inv X pins σ H s)(h:H d=some u)(mu:Mut (some u)):∀o' u',X.H_0 d≠some (.frz o' u'):=fun o' u' e=>by have q:=I.base.nR d o' u' e;rw[h]at q;cases q;exact mu
theorem Inv.unlock{d:Addr}{od:Obj}{u:HO}(I:Inv X pins σ H s)(h:H d=some (.frz od u))(hn:∀o' u',X.H_0 d≠some (.frz o' u')):Inv X pins σ (upd H d u) s:=by
 have neH:∀b o,H b=some o->(∀o' u',o≠ .frz o' u')->b≠d:=fun b o e hne z=>by rw[z,h]at e;cases e;exact hne _ _ rfl
 have neN:∀b,H b=none->b≠d:=fun b e z=>by rw[z,h]at e;cases e
 refine⟨I.ok,I.os,I.bare,⟨I.base.keep,I.base.slot,fun b o e n hx=>?_,I.base.there,fun b xs e=>?_,fun b o x e=>?_,fun b ps e=>?_⟩,I.loc,I.cell,?_,fun x c e=>?_,fun p hp=>?_,fun b o e=>?_,I.len⟩
 ·rw[aA (neN b (I.base.free b o e n hx))];exact I.base.free b o e n hx
 ·have q:=I.base.tQ b xs e;rw[aA (neH b _ q (fun _ _ z=>nomatch z))];exact q
 ·have q:=I.base.nR b o x e;rw[aA (fun z=>by rw[z]at e;exact hn _ _ e)];exact q
 ·obtain⟨m,q⟩:=I.base.rM b ps e;exact⟨m,by rw[aA (neH b _ q (fun _ _ z=>nomatch z))];exact q⟩
 ·rw[aA (neN _ I.free)];exact I.free
 ·rw[aA (neN c (I.gY x c e))];exact I.gY x c e
 ·obtain⟨e,n,r⟩:=I.pin p hp;exact⟨e,by rw[aA (neN _ n)];exact n,r⟩
 ·by_cases hb:b=d
  ·rw[hb,a7]at e;cases e;rw[hb];obtain⟨_,x⟩:=I.hok d _ h;exact x.mW (fun c v _ q=>q) (fun c q=>by rw[aA (neH c _ q (fun _ _ z=>nomatch z))];exact q) fun c xs q=>by rw[aA (neH c _ q (fun _ _ z=>nomatch z))];exact q
  ·rw[aA hb]at e;exact(I.hok b o e).mW (fun c v _ q=>q) (fun c q=>by rw[aA (neH c _ q (fun _ _ z=>nomatch z))];exact q) fun c xs q=>by rw[aA (neH c _ q (fun _ _ z=>nomatch z))];exact q
end
noncomputable def MM(t:TS):TS:=fun D σ H=>∃d u,H d=some u/\Mut (some u)/\∀od,t ⟨fun σ' H'=>H' d=some (.frz od u)/\D.nx σ' (upd H' d u),fun v H'=>H' d=some (.frz od u)/\D.rt v (upd H' d u),fun σ' H'=>H' d=some (.frz od u)/\D.bk σ' (upd H' d u),fun σ' H'=>H' d=some (.frz od u)/\D.ct σ' (upd H' d u)⟩ σ (upd H d (.frz od u))
noncomputable def KO(t:TE):TE:=fun σ H Q=>∃d u,H d=some u/\Mut (some u)/\∀od,t σ (upd H d (.frz od u)) fun v H'=>H' d=some (.frz od u)/\Q v (upd H' d u)
section
variable {X:Cx}
theorem j7{st:Stmt}{t:TS}(h:PS X st t):PS X st (MM t):=by
 intro pins s σ H D I hw;obtain⟨d,u,hd,mu,hw⟩:=hw;obtain⟨od,I1⟩:=I.lock hd mu;refine thn (h pins s σ _ _ I1 (hw od)) fun f s1 q=>?_
 cases f with
 |next=>obtain⟨σ',H',I2,e,q⟩:=q;exact⟨σ',_,I2.unlock e (I.v9 hd mu),q⟩
 |brk=>obtain⟨σ',H',I2,e,q⟩:=q;exact⟨σ',_,I2.unlock e (I.v9 hd mu),q⟩
 |cont=>obtain⟨σ',H',I2,e,q⟩:=q;exact⟨σ',_,I2.unlock e (I.v9 hd mu),q⟩
 |ret v=>obtain⟨x,σ',H',I2,r,e,q⟩:=q;exact⟨x,σ',_,I2.unlock e (I.v9 hd mu),r,q⟩
theorem C6{e:Expr}{t:TE}(h:PE X e t):PE X e (KO t):=by
 intro pins s σ H Q I hw;obtain⟨d,u,hd,mu,hw⟩:=hw;obtain⟨od,I1⟩:=I.lock hd mu;refine thn (h pins s σ _ _ I1 (hw od)) fun v s1 ⟨x,H1,I2,r,e2,q⟩=>?_
 exact⟨x,_,I2.unlock e2 (I.v9 hd mu),r,q⟩
theorem AD{tg:Expr}{pins:List (Addr×Obj)}{σ:St}{H:Hp}{s:Shared}{R:It->Hp->Prop}{J:It}{tn:Nat->Heap->Prop}{tk:Nat}(I:Inv X pins σ H s)(o:Obj)
  (T:Turn X.prog X.w X.K tg J [s.heap.objs.size] s.heap.objs.size tn) (st:tn 0 (s.heap.push o)) (q:R J H):PIE X pins σ tg R (.ref s.heap.objs.size) {s with heap:=s.heap.push o,toks:=tk}:=by
 refine⟨s.heap.objs.size,[s.heap.objs.size],tn,J,H,rfl,I.kept fun b ob e=>Heap.get?_push_of_some _ e,T,st,fun b hb=>?_,q⟩;have e:b=s.heap.objs.size:=by simpa using hb
 subst e;exact I.BC (Nat.le_refl _) (I.hok.fresh (Nat.le_refl _))
end
section
variable {prog:Program}{w:World}{A:Around}{E:Value->Shared->Prop}{s:Shared}
theorem pH{d:Addr}{o:Obj}{es:Array DictEntry}{ep:Nat}{Q:Value->Shared->Prop}(hd:(d==sysModules)=false)(ho:s.heap.get? d=some o)(hc:o.ExactDict)(hdat:o.data=.dict es ep)
  (hQ:Q (.ref s.heap.objs.size) {s with heap:=s.heap.push {cls:=.type "dict_keyiterator",data:=.fields #[.ref d,.int 0 0,.int es.size 0,.int ep 0]}}):
  wpAny (model prog w) A (pyIter (.ref d)) Q E s:=by
 have hT:s.TypeIs (.ref d) "dict" :=⟨o,ho,hc.1⟩;refine wpAny_pyIter_slot hT F.slot_dict_iter (wpAny_call_entry F.slot_dict_iter hT F.entry_dict_iter ?_ (F.args_dict_iter_1 _));unfold Builtin.«dict.__iter__»;refine wpAny_bind ?_;unfold Builtin.Dict.dictSlotNone;refine wpAny_bind (wpAny_notOrdered_dict hT ?_);show wpAny _ _ (pure (Value.ref d)) _ _ s
 refine wpAny_pure ?_;show wpAny _ _ (Builtin.Dict.showsAll d>>= _) _ _ s
 unfold Builtin.Dict.showsAll;rw[if_neg (by rw[hd];exact Bool.false_ne_true)];refine wpAny_bind (wpAny_pure ?_);refine wpAny_bind (wpAny_dictEntries ho hdat ?_);refine wpAny_bind (wpAny_dictEpoch ho hdat ?_);refine wpAny_bind (wpAny_newObj_type (wpAny_pure ⟨_,rfl,"dict_keyiterator",_,⟨_,Heap.get?_push_size _ rfl,rfl⟩,F.slot_dict_keyiterator_next.lookup,?_⟩));simpa[rawInt]using hQ
theorem m5{it d:Addr}{i n ep:Nat}{od:Obj}{es:Array DictEntry}{en:DictEntry}{Q:Option Value->Shared->Prop}(hit:s.heap.IsKeyIter it d i n ep)(hod:s.heap.get? d=some od)(hdd:od.data=.dict es ep)
  (hsz:es.size=n) (hx:es[i]? =some en) (hQ:∀h',h'.IsKeyIter it d (i+1) n ep->Heap.SameBut it s.heap h'->Q (some en.key) {s with heap:=h'}):wpAny (model prog w) A (pyNext (.ref it)) Q E s:=by
 obtain⟨o,ho,hc,hd⟩:=id hit;unfold pyNext;refine wpAny_bind (wpAny_attempt (wpAny_callSpecial?_slot (name:=Str.ofString "__next__") hit.typeIs F.slot_dict_keyiterator_next
  (wpAny_call_entry F.slot_dict_keyiterator_next hit.typeIs F.entry_dict_keyiterator_next ?_ (F.args_dict_keyiterator_next_1 _))))
 refine wpAny_bind (wpAny_pure ?_);refine wpAny_bind ?_;refine wpAny_bind ?_;first|refine wpAny_bind (wpAny_typeNameOfWhole_keyiter hit.typeIs (wpAny_pure ?_))|refine wpAny_bind (wpAny_typeNameOf_keyiter hit.typeIs (wpAny_pure ?_))
 refine wpAny_bind (wpAny_fieldsOf ho hd ?_);have hown:Builtin.Dict_items.ownsTuple "dict_keyiterator" =false:=by decide
 simp only[hown,Bool.false_eq_true,if_false];show wpAny _ _ (if(Value.ref d==Value.none)=true then _ else _) _ _ s
 rw[if_neg (show¬((Value.ref d==Value.none)=true)from Bool.false_ne_true)];refine wpAny_bind (wpAny_pure ?_);refine wpAny_bind (wpAny_dictEntries hod hdd ?_);rw[if_neg (by rw[hsz];simp)];refine wpAny_bind (wpAny_pure ?_);refine wpAny_bind (wpAny_dictEpoch hod hdd ?_);rw[if_neg (by simp)];refine wpAny_pure ?_;obtain⟨hlt',hen⟩:=Array.getElem?_eq_some_iff.mp hx;simp only[show¬((i:Int)<0)from by omega,if_false,Int.toNat_natCast,Array.getElem?_eq_getElem hlt'];refine wpAny_bind ?_;first|refine wpAny_bind (wpAny_typeNameOfWhole_keyiter hit.typeIs (wpAny_pure ?_))|refine wpAny_bind (wpAny_typeNameOf_keyiter hit.typeIs (wpAny_pure ?_))
 refine wpAny_bind (wpAny_isOneOf_keyiter hit.typeIs ?_);show wpAny _ _ (setField (.ref it) 1 (rawInt ((i:Int)+1))>>= _) _ _ s
 refine wpAny_bind (wpAny_setField ho hd (by simp) ?_);have hit':(s.heap.update it (Obj.mapFields (·.setIfInBounds 1 (rawInt ((i:Int)+1))))).IsKeyIter it d (i+1) n ep:=
  ⟨_,Heap.get?_update_self _ ho (Obj.isFreed_of_fields (Obj.data_mapFields hd _)),(Obj.cls_mapFields ..).trans hc,by rw[Obj.data_mapFields hd];simp[rawInt]⟩
 refine wpAny_bind (wpAny_holding ?_);refine wpAny_bind (wpAny_isOneOf_keyiter (s:={s with heap:=s.heap.update it (Obj.mapFields (·.setIfInBounds 1 (rawInt ((i:Int)+1))))}) hit'.typeIs ?_);show wpAny _ _ (pure es[i].key) _ _ _
 rw[hen];exact wpAny_pure (wpAny_pure ⟨_,rfl,wpAny_pure (hQ _ hit' (Heap.SameBut.update ..))⟩)
theorem jA{it d:Addr}{i n ep:Nat}{od:Obj}{es:Array DictEntry}{Q:Option Value->Shared->Prop}(hh:A.handled=none)(hit:s.heap.IsKeyIter it d i n ep)(hod:s.heap.get? d=some od)(hdd:od.data=.dict es ep)
  (hsz:es.size=n) (hge:n<=i) (hQ:∀h',Heap.ExtBut it s.heap h'->Q none {s with heap:=h'}):wpAny (model prog w) A (pyNext (.ref it)) Q E s:=by
 obtain⟨o,ho,hc,hd⟩:=id hit;unfold pyNext;refine wpAny_bind (wpAny_attempt (wpAny_callSpecial?_slot (name:=Str.ofString "__next__") hit.typeIs F.slot_dict_keyiterator_next
  (wpAny_call_entry F.slot_dict_keyiterator_next hit.typeIs F.entry_dict_keyiterator_next ?_ (F.args_dict_keyiterator_next_1 _))))
 refine wpAny_bind (wpAny_pure ?_);refine wpAny_bind ?_;refine wpAny_bind ?_;first|refine wpAny_bind (wpAny_typeNameOfWhole_keyiter hit.typeIs (wpAny_pure ?_))|refine wpAny_bind (wpAny_typeNameOf_keyiter hit.typeIs (wpAny_pure ?_))
 refine wpAny_bind (wpAny_fieldsOf ho hd ?_);have hown:Builtin.Dict_items.ownsTuple "dict_keyiterator" =false:=by decide
 simp only[hown,Bool.false_eq_true,if_false];show wpAny _ _ (if(Value.ref d==Value.none)=true then _ else _) _ _ s
 rw[if_neg (show¬((Value.ref d==Value.none)=true)from Bool.false_ne_true)];refine wpAny_bind (wpAny_pure ?_);refine wpAny_bind (wpAny_dictEntries hod hdd ?_);rw[if_neg (by rw[hsz];simp)];refine wpAny_bind (wpAny_pure ?_);refine wpAny_bind (wpAny_dictEpoch hod hdd ?_);rw[if_neg (by simp)];refine wpAny_pure ?_;have hge':es.size<=i:=by rw[hsz];exact hge
 simp only[show¬((i:Int)<0)from by omega,if_false,Int.toNat_natCast,Array.getElem?_eq_none hge'];refine wpAny_bind ?_;first|refine wpAny_bind (wpAny_typeNameOfWhole_keyiter hit.typeIs (wpAny_pure ?_))|refine wpAny_bind (wpAny_typeNameOf_keyiter hit.typeIs (wpAny_pure ?_))
 show wpAny _ _ (setField (.ref it) 0 .none>>= _) _ _ s
 refine wpAny_bind (wpAny_setField ho hd (by simp) ?_);show wpAny _ _ (newExc (.type "StopIteration") []>>= _) _ _ _
 refine wpAny_bind ?_;simp only[newExc,newTuple];refine wpAny_bind (wpAny_newObj_type ?_ (by size_fits));refine wpAny_bind (m:=firstArgMember _ _) (wpAny_of_eq (a:=Value.none) (by first|rfl|(simp only[firstArgMember];rfl)) ?_);refine wpAny_newObj_type ?_ (by size_fits);simp only[raiseNew];refine wpAny_bind (wpAny_handled ?_);rw[show A.in1.handled=none from hh];refine wpAny_bind (wpAny_pure (wpAny_throw ?_));refine wpAny_bind (wpAny_isInstance (T:= "StopIteration") (b:=true) ⟨_,Heap.get?_push_size _ rfl,rfl⟩ isSubtype_stop ?_);exact wpAny_pure (hQ _ (((Heap.SameBut.update ..).extBut.push _).push _))
end
theorem LK{κ:Type}{kvs:List (κ×V)}{vs:List (κ×Value)}(h:KV kvs vs):∀{i:Nat}{k:κ}{v:V},kvs[i]? =some (k,v)->∃u,vs[i]? =some (k,u)/\RelV v u:=by
 unfold KV at h;induction h with
 |nil=>intro i k v e;simp at e
 | @cons a b l₁ l₂ r t ih=>
  intro i k v e;cases i with
  |zero=>simp only[List.getElem?_cons_zero,Option.some.injEq]at e;subst e;refine⟨b.2,?_,r.2⟩;simp only[List.getElem?_cons_zero];exact congrArg some (Prod.ext r.1.symm rfl)
  |succ j=>simp only[List.getElem?_cons_succ]at e ⊢;exact ih e
theorem AG{α β:Type}{G:α->β->Prop}{l₁:List α}{l₂:List β}(h:Paired G l₁ l₂):∀{i:Nat}{a:α},l₁[i]? =some a->∃b,l₂[i]? =some b/\G a b:=by
 induction h with
 |nil=>intro i a e;simp at e
 | @cons a b l₁ l₂ r t ih=>
  intro i a' e;cases i with
  |zero=>simp only[List.getElem?_cons_zero,Option.some.injEq]at e;subst e;exact⟨b,rfl,r⟩
  |succ j=>simp only[List.getElem?_cons_succ]at e ⊢;exact ih e
theorem FY{k:Key}{u:Value}(h:qK k u=true):RelV (kV k) u:=by
 rcases cG h with⟨i,t,rfl,rfl⟩|⟨x,t,rfl,rfl⟩
 ·exact⟨t,rfl⟩
 ·exact⟨t,rfl⟩
section
variable {X:Cx}{pins:List (Addr×Obj)}{σ:St}{H:Hp}{s:Shared}{d:Addr}{o:Obj}
theorem Inv.LX{kvs:List (Key×V)}(I:Inv X pins σ H s)(h:H d=some (.frz o (.dK kvs))):
  (d==sysModules)=false/\s.heap.get? d=some o/\o.ExactDict/\∃(es:Array DictEntry)(ep:Nat)(vs:List (Key×Value)),o.data=.dict es ep/\es.size=kvs.length/\KV kvs vs/\s.heap.DictAt (bY X.prog X.w) d vs ep:=by
 obtain⟨hd,z,hs,vs,kv,o',es,ep,ho,hx,hdt,r⟩:=I.hok d _ h;rw[hd]at ho;cases ho;refine⟨hs,hd,hx,es,ep,vs,hdt,?_,kv,o,es,hd,hx,hdt,r⟩;have l1:=r.2.1.length;have l2:kvs.length=vs.length:=Paired.length kv;rw[Array.length_toList]at l1;omega
theorem Inv.LW{kvs:List (List Key×V)}(I:Inv X pins σ H s)(h:H d=some (.frz o (.dT kvs))):
  (d==sysModules)=false/\s.heap.get? d=some o/\o.ExactDict/\∃(es:Array DictEntry)(ep:Nat),o.data=.dict es ep/\es.size=kvs.length/\
   ∀(i:Nat)(k:List Key)(v:V),kvs[i]? =some (k,v)->∃(en:DictEntry)(q:Addr),es[i]? =some en/\en.key=.ref q/\H q=some (.tup (k.map kV)):=by
 obtain⟨hd,z,hs,xs,pr,o',es,ep,ho,hx,hdt,he,_⟩:=I.hok d _ h;rw[hd]at ho;cases ho;refine⟨hs,hd,hx,es,ep,hdt,?_,fun i k v e=>?_⟩
 ·have l1:es.size=xs.length:=size_of_entries he;have l2:kvs.length=xs.length:=Paired.length pr;omega
 ·obtain⟨b,hb,e1,e2,_⟩:=AG pr e;have q:=entry_at he i;rw[hb]at q;exact⟨_,b.2.1,q,rfl,e2⟩
end
noncomputable def Itk(d:Addr)(o:Obj)(kvs:List (Key×V)):It:=
 ⟨fun i H=>H d=some (.frz o (.dK kvs))/\i<kvs.length,fun i H x H'=>H'=H/\∃k v,kvs[i]? =some (k,v)/\x=kV k,fun i H=>H d=some (.frz o (.dK kvs))/\kvs.length<=i⟩
noncomputable def zT(d:Addr)(o:Obj)(kvs:List (List Key×V)):It:=
 ⟨fun i H=>H d=some (.frz o (.dT kvs))/\i<kvs.length,fun i H x H'=>H'=H/\∃(k:List Key)(v:V)(q:Addr),kvs[i]? =some (k,v)/\x=.ref q/\H q=some (.tup (k.map kV)),fun i H=>H d=some (.frz o (.dT kvs))/\kvs.length<=i⟩
theorem nY{o:Obj}{es es':Array DictEntry}{ep ep':Nat}(h:o.data=.dict es ep)(h':o.data=.dict es' ep'):es'=es/\ep'=ep:=by rw[h]at h';cases h';exact⟨rfl,rfl⟩
section
variable {P:Program}{w:World}{K:W.Frag}{tg:Expr}{d:Addr}{o:Obj}{es:Array DictEntry}{ep:Nat}
theorem DB{kvs:List (Key×V)}(it:Addr)(hod:o.data=.dict es ep):Turn P w K tg (Itk d o kvs) [it] it (fun i h=>h.IsKeyIter it d i kvs.length ep) where
 mem:=by simp
 obj:=fun i h st b hb=>by
  have e:b=it:=by simpa using hb
  subst e;obtain⟨oi,e,c,dd⟩:=st;exact⟨oi,e,fun v z=>by rw[dd]at z;cases z⟩
 keep:=fun i h h' st k=>st.at fun oi e=>k it (by simp) oi e
 item:=by
  intro X hP hw hK hc i pins s σ H E I hf st hg;subst hP hw hK;obtain⟨hd,hi⟩:=hg;obtain⟨f0,f1,f2,f3,f4,f5⟩:=hf it (by simp);obtain⟨hs,hgd,hx,es',ep',vs,hdt,hsz,kv,hm⟩:=I.LX hd;obtain⟨rfl,rfl⟩:=nY hod hdt;obtain⟨⟨k,v⟩,hkv⟩:∃p,kvs[i]? =some p:=⟨kvs[i],List.getElem?_eq_getElem hi⟩
  obtain⟨u,hu,ru⟩:=LK kv hkv;have hl:kvs.length=vs.length:=Paired.length kv;rw[hl]at st;refine wpAny_pyNext_dict_item st hm hu fun key h' hkey st' sb=>?_
  have I1:Inv X pins σ H {s with heap:=h'}:=I.turned (t':=s.toks) (fun b ob hb e=>(sb.2 b hb).trans e) f0 f1 f3 f4 f5;obtain⟨oi,e,c,dd⟩:=id st';refine⟨key,rfl,z9 (s:={s with heap:=h'}) e c dd (by decide) ⟨kV k,H,I1,FY (show qK k key=true from hkey),⟨rfl,k,v,hkv,rfl⟩,?_,fun b hb=>(hf b hb).1⟩⟩;show h'.IsKeyIter it d (i+1) kvs.length _
  rw[hl];exact st'
 done:=by intro X hP hw hK hc i pins s σ H E I hf st hg;subst hP hw hK;obtain⟨hd,hi⟩:=hg;obtain⟨f0,f1,f2,f3,f4,f5⟩:=hf it (by simp);obtain⟨hs,hgd,hx,es',ep',vs,hdt,hsz,kv,hm⟩:=I.LX hd;obtain⟨rfl,rfl⟩:=nY hod hdt;exact jA (I.ok.hd hc) st hgd hdt hsz hi fun h' eb=>⟨rfl,I.turned (t':=s.toks) (fun b ob hb e=>eb b ob hb e) f0 f1 f3 f4 f5⟩
 self:=fun A i s Q E st h=>wpAny_pyIter_keyiter st h
theorem A0{kvs:List (List Key×V)}(it:Addr)(hod:o.data=.dict es ep):Turn P w K tg (zT d o kvs) [it] it (fun i h=>h.IsKeyIter it d i kvs.length ep) where
 mem:=by simp
 obj:=fun i h st b hb=>by
  have e:b=it:=by simpa using hb
  subst e;obtain⟨oi,e,c,dd⟩:=st;exact⟨oi,e,fun v z=>by rw[dd]at z;cases z⟩
 keep:=fun i h h' st k=>st.at fun oi e=>k it (by simp) oi e
 item:=by
  intro X hP hw hK hc i pins s σ H E I hf st hg;subst hP hw hK;obtain⟨hd,hi⟩:=hg;obtain⟨f0,f1,f2,f3,f4,f5⟩:=hf it (by simp);obtain⟨hs,hgd,hx,es',ep',hdt,hsz,ent⟩:=I.LW hd;obtain⟨rfl,rfl⟩:=nY hod hdt;obtain⟨⟨k,v⟩,hkv⟩:∃p,kvs[i]? =some p:=⟨kvs[i],List.getElem?_eq_getElem hi⟩
  obtain⟨en,q,hen,hkey,hq⟩:=ent i k v hkv;refine m5 st hgd hdt hsz hen fun h' st' sb=>?_
  have I1:Inv X pins σ H {s with heap:=h'}:=I.turned (t':=s.toks) (fun b ob hb e=>(sb.2 b hb).trans e) f0 f1 f3 f4 f5;obtain⟨oi,e,c,dd⟩:=id st';exact⟨en.key,rfl,z9 (s:={s with heap:=h'}) e c dd (by decide) ⟨.ref q,H,I1,hkey,⟨rfl,k,v,q,hkv,rfl,hq⟩,st',fun b hb=>(hf b hb).1⟩⟩
 done:=by intro X hP hw hK hc i pins s σ H E I hf st hg;subst hP hw hK;obtain⟨hd,hi⟩:=hg;obtain⟨f0,f1,f2,f3,f4,f5⟩:=hf it (by simp);obtain⟨hs,hgd,hx,es',ep',hdt,hsz,ent⟩:=I.LW hd;obtain⟨rfl,rfl⟩:=nY hod hdt;exact jA (I.ok.hd hc) st hgd hdt hsz hi fun h' eb=>⟨rfl,I.turned (t':=s.toks) (fun b ob hb e=>eb b ob hb e) f0 f1 f3 f4 f5⟩
 self:=fun A i s Q E st h=>by
  refine wpAny_pyIter_slot st.typeIs F.slot_dict_keyiterator_iter (wpAny_call_entry F.slot_dict_keyiterator_iter st.typeIs F.entry_dict_keyiterator_iter ?_ (F.args_dict_keyiterator_iter_1 _));show wpAny _ _ (ret (.ref it)) _ _ s
  exact wpAny_pure ⟨_,rfl,"dict_keyiterator",_,st.typeIs,F.slot_dict_keyiterator_next.lookup,h⟩
end
noncomputable def QZ(td:TE):TI:=fun σ H R=>td σ H fun x H1=>∃d o,x=.ref d/\((∃kvs,H1 d=some (.frz o (.dK kvs))/\R (Itk d o kvs) H1)\/∃kvs,H1 d=some (.frz o (.dT kvs))/\R (zT d o kvs) H1)
section
variable {X:Cx}{tg e:Expr}{td:TE}{apos cpos:Pos}
theorem lI(he:PE X e td):PI X tg e (QZ td):=by
 intro pins s σ H R I h;refine thn (he pins s σ H _ I h) fun u s1 ⟨x,H1,I1,rx,d,o,ex,q⟩=>?_
 subst ex;obtain rfl:u=Value.ref d:=rx;rcases q with⟨kvs,hd,q⟩|⟨kvs,hd,q⟩
 ·obtain⟨hs,hgd,hx,es,ep,vs,hdt,hsz,kv,hm⟩:=I1.LX hd;refine pH hs hgd hx hdt (AD (tk:=s1.toks) I1 _ (DB _ hdt) ⟨_,Heap.get?_push_size _ rfl,rfl,?_⟩ q);rw[hsz]<;>rfl
 ·obtain⟨hs,hgd,hx,es,ep,hdt,hsz,ent⟩:=I1.LW hd;refine pH hs hgd hx hdt (AD (tk:=s1.toks) I1 _ (A0 _ hdt) ⟨_,Heap.get?_push_size _ rfl,rfl,?_⟩ q);rw[hsz]<;>rfl
end
noncomputable def Ite(K:W.Frag)(a:Addr):It:=
 ⟨fun i H=>∃(xs:List V)(x:V),SqL K H a xs/\xs[i]? =some x,fun i H v H'=>∃T x,v=.ref T/\H T=none/\H'=upd H T (.tup [.int (i:Nat),x])/\∀xs,SqL K H a xs->xs[i]? =some x,fun i H=>∃xs:List V,SqL K H a xs/\xs.length<=i⟩
theorem DC{P:Program}{w:World}{K:W.Frag}{elts:List Expr}{kk:Nat}{tpos:Pos}(a e it:Addr):
  Turn P w K (.Tuple elts kk tpos) (Ite K a) [e,it] e (fun i h=>(∃old,IsEnum h e it ((i:Nat):Int) old)/\h.IsListIter it a i/\e≠it) where
 mem:=by simp
 obj:=fun i h st b hb=>by
  obtain⟨⟨old,he⟩,⟨o,ho,hc,hd⟩,_⟩:=st;have e':b=e\/b=it:=by simpa using hb
  rcases e' with z|z
  ·rw[z];exact⟨_,he,fun v q=>nomatch q⟩
  ·rw[z];exact⟨o,ho,fun v q=>by rw[hd]at q;cases q⟩
 keep:=fun i h h' st k=>let⟨⟨old,he⟩,hi,hne⟩:=st;⟨⟨old,k e (by simp) _ he⟩,hi.at fun o q=>k it (by simp) o q,hne⟩
 item:=by
  intro X hP hw hK hc i pins s σ H E I hf st hg;subst hP hw hK;obtain⟨⟨old,he⟩,hit,hne⟩:=st;obtain⟨xs,x,hq,hx⟩:=hg;obtain⟨its,rv,p,hz⟩:=I.list hq;obtain⟨u,hu,ru⟩:=rv.get hx;have hel:e<s.heap.objs.size:=Heap.lt_size he;have hil:it<s.heap.objs.size:=by obtain⟨_,q,_⟩:=hit;exact Heap.lt_size q
  refine wpAny_pyNext_enum_item he hit p.isList (x:=u) (by simpa using hu) hne fun h' ho hit' hT hsz hk=>?_
  refine⟨_,rfl,wpAny_letOwnedTupleGo_enum (s:={s with heap:=h',toks:=s.toks+1}) ho fun h'' he' sb=>?_⟩;have hT2:h''.get? s.heap.objs.size=some {cls:=.type "tuple",data:=.seq #[.int i s.toks,u]}:=(sb.2 _ (Nat.ne_of_gt hel)).trans hT;have new:d6 X.prog X.w (upd H s.heap.objs.size (.tup [.int (i:Nat),x])) h'' s.heap.objs.size (.tup [.int (i:Nat),x]):=
   ⟨by show 2<=sizeLine;decide,[.int i s.toks,u],.cons ⟨_,rfl⟩ (.cons ru .nil),⟨_,hT2,rfl,_,rfl⟩⟩
  have I1:Inv X pins σ (upd H s.heap.objs.size (.tup [.int (i:Nat),x])) {s with heap:=h'',toks:=s.toks+1}:=
   I.uH (ch:=[e,it]) (fun b ob hb q=>(sb.2 b (fun z=>hb (by simp[z]))).trans (hk b ob (fun z=>hb (by simp[z])) (fun z=>hb (by simp[z])) q)) hf (Nat.le_refl _) new
  refine⟨.ref s.heap.objs.size,_,I1,rfl,⟨_,x,rfl,I.hok.fresh (Nat.le_refl _),rfl,fun ys hy=>by rw[I.yL hy hq];exact hx⟩,⟨⟨u,?_⟩,hit'.at fun o q=>(sb.2 it (Ne.symm hne)).trans q,hne⟩,fun b hb=>?_⟩
  ·have e1:((i+1:Nat):Int)=(i:Int)+1:=by omega
   rw[e1];exact he'
  ·have hb':b<s.heap.objs.size:=by
    have e':b=e\/b=it:=by simpa using hb
    rcases e' with z|z
    ·rw[z];exact hel
    ·rw[z];exact hil
   rw[aA (Nat.ne_of_lt hb')];exact(hf b hb).1
 done:=by intro X hP hw hK hc i pins s σ H E I hf st hg;subst hP hw hK;obtain⟨⟨old,he⟩,hit,hne⟩:=st;obtain⟨xs,hq,hx⟩:=hg;obtain⟨its,rv,p,hz⟩:=I.list hq;obtain⟨f0,f1,f2,f3,f4,f5⟩:=hf it (by simp);have hl:=rv.length;exact wpAny_pyNext_enum_end (I.ok.hd hc) he hit p.isList (by simp;omega) fun h' eb=>⟨rfl,I.turned (t':=s.toks) (fun b o hb q=>eb b o hb q) f0 f1 f3 f4 f5⟩
 self:=fun A i s Q E st h=>let⟨⟨_,he⟩,_⟩:=st;wpAny_pyIter_enum he h
noncomputable def R0(K:W.Frag)(ta:TA):TI:=fun σ H R=>ta σ H fun vs H1=>∃a xs,vs=[.ref a]/\SqL K H1 a xs/\R (Ite K a) H1
theorem IW{X:Cx}{e:Expr}{ta:TA}{p pos tpos:Pos}{elts:List Expr}{kk:Nat}(hg:Gl X "enumerate")(hm:X.mg "enumerate" =none)(ha:PA X [e] ta)(hs:starEach [e] X.env=[(false,eval e X.env)]:=by rfl):
  PI X (.Tuple elts kk tpos) (.Call (.Name "enumerate" p) [e] [] pos) (R0 X.K ta):=by
 intro pins s σ H R I h;refine Call_ (mE I hg hm boot_enumerate (PyProof.Rows.callWith_type1 (thn (ha pos pins s σ H _ I h) fun us s1 ⟨vs,H1,I1,r1,q1⟩=>?_) hs rfl));obtain⟨a,xs,ex,hq,q⟩:=q1;subst ex;cases r1 with
 |cons r rr=>
  cases rr;cases r;obtain⟨its,rv,p',hz⟩:=I1.list hq;refine call_enumerate_list p'.isList fun h' he hit hsz hk=>wpAny_pyIter_enum he ?_
  have I2:Inv X pins σ H1 {s1 with heap:=h'}:=I1.kept (t':=s1.toks) hk;refine⟨s1.heap.objs.size+1,[s1.heap.objs.size+1,s1.heap.objs.size],_,_,H1,rfl,I2,DC a (s1.heap.objs.size+1) s1.heap.objs.size,⟨⟨.none,he⟩,hit,Nat.succ_ne_self _⟩,fun b hb=>?_,q⟩;have e':b=s1.heap.objs.size+1\/b=s1.heap.objs.size:=by simpa using hb
  have hle:s1.heap.objs.size<=b:=by
   rcases e' with z|z
   ·rw[z];exact Nat.le_add_right _ _
   ·rw[z];exact Nat.le_refl _
  exact I1.BC hle (I1.hok.fresh hle)
end L2
namespace L2
open PySem PySem.Spec PyProof.Rows
theorem oN:∀{vs:List Value}{ns:List Int},IntsAre vs ns->Vals (ns.map V.int) vs
 |_,_,.nil=>.nil
 |_,_,.cons n t h=>.cons ⟨t,rfl⟩ (oN h)
end L2
namespace L2
open PySem PySem.Spec PyProof.Rows
abbrev KOf{K:W.Frag}{h:Heap}(_:K.In h):W.Frag:=K
end L2
namespace L2
open PySem PySem.Spec PyProof.Rows
noncomputable def inClass(s:Stmt)(j:Nat):Stmt:=match s with
 | .ClassDef _ _ _ body _ _ _ _ _ _ _=>body.getD j (.Pass ⟨0,0,0,0⟩)
 |_=>.Pass ⟨0,0,0,0⟩
noncomputable def gZ(s:Stmt):Arguments:=match s with
 | .FunctionDef _ a _ _ _ _ _ _ _ _=>a
 |_=>{posonlyargs:=[],args:=[],vararg:=none,kwonlyargs:=[],kw_defaults:=[],kwarg:=none,defaults:=[]}
noncomputable def eZ(s:Stmt):List Stmt:=match s with
 | .FunctionDef _ _ b _ _ _ _ _ _ _=>b
 |_=>[]
noncomputable def aG(s:Stmt):Scope:=match s with
 | .FunctionDef _ _ _ _ _ _ sc _ _ _=>sc
 |_=>{kind:=.function,names:=[],isGenerator:=false,isCoroutine:=false}
abbrev CX0:CXT:=fun _ _ _ _ _ _=>False
abbrev E0:XK:=fun _ _ _=>False
theorem aX{X:Cx}:Passes CX0 X E0:=fun _ _ _ _ _ _ _ h=>h.elim
structure Fun(K:W.Frag)(x qual:Str)(st:Stmt)(f:Addr)(fd:FuncData):Prop where
 ex:∃(oc:Value)(od:Option Addr)(kV doc pm:Value)(an:Option Addr)(cdv ct:Value)(osl:Array (Option Value)),
  fd=W.fnOf x qual (gZ st) (eZ st) (aG st) .none kV doc pm an cdv ct/\K.lookup f=some ⟨oc,od,.func fd,osl⟩/\W.codeIn K cdv qual=true
 kp:W.keepIn K (.ref f)=true
section
variable {P:Program}{w:World}{K:W.Frag}{mg:Str->Option Value}{base:Heap}
theorem Fun.ok{x qual:Str}{st:Stmt}{f:Addr}{fd:FuncData}{N ps:List Str}{k:Nat}{sp:Sp}(F:Fun K x qual st f fd)(S:aK N ps (aG st))(len:∀vs H Q E,sp vs H Q E->vs.length=ps.length)
  (hbody:∀(cdv:Value)(A:Around)(outer:List Env)(s:Shared)(H:Hp)(vs:List V)(Q:VK)(E:XK),cQ k (A.deeper (envOfC qual (aG st) s.heap.objs.size f cdv))->sp vs H Q E ->
   ∃t,PSs (u6 CX0 P w K mg base N qual (aG st) f cdv A outer s H E).nox (eZ st) t/\t {nx:=fun _ H'=>Q .non H',rt:=Q} (start N vs) H):bK P w K mg base CX0 (k+1) f fd ps sp:=by
 obtain⟨oc,od,kV,doc,pm,an,cdv,ct,osl,rfl,lk,hcd⟩:=F.ex;refine R5 lk hcd S len fun A outer s H vs Q E hr hsp=>?_
 obtain⟨t,h,q⟩:=hbody cdv A outer s H vs Q E hr hsp;exact⟨t,h.nox,q⟩
theorem Fun.binds{x qual:Str}{st:Stmt}{f:Addr}{fd:FuncData}{ps:List Str}(F:Fun K x qual st f fd)
  (h:∀(kV doc pm:Value)(an:Option Addr)(cdv ct:Value)(us:List Value),us.length=ps.length->bindArgs (W.fnOf x qual (gZ st) (eZ st) (aG st) .none kV doc pm an cdv ct) ⟨us,[]⟩=pure (ps.zip us)):Binds K fd ps []:=by
 obtain⟨oc,od,kV,doc,pm,an,cdv,ct,osl,rfl,lk,hcd⟩:=F.ex;exact .all (h kV doc pm an cdv ct)
theorem BA{x qual:Str}{st:Stmt}{f:Addr}{oc:Value}{od an:Option Addr}{osl:Array (Option Value)}{kV doc pm cdv ct:Value}(l:K.lookup f=some ⟨oc,od,.func (W.fnOf x qual (gZ st) (eZ st) (aG st) .none kV doc pm an cdv ct),osl⟩)
  (c:W.codeIn K cdv qual=true) (k:W.keepIn K (.ref f)=true):Fun K x qual st f (W.fnOf x qual (gZ st) (eZ st) (aG st) .none kV doc pm an cdv ct):=⟨⟨oc,od,kV,doc,pm,an,cdv,ct,osl,rfl,l,c⟩,k⟩
end
theorem bF{A:Around}{k:Nat}(hr:cQ k A):A.units+1<cLine:=Nat.lt_of_le_of_lt (Nat.add_le_add_left (by decide:1<=64) _) hr.units
section
variable {X:Cx}
theorem pv(i:Nat){x:Str}{pos:Pos}(hN:X.N[i]? =some x:=by rfl)(hv:Vis X.env.scope x:=by first|exact Or.inl rfl|exact Or.inr (Or.inl rfl)|exact Or.inr (Or.inr rfl))(hd:(x==("__debug__" : Str))=false:=by decide)
  (hcd:(x==("__classdict__" : Str))=false:=by decide):PE X (.Name x pos) (A5 i):=G3 hN hv hd hcd
end
theorem GS{A B:Prop}(h:B):if false=true then A else B:=by rw[if_neg Bool.false_ne_true];exact h
theorem ED{A B:Prop}(h:A):if true=true then A else B:=by rw[if_pos rfl];exact h
theorem cJ{c A B:Prop}[Decidable c](h1:c->A)(h2:¬c->B):if c then A else B:=by
 by_cases h:c
 ·rw[if_pos h];exact h1 h
 ·rw[if_neg h];exact h2 h
def a9(H H':Hp):Prop:=∀b o,H b=some o->H' b=some o
theorem a9.refl(H:Hp):a9 H H:=fun _ _ h=>h
theorem a9.trans{H H1 H2:Hp}(a:a9 H H1)(b:a9 H1 H2):a9 H H2:=fun c o h=>b c o (a c o h)
theorem a9.free{H H':Hp}(e:a9 H H'){l:Addr}(h:H' l=Option.none):H l=Option.none:=by
 cases q:H l with
 |none=>rfl
 |some o=>rw[e l o q]at h;cases h
theorem a9.seq{K:W.Frag}{H H':Hp}{a:Addr}{xs:List V}(e:a9 H H')(h:SqL K H a xs):SqL K H' a xs:=by
 rcases h with(h|⟨o,h⟩)|h
 ·exact .inl (.inl (e _ _ h))
 ·exact .inl (.inr ⟨o,e _ _ h⟩)
 ·exact .inr h
theorem at_of{xs:List V}{z:Int}{j:Nat}{v:V}(e:z=(j:Int))(h:xs[j]? =some v):atI xs z=some v:=by rw[e];exact K0 h
theorem a9.made{H H1:Hp}{x dx C:Addr}(nx:H x=Option.none)(nd:H dx=Option.none)(k:∀b o,(upd (upd H dx (.own x)) x (.ins C dx [])) b=some o->b≠x->H1 b=some o):a9 H H1:=fun b o e=>
 k b o (by rw[aA (aH e nx),aA (aH e nd)];exact e) (aH e nx)
end L2
namespace RM
open Roof
abbrev Pl:=Int×Int
noncomputable def parts(m:Int):List Int->List (List Int)
 |[]=>[[]]
 |v::r=>if v=m then[]::parts m r else
  match parts m r with
  |[]=>[[v]]
  |p::ps=>(v::p)::ps
def kP(v:Int):Option Int:=if v<48\/57<v then none else some (v - 48)
def gX(n v:Int):Option Int:=(kP v).map fun d=>n*10+d
noncomputable def dD(row:List Int):Option Int:=
 if row.length=0\/2<row.length then none
 else if 1<row.length/\row.head?=some 48 then none
 else(row.foldlM gX 0).bind fun n=>if 64<n then none else some n
noncomputable def dF(row:List Int):Option Pl:=((parts 44 row).mapM dD).bind fun ns=>match ns with
 |[a,b]=>some (a,b)
 |_=>none
noncomputable def iO(row:List Int):Option (List Pl):=((parts 32 row).mapM dF).bind fun cs=>if cs.length<4 then none else some cs
noncomputable def eJ(t:List Int):Option (List (List Pl)):=
 if(parts 10 t).getLast?≠some []\/(parts 10 t).dropLast=[]then none else(parts 10 t).dropLast.mapM iO
theorem y9(m:Int):∀t,parts m t≠[]
 |[]=>by simp[parts]
 |v::r=>by
  unfold parts;split
  ·simp
  ·split<;>simp
theorem parts_free{m:Int}:∀{a:List Int},m∉a->parts m a=[a]
 |[],_=>rfl
 |v::r,h=>by
  have h1:¬v=m:=fun e=>h (by simp[e])
  have h2:m∉r:=fun e=>h (by simp[e])
  unfold parts;rw[if_neg h1,parts_free h2]
theorem uV{m:Int}:∀{a b:List Int},m∉a->parts m (a++m::b)=a::parts m b
 |[],b,_=>by
  show parts m (m::b)=_
  rw[parts,if_pos rfl]
 |v::r,b,h=>by
  have h1:¬v=m:=fun e=>h (by simp[e])
  have h2:m∉r:=fun e=>h (by simp[e])
  show parts m (v::(r++m::b))=_
  rw[parts,if_neg h1,uV h2]
noncomputable def glue(m:Int):List (List Int)->List Int
 |[]=>[]
 |[p]=>p
 |p::q::ps=>p++m::glue m (q::ps)
theorem EH{m v:Int}{p:List Int}{ps:List (List Int)}:glue m ((v::p)::ps)=v::glue m (p::ps):=by cases ps<;>simp[glue]
theorem jG(m:Int):∀t,glue m (parts m t)=t
 |[]=>rfl
 |v::r=>by
  have ih:=jG m r;have hn:=y9 m r;unfold parts;split
  ·rename_i e;cases q:parts m r with
   |nil=>exact absurd q hn
   |cons p ps=>
    rw[q]at ih;show glue m ([]::p::ps)=_
    simp only[glue,List.nil_append];rw[ih,e]
  ·cases q:parts m r with
   |nil=>exact absurd q hn
   |cons p ps=>
    rw[q]at ih;show glue m ((v::p)::ps)=_
    rw[EH,ih]
theorem fF{m:Int}:∀{ps:List (List Int)},ps≠[]->(∀p∈ps,m∉p)->parts m (glue m ps)=ps
 |[],h,_=>absurd rfl h
 |[p],_,h=>by
  show parts m p=[p]
  exact parts_free (h p (by simp))
 |p::q::ps,_,h=>by
  show parts m (p++m::glue m (q::ps))=_
  rw[uV (h p (by simp)),fF (by simp) fun x hx=>h x (by simp only[List.mem_cons]at hx ⊢;exact .inr hx)]
noncomputable def pNum(n:Nat):List Int:=if n<10 then[48+(n:Int)]else[48+((n/10:Nat):Int),48+((n%10:Nat):Int)]
def cB(p:Point):List Int:=glue 44 [pNum p.1,pNum p.2]
def fW(w:Walk):List Int:=glue 32 (w.map cB)
def cY(ws:List Walk):List Int:=ws.flatMap fun w=>fW w++[10]
def iP(p:Point):Pl:=((p.1:Int),(p.2:Int))
def iW(w:Walk):List Pl:=w.map iP
def iWs(ws:List Walk):List (List Pl):=ws.map iW
def okP(p:Point):Prop:=p.1<=64/\p.2<=64
def okW(w:Walk):Prop:=4<=w.length/\∀p∈w,okP p
def AL(ws:List Walk):Prop:=ws≠[]/\∀w∈ws,okW w
theorem nE{n:Nat}(h:n<=64){x:Int}(hx:x∈pNum n):48<=x/\x<=57:=by
 unfold pNum at hx;split at hx
 ·simp at hx;omega
 ·simp at hx;omega
theorem kC{p:Point}(h:okP p){x:Int}(hx:x∈cB p):(48<=x/\x<=57)\/x=44:=by
 unfold cB glue glue at hx;simp only[List.mem_append,List.mem_cons]at hx;rcases hx with hx|rfl|hx
 ·exact .inl (nE h.1 hx)
 ·exact .inr rfl
 ·exact .inl (nE h.2 hx)
theorem zA{m:Int}:∀{ps:List (List Int)}{x:Int},x∈glue m ps->x=m\/∃p∈ps,x∈p
 |[],x,h=>by simp[glue]at h
 |[p],x,h=>.inr ⟨p,by simp,h⟩
 |p::q::ps,x,h=>by
  simp only[glue,List.mem_append,List.mem_cons]at h;rcases h with h|rfl|h
  ·exact .inr ⟨p,by simp,h⟩
  ·exact .inl rfl
  ·rcases zA h with h|⟨y,hy,hx⟩
   ·exact .inl h
   ·exact .inr ⟨y,by simp only[List.mem_cons]at hy ⊢;exact .inr hy,hx⟩
theorem nB{w:Walk}(h:∀p∈w,okP p){x:Int}(hx:x∈fW w):(48<=x/\x<=57)\/x=44\/x=32:=by
 rcases zA hx with h1|⟨q,hq,hx⟩
 ·exact .inr (.inr h1)
 ·obtain⟨p,hp,rfl⟩:=List.mem_map.mp hq;rcases kC (h p hp) hx with h1|h1
  ·exact .inl h1
  ·exact .inr (.inl h1)
theorem nH{n:Nat}(h:n<=64):dD (pNum n)=some (n:Int):=by
 have key:∀k:Fin 65,dD (pNum k.val)=some (k.val:Int):=by decide+kernel
 exact key ⟨n,by omega⟩
theorem nG{row:List Int}{z:Int}(h:dD row=some z):∃n:Nat,n<=64/\z=n/\row=pNum n:=by
 unfold dD at h;split at h
 ·cases h
 ·rename_i h1;split at h
  ·cases h
  ·rename_i h2;match row,h1,h2,h with
   |[],h1,_,_=>simp at h1
   |[a],h1,h2,h=>
    simp only[List.foldlM,gX,kP]at h;split at h
    ·simp at h
    ·rename_i ha;simp at h;obtain⟨h3,h4⟩:=h;refine⟨(a - 48).toNat,by omega,by omega,?_⟩;unfold pNum;rw[if_pos (by omega)];congr 1;omega
   |[a,b],h1,h2,h=>
    simp only[List.foldlM,gX,kP]at h;have h48:¬a=48:=by intro e;exact h2 ⟨by simp,by simp[e]⟩
    split at h
    ·simp at h
    ·rename_i ha;split at h
     ·simp at h
     ·rename_i hb;simp at h;obtain⟨h3,h4⟩:=h;refine⟨((a - 48)*10+(b - 48)).toNat,by omega,by omega,?_⟩;unfold pNum;rw[if_neg (by omega)];congr 1
      ·omega
      ·congr 1;omega
   |_::_::_::_,h1,_,_=>simp at h1
inductive lY {α β:Type} (R:α->β->Prop):List α->List β->Prop where
 |nil:lY R [] []
 |cons {a:α}{b:β}{l:List α}{r:List β}:R a b->lY R l r->lY R (a::l) (b::r)
theorem lY.inv2{α β:Type}{R:α->β->Prop}{l:List α}{a b:β}(h:lY R l [a,b]):∃x y,l=[x,y]/\R x a/\R y b:=by
 cases h with
 |cons h1 h=>
  cases h with
  |cons h2 h=>cases h;exact⟨_,_,rfl,h1,h2⟩
theorem mapM_some{α β:Type}{f:α->Option β}:∀{l:List α}{r:List β},l.mapM f=some r->lY (fun a b=>f a=some b) l r
 |[],r,h=>by simp at h;subst h;exact .nil
 |a::l,r,h=>by
  rw[List.mapM_cons]at h;cases e1:f a with
  |none=>rw[e1]at h;simp at h
  |some b=>
   rw[e1]at h;cases e2:l.mapM f with
   |none=>rw[e2]at h;simp at h
   |some bs=>rw[e2]at h;simp at h;subst h;exact .cons e1 (mapM_some e2)
theorem lM{α β:Type}{f:α->Option β}:∀{l:List α}{r:List β},lY (fun a b=>f a=some b) l r->l.mapM f=some r
 |_,_,.nil=>rfl
 |_,_,.cons h t=>by rw[List.mapM_cons,h,lM t];rfl
theorem wZ{row:List Int}{z:Pl}(h:dF row=some z):∃p:Point,okP p/\z=iP p/\row=cB p:=by
 unfold dF at h;cases e:(parts 44 row).mapM dD with
 |none=>rw[e]at h;simp at h
 |some ns=>
  rw[e]at h;simp only[Option.bind_some]at h;have f:=mapM_some e;have g:=jG 44 row;match ns,f,h with
  |[],_,h=>simp at h
  |[_],_,h=>simp at h
  |_::_::_::_,_,h=>simp at h
  |[a,b],f,h=>simp at h;subst h;obtain⟨x,y,ex,f1,f2⟩:=f.inv2;obtain⟨n1,l1,r1,e1⟩:=nG f1;obtain⟨n2,l2,r2,e2⟩:=nG f2;refine⟨(n1,n2),⟨l1,l2⟩,by rw[r1,r2];rfl,?_⟩;rw[<- g,ex,e1,e2];rfl
theorem fY{p:Point}(h:okP p):dF (cB p)=some (iP p):=by
 unfold dF cB;rw[fF (by simp) fun q hq=>?_]
 ·rw[lM (r:=[(p.1:Int),(p.2:Int)]) (.cons (nH h.1) (.cons (nH h.2) .nil))];rfl
 ·simp at hq;rcases hq with rfl|rfl
  ·intro e;have:=nE h.1 e;omega
  ·intro e;have:=nE h.2 e;omega
theorem zW{row:List Int}{z:List Pl}(h:iO row=some z):∃w:Walk,okW w/\z=iW w/\row=fW w:=by
 unfold iO at h;cases e:(parts 32 row).mapM dF with
 |none=>rw[e]at h;simp at h
 |some cs=>
  rw[e]at h;simp only[Option.bind_some]at h;split at h
  ·cases h
  ·rename_i hl;have h:cs=z:=by simpa using h
   subst h;have f:=mapM_some e;have g:=jG 32 row;have key:∀{l:List (List Int)}{r:List Pl},lY (fun a b=>dF a=some b) l r->∃w:Walk,(∀p∈w,okP p)/\r=iW w/\l=w.map cB:=by
    intro l r f;induction f with
    |nil=>exact⟨[],by simp,rfl,rfl⟩
    |cons h1 _ ih=>
     obtain⟨w,a1,a2,a3⟩:=ih;obtain⟨p,b1,b2,b3⟩:=wZ h1;refine⟨p::w,?_,?_,?_⟩
     ·intro q hq;rcases List.mem_cons.mp hq with rfl|hq
      ·exact b1
      ·exact a1 q hq
     ·rw[a2,b2];rfl
     ·rw[a3,b3];rfl
   obtain⟨w,a1,a2,a3⟩:=key f;refine⟨w,⟨?_,a1⟩,a2,?_⟩
   ·rw[a2,iW,List.length_map]at hl;omega
   ·rw[<- g,a3];rfl
theorem zX{w:Walk}(h:okW w):iO (fW w)=some (iW w):=by
 unfold iO fW;have hne:w.map cB≠[]:=by intro e;have h1:=h.1;rw[List.map_eq_nil_iff.mp e]at h1;simp at h1
 rw[fF hne fun q hq=>?_]
 ·have f:lY (fun a b=>dF a=some b) (w.map cB) (iW w):=by
   have h2:=h.2;clear h hne;induction w with
   |nil=>exact .nil
   |cons p w ih=>exact .cons (fY (h2 p (by simp))) (ih fun q hq=>h2 q (by simp[hq]))
  rw[lM f];have:¬(iW w).length<4:=by have:=h.1;rw[iW,List.length_map];omega
  simp[this]
 ·obtain⟨p,hp,rfl⟩:=List.mem_map.mp hq;intro e;rcases kC (h.2 p hp) e with h1|h1
  ·omega
  ·omega
theorem lP{m:Int}:∀{ps:List (List Int)},glue m (ps++[[]])=ps.flatMap fun p=>p++[m]
 |[]=>rfl
 |[p]=>by simp[glue]
 |p::q::ps=>by
  have ih:=lP (m:=m) (ps:=q::ps);show p++m::glue m (q::ps++[[]])=_
  rw[ih];simp
theorem pX{t:List Int}{z:List (List Pl)}(h:eJ t=some z):∃ws:List Walk,AL ws/\z=iWs ws/\t=cY ws:=by
 unfold eJ at h;split at h
 ·cases h
 ·rename_i hc;have hc1:(parts 10 t).getLast?=some []:=by apply Classical.byContradiction;intro e;exact hc (.inl e)
  have hc2:(parts 10 t).dropLast≠[]:=fun e=>hc (.inr e)
  have f:=mapM_some h;have key:∀{l:List (List Int)}{r:List (List Pl)},lY (fun a b=>iO a=some b) l r->∃w:List Walk,(∀p∈w,okW p)/\r=iWs w/\l=w.map fW:=by
   intro l r f;induction f with
   |nil=>exact⟨[],by simp,rfl,rfl⟩
   |cons h1 _ ih=>
    obtain⟨w,a1,a2,a3⟩:=ih;obtain⟨p,b1,b2,b3⟩:=zW h1;refine⟨p::w,?_,?_,?_⟩
    ·intro q hq;rcases List.mem_cons.mp hq with rfl|hq
     ·exact b1
     ·exact a1 q hq
    ·rw[a2,b2];rfl
    ·rw[a3,b3];rfl
  obtain⟨ws,a1,a2,a3⟩:=key f;refine⟨ws,⟨?_,a1⟩,a2,?_⟩
  ·intro e;rw[e]at a3;exact hc2 a3
  ·have e:parts 10 t=(parts 10 t).dropLast++[[]]:=by obtain⟨ys,hys⟩:=List.getLast?_eq_some_iff.mp hc1;rw[hys];simp
   rw[<- jG 10 t,e,a3,lP,cY,List.flatMap_map]
theorem tO{ws:List Walk}(h:AL ws):eJ (cY ws)=some (iWs ws):=by
 have e:parts 10 (cY ws)=ws.map fW++[[]]:=by
  have:cY ws=glue 10 (ws.map fW++[[]]):=by rw[lP,cY,List.flatMap_map]
  rw[this];refine fF (by simp) fun q hq=>?_
  rcases List.mem_append.mp hq with hq|hq
  ·obtain⟨w,hw,rfl⟩:=List.mem_map.mp hq;intro e;rcases nB (h.2 w hw).2 e with h1|h1|h1
   ·omega
   ·omega
   ·omega
  ·simp at hq;subst hq;simp
 unfold eJ;rw[e];have h1:¬((ws.map fW++[[]]).getLast?≠some []\/(ws.map fW++[[]]).dropLast=[]):=by simp;exact h.1
 rw[if_neg h1];have e2:(ws.map fW++[[]]).dropLast=ws.map fW:=by simp
 rw[e2];refine lM ?_;have h2:=h.2;clear h e h1 e2;induction ws with
 |nil=>exact .nil
 |cons w ws ih=>exact .cons (zX (h2 w (by simp))) (ih fun q hq=>h2 q (by simp[hq]))
end RM
namespace RM
open Roof
noncomputable def F5(n:Nat):Bytes:=if n<10 then[UInt8.ofNat (48+n)]else[UInt8.ofNat (48+n/10),UInt8.ofNat (48+n%10)]
theorem iU{n:Nat}(h:n<=64):number n=F5 n:=by
 have key:∀k:Fin 65,number k.val=F5 k.val:=by decide+kernel
 exact key ⟨n,by omega⟩
theorem qH{v d:Nat}(h1:v≠0)(h2:10*v+d<=64)(h3:d<=9):number (10*v+d)=number v++[UInt8.ofNat (48+d)]:=by
 rw[iU h2,iU (by omega)];unfold F5;rw[if_neg (by omega),if_pos (by omega)];have e1:(10*v+d)/10=v:=by omega
 have e2:(10*v+d)%10=d:=by omega
 rw[e1,e2];rfl
theorem sM{d:Nat}(h:d<=9):number d=[UInt8.ofNat (48+d)]:=by rw[iU (by omega),F5,if_pos (by omega)]
theorem BK{c:UInt8}{d:Nat}(h:digit c=some d):d<=9/\c=UInt8.ofNat (48+d):=by
 unfold digit at h;split at h
 ·rename_i hc;have h:c.toNat - 48=d:=by simpa using h
  refine⟨by omega,?_⟩;have e:48+d=c.toNat:=by omega
  rw[e];simp
 ·cases h
theorem kO{d:Nat}(h:d<=9):digit (UInt8.ofNat (48+d))=some d:=by
 have key:∀k:Fin 10,digit (UInt8.ofNat (48+k.val))=some k.val:=by decide+kernel
 exact key ⟨d,by omega⟩
def gE(w:Walk):Bytes:=w.flatMap fun p=>cornerText p++[32]
noncomputable def eB(r:Reading):Bytes:=if r.part=0 then[]else if r.part=1 then number r.val else if r.part=2 then number r.east++[44]else number r.east++(44::number r.val)
noncomputable def eG(r:Reading):Bytes:=walksText r.done.reverse++(gE r.now.reverse++eB r)
structure OkR(r:Reading):Prop where
 done:∀w∈r.done,okW w
 now:∀p∈r.now,okP p
 val:r.val<=64
 east:r.east<=64
 part:r.part<=3
theorem pY:∀{w:Walk}{p:Point},walkText (w++[p])=gE w++(cornerText p++[10])
 |[],p=>by simp[walkText,gE]
 |[q],p=>by simp[walkText,gE]
 |q::q2::w,p=>by
  have ih:=pY (w:=q2::w) (p:=p);show cornerText q++(32::walkText (q2::w++[p]))=_
  rw[ih];simp[gE]
theorem GI{r s:Reading}{c:UInt8}(h:r.more c=some s)(o:OkR r):OkR s/\eG s=eG r++[c]:=by
 obtain⟨o1,o2,o3,o4,o5⟩:=o;unfold Reading.more at h;cases e:digit c with
 |some d=>
  rw[e]at h;obtain⟨hd,hc⟩:=BK e;dsimp only at h;by_cases hp:r.part=0\/r.part=2
  ·rw[if_pos hp]at h;have h:=Option.some.inj h;subst h;refine⟨⟨o1,o2,by dsimp only;omega,o4,by dsimp only;omega⟩,?_⟩;rcases hp with hp|hp
   ·simp[eG,eB,hp,sM hd,hc]
   ·simp[eG,eB,hp,sM hd,hc]
  ·rw[if_neg hp]at h;by_cases hv:r.val=0\/SIDE<10*r.val+d
   ·rw[if_pos hv]at h;cases h
   ·rw[if_neg hv]at h;have h:=Option.some.inj h;subst h;have hv1:r.val≠0:=fun q=>hv (.inl q)
    have hv2:10*r.val+d<=64:=by
     have:¬SIDE<10*r.val+d:=fun q=>hv (.inr q)
     unfold SIDE at this;omega
    refine⟨⟨o1,o2,by dsimp only;omega,o4,o5⟩,?_⟩;have hp2:r.part=1\/r.part=3:=by omega
    rcases hp2 with hp2|hp2
    ·simp[eG,eB,hp2,qH hv1 hv2 hd,hc]
    ·simp[eG,eB,hp2,qH hv1 hv2 hd,hc]
 |none=>
  rw[e]at h;dsimp only at h;by_cases h1:r.part=1/\c=44
  ·rw[if_pos h1]at h;have h:=Option.some.inj h;subst h;refine⟨⟨o1,o2,o3,o3,by dsimp only;omega⟩,?_⟩;simp[eG,eB,h1.1,h1.2]
  ·rw[if_neg h1]at h;by_cases h2:r.part=3/\c=32
   ·rw[if_pos h2]at h;have h:=Option.some.inj h;subst h;refine⟨⟨o1,?_,o3,o4,by dsimp only;omega⟩,?_⟩
    ·intro p hp;rcases List.mem_cons.mp hp with rfl|hp
     ·exact⟨o4,o3⟩
     ·exact o2 p hp
    ·simp[eG,eB,h2.1,h2.2,gE,cornerText]
   ·rw[if_neg h2]at h;by_cases h3:r.part=3/\c=10/\3<=r.now.length
    ·rw[if_pos h3]at h;have h:=Option.some.inj h;subst h;refine⟨⟨?_,by simp,o3,o4,by dsimp only;omega⟩,?_⟩
     ·intro w hw;rcases List.mem_cons.mp hw with rfl|hw
      ·refine⟨by simp;omega,?_⟩;intro p hp;rcases List.mem_cons.mp (List.mem_reverse.mp hp)with rfl|hp
       ·exact⟨o4,o3⟩
       ·exact o2 p hp
      ·exact o1 w hw
     ·simp only[eG,eB,h3.1,h3.2.1,walksText,List.reverse_cons,List.flatMap_append,List.flatMap_cons,List.flatMap_nil,List.append_nil,pY];simp[gE,cornerText]
    ·rw[if_neg h3]at h;cases h
theorem qD:∀{b:Bytes}{p:Nat}{r:Reading}{ws:List Walk},OkR r->readFrom p r b=.ok ws->AL ws/\eG r++b=walksText ws
 |[],p,r,ws,o,h=>by
  unfold readFrom at h;split at h
  ·rename_i hc;obtain⟨h1,h2,h3⟩:=hc;have h:r.done.reverse=ws:=by simpa using h
   subst h;refine⟨⟨by simpa using h3,fun w hw=>o.done w (by simpa using hw)⟩,?_⟩;simp[eG,eB,h1,h2,gE]
  ·cases h
 |c::t,p,r,ws,o,h=>by
  unfold readFrom at h;cases e:r.more c with
  |none=>rw[e]at h;cases h
  |some s=>rw[e]at h;obtain⟨os,es⟩:=GI e o;have h:readFrom (p+1) s t=.ok ws:=h;obtain⟨h1,h2⟩:=qD os h;refine⟨h1,?_⟩;rw[<- h2,es];simp
theorem mY{b:Bytes}{ws:List Walk}(h:readWalks b=.ok ws):AL ws/\b=walksText ws:=by have o:OkR ⟨[],[],0,0,0⟩:=⟨by simp,by simp,by simp,by simp,by simp⟩;obtain⟨h1,h2⟩:=qD o h;refine⟨h1,?_⟩;rw[<- h2];simp[eG,eB,gE,walksText]
theorem gJ{r s:Reading}{c:UInt8}{t:Bytes}{p:Nat}(h:r.more c=some s):readFrom p r (c::t)=readFrom (p+1) s t:=by
 show(match r.more c with|some s=>readFrom (p+1) s t|none=>.error p)=_
 rw[h]
theorem qB{n:Nat}(hn:n<=64){r:Reading}(hp:r.part=0\/r.part=2)(p:Nat)(t:Bytes):∃p',readFrom p r (number n++t)=readFrom p' {r with part:=r.part+1,val:=n} t:=by
 rw[iU hn];unfold F5;by_cases h:n<10
 ·rw[if_pos h];refine⟨p+1,gJ ?_⟩;unfold Reading.more;rw[kO (by omega)];dsimp only;rw[if_pos hp]
 ·rw[if_neg h];refine⟨p+1+1,?_⟩;refine(gJ (s:={r with part:=r.part+1,val:=n/10}) ?_).trans (gJ ?_)
  ·unfold Reading.more;rw[kO (by omega)];dsimp only;rw[if_pos hp]
  ·unfold Reading.more;rw[kO (by omega)];dsimp only;rw[if_neg (by omega),if_neg]
   ·have:10*(n/10)+n%10=n:=by omega
    rw[this]
   ·unfold SIDE;omega
theorem qC{q:Point}(hq:okP q){r:Reading}(hp:r.part=0)(p:Nat)(t:Bytes):∃p',readFrom p r (cornerText q++t)=readFrom p' {r with part:=3,val:=q.2,east:=q.1} t:=by
 unfold cornerText;rw[List.append_assoc];obtain⟨p1,e1⟩:=qB hq.1 (r:=r) (.inl hp) p (44::number q.2++t);rw[e1];have e2:readFrom p1 {r with part:=r.part+1,val:=q.1} (44::number q.2++t)=readFrom (p1+1) {r with part:=2,val:=q.1,east:=q.1} (number q.2++t):=by refine gJ ?_;unfold Reading.more;rw[show digit 44=none from by decide];dsimp only;rw[hp];simp
 rw[e2];obtain⟨p3,e3⟩:=qB hq.2 (r:={r with part:=2,val:=q.1,east:=q.1}) (.inr rfl) (p1+1) t;exact⟨p3,e3⟩
theorem uM:∀{w:Walk}{r:Reading}(p:Nat)(t:Bytes),(∀q∈w,okP q)->w≠[]->r.part=0->4<=r.now.length+w.length ->
  ∃p' v e,readFrom p r (walkText w++t)=readFrom p' ⟨(r.now.reverse++w)::r.done,[],0,v,e⟩ t
 |[],r,p,t,_,h,_,_=>absurd rfl h
 |[q],r,p,t,hq,_,hp,hl=>by
  have e0:walkText [q]++t=cornerText q++(10::t):=by simp[walkText]
  rw[e0];obtain⟨p1,e1⟩:=qC (hq q (by simp)) hp p (10::t);rw[e1];refine⟨p1+1,q.2,q.1,?_⟩;rw[gJ (s:=⟨(q::r.now).reverse::r.done,[],0,q.2,q.1⟩)]
  ·simp
  ·unfold Reading.more;rw[show digit 10=none from by decide];dsimp only;rw[if_neg (by simp),if_neg (by simp),if_pos ⟨rfl,rfl,by simp at hl;omega⟩]
 |q::q2::w,r,p,t,hq,_,hp,hl=>by
  have e0:walkText (q::q2::w)++t=cornerText q++(32::(walkText (q2::w)++t)):=by simp[walkText]
  rw[e0];obtain⟨p1,e1⟩:=qC (hq q (by simp)) hp p (32::(walkText (q2::w)++t));rw[e1];have e2:readFrom p1 {r with part:=3,val:=q.2,east:=q.1} (32::(walkText (q2::w)++t))=readFrom (p1+1) ⟨r.done,q::r.now,0,q.2,q.1⟩ (walkText (q2::w)++t):=by refine gJ ?_;unfold Reading.more;rw[show digit 32=none from by decide];dsimp only;rw[if_neg (by simp),if_pos ⟨rfl,rfl⟩]
  rw[e2];obtain⟨p3,v,e,e3⟩:=uM (w:=q2::w) (r:=⟨r.done,q::r.now,0,q.2,q.1⟩) (p1+1) t (fun x hx=>hq x (List.mem_cons_of_mem _ hx)) (by simp) rfl (by simp at hl ⊢;omega);refine⟨p3,v,e,?_⟩;rw[e3];simp
theorem sD:∀{ws:List Walk}{r:Reading}(p:Nat),(∀w∈ws,okW w)->r.part=0->r.now=[]->r.done.reverse++ws≠[]->readFrom p r (walksText ws)=.ok (r.done.reverse++ws)
 |[],r,p,_,hp,hn,hne=>by
  show readFrom p r []=_
  unfold readFrom;rw[if_pos ⟨hp,hn,by simpa using hne⟩];simp
 |w::ws,r,p,hw,hp,hn,_=>by
  have e0:walksText (w::ws)=walkText w++walksText ws:=by simp[walksText]
  rw[e0];have h1:=hw w (by simp);obtain⟨p1,v,e,e1⟩:=uM (w:=w) (r:=r) p (walksText ws) h1.2 (by intro q;have:=h1.1;rw[q]at this;simp at this) hp (by have:=h1.1;omega);rw[e1,sD p1 (fun x hx=>hw x (List.mem_cons_of_mem _ hx)) rfl rfl (by simp)];simp[hn]
theorem sE{ws:List Walk}(h:AL ws):readWalks (walksText ws)=.ok ws:=by unfold readWalks;rw[sD (r:=⟨[],[],0,0,0⟩) 0 h.2 rfl rfl (by simpa using h.1)];simp
def inB(t:List Int):Prop:=∀x∈t,0<=x/\x<=255
theorem fQ(a b:List Int):RoofBNeutral.text (a++b)=RoofBNeutral.text a++RoofBNeutral.text b:=by simp[RoofBNeutral.text,RoofBNeutral.nats]
theorem dQ(a:Int)(b:List Int):RoofBNeutral.text (a::b)=UInt8.ofNat a.toNat::RoofBNeutral.text b:=by simp[RoofBNeutral.text,RoofBNeutral.nats]
theorem rL:∀{a b:List Int},inB a->inB b->RoofBNeutral.text a=RoofBNeutral.text b->a=b
 |[],[],_,_,_=>rfl
 |[],y::b,_,_,h=>by rw[dQ]at h;simp[RoofBNeutral.text,RoofBNeutral.nats]at h
 |x::a,[],_,_,h=>by rw[dQ]at h;simp[RoofBNeutral.text,RoofBNeutral.nats]at h
 |x::a,y::b,ha,hb,h=>by
  rw[dQ,dQ]at h;injection h with h1 h2
  have hx:=ha x (by simp);have hy:=hb y (by simp);have e:x.toNat=y.toNat:=by have:=congrArg UInt8.toNat h1;rw[UInt8.toNat_ofNat_of_lt' (by show x.toNat<256;omega),UInt8.toNat_ofNat_of_lt' (by show y.toNat<256;omega)]at this;exact this
  have e2:x=y:=by omega
  rw[e2,rL (fun z hz=>ha z (by simp[hz])) (fun z hz=>hb z (by simp[hz])) h2]
theorem uI{n:Nat}(h:n<=64):RoofBNeutral.text (pNum n)=number n:=by
 rw[iU h];unfold pNum F5;split
 ·rw[dQ];have:(48+(n:Int)).toNat=48+n:=by omega
  rw[this];rfl
 ·rw[dQ,dQ];have e1:(48+((n/10:Nat):Int)).toNat=48+n/10:=by omega
  have e2:(48+((n%10:Nat):Int)).toNat=48+n%10:=by omega
  rw[e1,e2];rfl
theorem mV{p:Point}(h:okP p):RoofBNeutral.text (cB p)=cornerText p:=by unfold cB glue glue cornerText;rw[fQ,dQ,uI h.1,uI h.2];rfl
theorem oO:∀{w:Walk},(∀p∈w,okP p)->RoofBNeutral.text (fW w++[10])=walkText w
 |[],_=>rfl
 |[p],h=>by
  show RoofBNeutral.text (cB p++[10])=_
  rw[fQ,mV (h p (by simp))];rfl
 |p::q::w,h=>by
  have ih:=oO (w:=q::w) fun x hx=>h x (List.mem_cons_of_mem _ hx)
  show RoofBNeutral.text ((cB p++32::fW (q::w))++[10])=cornerText p++(32::walkText (q::w))
  rw[List.append_assoc,fQ,mV (h p (by simp)),List.cons_append,dQ,ih];rfl
theorem k6:∀{ws:List Walk},(∀w∈ws,okW w)->RoofBNeutral.text (cY ws)=walksText ws
 |[],_=>rfl
 |w::ws,h=>by
  have e:cY (w::ws)=(fW w++[10])++cY ws:=by simp[cY]
  rw[e,fQ,oO (h w (by simp)).2,k6 fun x hx=>h x (List.mem_cons_of_mem _ hx)];simp[walksText]
theorem AI{ws:List Walk}(h:∀w∈ws,okW w):inB (cY ws):=by
 intro x hx;obtain⟨w,hw,hx⟩:=List.mem_flatMap.mp hx;rcases List.mem_append.mp hx with hx|hx
 ·rcases nB (h w hw).2 hx with h1|h1|h1<;>omega
 ·simp at hx;omega
theorem reads{t:List Int}(ht:inB t){ws:List Walk}(h:readWalks (RoofBNeutral.text t)=.ok ws):eJ t=some (iWs ws)/\AL ws:=by obtain⟨o,e⟩:=mY h;rw[<- k6 o.2]at e;have:=rL ht (AI o.2) e;rw[this];exact⟨tO o,o⟩
theorem DN{t:List Int}{p:Nat}(h:readWalks (RoofBNeutral.text t)=.error p):eJ t=none:=by
 cases e:eJ t with
 |none=>rfl
 |some z=>obtain⟨ws,o,_,e2⟩:=pX e;rw[e2,k6 o.2,sE o]at h;cases h
end RM
namespace RM
open Roof
noncomputable def inI(l:Cells)(x y:Int):Bool:=decide (0<=x)&& (decide (0<=y)&& l.contains (x.toNat,y.toNat))
theorem cE(l:Cells)(x y:Nat):inI l x y=l.contains (x,y):=by simp[inI]
theorem yY(l:Cells){x y:Int}(h:x<0):inI l x y=false:=by
 have:decide (0<=x)=false:=by simp;omega
 simp[inI,this]
theorem yX(l:Cells){x y:Int}(h:y<0):inI l x y=false:=by
 have:decide (0<=y)=false:=by simp;omega
 simp[inI,this]
theorem bR{l:Cells}{x y:Int}(h:inI l x y=true):0<=x/\0<=y/\(x.toNat,y.toNat)∈l:=by simp[inI]at h;exact h
def ne(l:Cells)(X Y:Int):Bool:=inI l X Y
def nw(l:Cells)(X Y:Int):Bool:=inI l (X - 1) Y
def sw(l:Cells)(X Y:Int):Bool:=inI l (X - 1) (Y - 1)
def se(l:Cells)(X Y:Int):Bool:=inI l X (Y - 1)
theorem GU{l:Cells}{a b:Nat}:isIn l (if 0<a then some (a - 1,b)else none)=inI l ((a:Int) - 1) b:=by
 by_cases h:0<a
 ·have e:(a:Int) - 1=((a - 1:Nat):Int):=by omega
  rw[if_pos h,e,cE];rfl
 ·rw[if_neg h,yY l (by omega)];rfl
theorem GV{l:Cells}{a b:Nat}:isIn l (if 0<b then some (a,b - 1)else none)=inI l a ((b:Int) - 1):=by
 by_cases h:0<b
 ·have e:(b:Int) - 1=((b - 1:Nat):Int):=by omega
  rw[if_pos h,e,cE];rfl
 ·rw[if_neg h,yX l (by omega)];rfl
theorem CH{l:Cells}{a b:Nat}:isIn l (if 0<a/\0<b then some (a - 1,b - 1)else none)=inI l ((a:Int) - 1) ((b:Int) - 1):=by
 by_cases h:0<a/\0<b
 ·have e1:(a:Int) - 1=((a - 1:Nat):Int):=by omega
  have e2:(b:Int) - 1=((b - 1:Nat):Int):=by omega
  rw[if_pos h,e1,e2,cE];rfl
 ·rw[if_neg h];by_cases ha:0<a
  ·rw[yX l (by omega)];rfl
  ·rw[yY l (by omega)];rfl
noncomputable def aY(l:Cells)(X Y:Int)(d:Nat):Bool:=
 if d=0 then ne l X Y&& !se l X Y else if d=1 then nw l X Y&& !ne l X Y else if d=2 then sw l X Y&& !nw l X Y else se l X Y&& !sw l X Y
theorem eS(l:Cells)(p:Point)(d:Nat):wallFoot l p d=aY l p.1 p.2 d:=by
 unfold wallFoot leftOf rightOf aY;by_cases h0:d=0
 ·subst h0;simp only[if_pos];rw[GV];show(isIn l (some p)&& _)=_
  have:isIn l (some p)=ne l p.1 p.2:=by rw[ne,cE];rfl
  rw[this];rfl
 ·by_cases h1:d=1
  ·subst h1;simp only[if_pos,if_neg h0];rw[GU];have:isIn l (some p)=ne l p.1 p.2:=by rw[ne,cE];rfl
   rw[this];rfl
  ·by_cases h2:d=2
   ·subst h2;simp only[if_pos,if_neg h0,if_neg h1];rw[GU,CH];rfl
   ·simp only[if_neg h0,if_neg h1,if_neg h2];rw[GV,CH];rfl
theorem gI{l:Cells}(h:pinched l=false)(X Y:Int):¬(sw l X Y=true/\ne l X Y=true/\se l X Y=false/\nw l X Y=false)/\¬(nw l X Y=true/\se l X Y=true/\ne l X Y=false/\sw l X Y=false):=by
 have key:∀c∈l,¬((l.contains (c.1+1,c.2+1)&& !(l.contains (c.1+1,c.2)||l.contains (c.1,c.2+1)))||(decide (0<c.1)&& (l.contains (c.1 - 1,c.2+1)&& !(l.contains (c.1 - 1,c.2)||l.contains (c.1,c.2+1)))))=true:=by intro c hc q;have:pinched l=true:=List.any_eq_true.mpr ⟨c,hc,q⟩;rw[h]at this;cases this
 refine⟨fun⟨h1,h2,h3,h4⟩=>?_,fun⟨h1,h2,h3,h4⟩=>?_⟩
 ·obtain⟨x0,y0,m⟩:=bR h1;have e1:X=((X - 1).toNat+1:Nat):=by omega
  have e2:Y=((Y - 1).toNat+1:Nat):=by omega
  refine key _ m ?_;have a1:l.contains ((X - 1).toNat+1,(Y - 1).toNat+1)=true:=by rw[<- cE,<- e1,<- e2];exact h2
  have a2:l.contains ((X - 1).toNat+1,(Y - 1).toNat)=false:=by rw[<- cE,<- e1,show(((Y - 1).toNat:Nat):Int)=Y - 1 by omega];exact h3
  have a3:l.contains ((X - 1).toNat,(Y - 1).toNat+1)=false:=by rw[<- cE,<- e2,show(((X - 1).toNat:Nat):Int)=X - 1 by omega];exact h4
  simp only[a1,a2,a3];rfl
 ·obtain⟨x0,y0,m⟩:=bR h2;obtain⟨x1,y1,_⟩:=bR h1;have e1:X=(X.toNat:Int):=by omega
  have e2:Y=((Y - 1).toNat+1:Nat):=by omega
  refine key _ m ?_;have a1:l.contains (X.toNat - 1,(Y - 1).toNat+1)=true:=by rw[<- cE,<- e2,show((X.toNat - 1:Nat):Int)=X - 1 by omega];exact h1
  have a2:l.contains (X.toNat - 1,(Y - 1).toNat)=false:=by rw[<- cE,show((X.toNat - 1:Nat):Int)=X - 1 by omega,show(((Y - 1).toNat:Nat):Int)=Y - 1 by omega];exact h4
  have a3:l.contains (X.toNat,(Y - 1).toNat+1)=false:=by rw[<- cE,<- e2,<- e1];exact h3
  have a4:decide (0<X.toNat)=true:=by simp;omega
  simp only[a1,a2,a3,a4];simp
noncomputable def stI(X Y:Int)(d:Nat):Int×Int:=if d=0 then(X+1,Y)else if d=1 then(X,Y+1)else if d=2 then(X - 1,Y)else(X,Y - 1)
theorem D7{l:Cells}(h:pinched l=false){X Y:Int}{d e:Nat}(hd:d<4)(he:e<4)(h1:aY l X Y d=true)(h2:aY l X Y e=true):d=e:=by
 obtain⟨u1,u2⟩:=gI h X Y;have cd:d=0\/d=1\/d=2\/d=3:=by omega
 have ce:e=0\/e=1\/e=2\/e=3:=by omega
 generalize a1:ne l X Y=A at*;generalize a2:nw l X Y=B at*;generalize a3:sw l X Y=C at*;generalize a4:se l X Y=D at*;rcases cd with rfl|rfl|rfl|rfl<;>rcases ce with rfl|rfl|rfl|rfl<;>simp[aY,a1,a2,a3,a4]at h1 h2 u1 u2 ⊢ <;>simp_all
theorem FC{l:Cells}{X Y:Int}{d:Nat}(hd:d<4)(h1:aY l X Y d=true):∃e,e<4/\aY l (stI X Y d).1 (stI X Y d).2 e=true:=by
 have cd:d=0\/d=1\/d=2\/d=3:=by omega
 rcases cd with rfl|rfl|rfl|rfl
 ·simp[aY]at h1;have b1:nw l (X+1) Y=true:=by rw[nw,show X+1 - 1=X by omega];exact h1.1
  have b2:sw l (X+1) Y=false:=by rw[sw,show X+1 - 1=X by omega];exact h1.2
  show∃e,e<4/\aY l (X+1) Y e=true
  cases c1:se l (X+1) Y with
  |true=>exact⟨3,by omega,by simp[aY,c1,b2]⟩
  |false=>
   cases c2:ne l (X+1) Y with
   |true=>exact⟨0,by omega,by simp[aY,c1,c2]⟩
   |false=>exact⟨1,by omega,by simp[aY,c2,b1]⟩
 ·simp[aY]at h1;have b1:sw l X (Y+1)=true:=by rw[sw,show Y+1 - 1=Y by omega];exact h1.1
  have b2:se l X (Y+1)=false:=by rw[se,show Y+1 - 1=Y by omega];exact h1.2
  show∃e,e<4/\aY l X (Y+1) e=true
  cases c1:ne l X (Y+1)with
  |true=>exact⟨0,by omega,by simp[aY,c1,b2]⟩
  |false=>
   cases c2:nw l X (Y+1)with
   |true=>exact⟨1,by omega,by simp[aY,c1,c2]⟩
   |false=>exact⟨2,by omega,by simp[aY,c2,b1]⟩
 ·simp[aY]at h1;have b1:se l (X - 1) Y=true:=h1.1;have b2:ne l (X - 1) Y=false:=h1.2;show∃e,e<4/\aY l (X - 1) Y e=true
  cases c1:nw l (X - 1) Y with
  |true=>exact⟨1,by omega,by simp[aY,c1,b2]⟩
  |false=>
   cases c2:sw l (X - 1) Y with
   |true=>exact⟨2,by omega,by simp[aY,c1,c2]⟩
   |false=>exact⟨3,by omega,by simp[aY,c2,b1]⟩
 ·simp[aY]at h1;have b1:ne l X (Y - 1)=true:=h1.1;have b2:nw l X (Y - 1)=false:=h1.2;show∃e,e<4/\aY l X (Y - 1) e=true
  cases c1:sw l X (Y - 1)with
  |true=>exact⟨2,by omega,by simp[aY,c1,b2]⟩
  |false=>
   cases c2:se l X (Y - 1)with
   |true=>exact⟨3,by omega,by simp[aY,c1,c2]⟩
   |false=>exact⟨0,by omega,by simp[aY,c2,b1]⟩
noncomputable def uF(l:Cells)(X Y:Int)(d:Nat):Bool:=
 if d=0 then nw l X Y&& !sw l X Y else if d=1 then sw l X Y&& !se l X Y else if d=2 then se l X Y&& !ne l X Y else ne l X Y&& !nw l X Y
theorem xE{l:Cells}{X Y:Int}{d:Nat}(hd:d<4):uF l (stI X Y d).1 (stI X Y d).2 d=aY l X Y d:=by
 have cd:d=0\/d=1\/d=2\/d=3:=by omega
 rcases cd with rfl|rfl|rfl|rfl
 ·simp only[uF,aY,stI,if_pos,nw,sw,ne,se,show X+1 - 1=X by omega]
 ·simp[uF,aY,stI,nw,sw,ne,se,show Y+1 - 1=Y by omega]
 ·simp[uF,aY,stI,nw,sw,ne,se]
 ·simp[uF,aY,stI,nw,sw,ne,se]
theorem FE{l:Cells}(h:pinched l=false){X Y X' Y':Int}{d e:Nat}(hd:d<4)(he:e<4)(h1:aY l X Y d=true)(h2:aY l X' Y' e=true)(hq:stI X Y d=stI X' Y' e):d=e/\X=X'/\Y=Y':=by
 rw[<- xE hd]at h1;rw[<- xE he,<- hq]at h2;have hde:d=e:=by
  generalize (stI X Y d).1=U at*;generalize (stI X Y d).2=V at*;obtain⟨u1,u2⟩:=gI h U V;have cd:d=0\/d=1\/d=2\/d=3:=by omega
  have ce:e=0\/e=1\/e=2\/e=3:=by omega
  generalize a1:ne l U V=A at*;generalize a2:nw l U V=B at*;generalize a3:sw l U V=C at*;generalize a4:se l U V=D at*;rcases cd with rfl|rfl|rfl|rfl<;>rcases ce with rfl|rfl|rfl|rfl<;>simp[uF,a1,a2,a3,a4]at h1 h2 u1 u2 ⊢ <;>simp_all
 subst hde;refine⟨rfl,?_⟩;have cd:d=0\/d=1\/d=2\/d=3:=by omega
 rcases cd with rfl|rfl|rfl|rfl<;>simp[stI]at hq<;>omega
theorem mS{l:Cells}{X Y:Int}{d:Nat}(hd:d<4)(h:aY l X Y d=true):(d=2->1<=X)/\(d=3->1<=Y):=by
 refine⟨fun e=>?_,fun e=>?_⟩
 ·subst e;simp[aY,sw]at h;have:=bR h.1;omega
 ·subst e;simp[aY,se]at h;have:=bR h.1;omega
theorem oQ{l:Cells}{p:Point}{d:Nat}(hd:d<4)(h:wallFoot l p d=true):(((stepped p d).1:Int),((stepped p d).2:Int))=stI p.1 p.2 d:=by
 rw[eS]at h;obtain⟨g1,g2⟩:=mS hd h;have cd:d=0\/d=1\/d=2\/d=3:=by omega
 rcases cd with rfl|rfl|rfl|rfl
 ·simp[stepped,stI]
 ·simp[stepped,stI]
 ·have:=g1 rfl;simp[stepped,stI];omega
 ·have:=g2 rfl;simp[stepped,stI];omega
theorem bD{l:Cells}{p:Point}{d:Nat}(h:outOf l p=some d):d<4/\wallFoot l p d=true:=by unfold outOf at h;have h1:=List.find?_some h;have h2:=List.mem_of_find?_eq_some h;simp at h2;exact⟨by omega,h1⟩
theorem yD{l:Cells}(hp:pinched l=false){p:Point}{d:Nat}(hd:d<4)(h:wallFoot l p d=true):outOf l p=some d:=by
 cases e:outOf l p with
 |none=>unfold outOf at e;rw[List.find?_eq_none]at e;exact absurd h (e d (by simp;omega))
 |some x=>obtain⟨hx,h2⟩:=bD e;rw[eS]at h h2;rw[D7 hp hd hx h h2]
theorem GC{l:Cells}(hp:pinched l=false){p:Point}{d:Nat}(h:outOf l p=some d):∃e,outOf l (stepped p d)=some e:=by obtain⟨hd,h1⟩:=bD h;have e1:=oQ hd h1;rw[eS]at h1;obtain⟨e,he,h2⟩:=FC hd h1;rw[<- e1]at h2;exact⟨e,yD hp he (by rw[eS];exact h2)⟩
theorem yE{l:Cells}(hp:pinched l=false){p q:Point}{d e:Nat}(h1:outOf l p=some d)(h2:outOf l q=some e)(hq:stepped p d=stepped q e):p=q:=by obtain⟨hd,w1⟩:=bD h1;obtain⟨he,w2⟩:=bD h2;have e1:=oQ hd w1;have e2:=oQ he w2;rw[eS]at w1 w2;obtain⟨_,a,b⟩:=FE hp hd he w1 w2 (by rw[<- e1,<- e2,hq]);exact Prod.ext (by omega) (by omega)
end RM
namespace RM
open Roof
theorem bU{α:Type}[DecidableEq α]:∀{a b:List α},a.Nodup->(∀x∈a,x∈b)->a.length<=b.length
 |[],_,_,_=>by simp
 |x::a,b,h,hs=>by
  have hx:x∈b:=hs x (by simp);obtain⟨h1,h2⟩:=List.nodup_cons.mp h;have:=bU (a:=a) (b:=b.erase x) h2 fun y hy=>by
   have:y≠x:=fun e=>h1 (e▸hy)
   exact(List.mem_erase_of_ne this).mpr (hs y (by simp[hy]))
  rw[List.length_erase_of_mem hx]at this;have:0<b.length:=List.length_pos_of_mem hx;simp;omega
theorem d8{α β:Type}{f:α->β}:∀{l:List α},l.Nodup->(∀x∈l,∀y∈l,f x=f y->x=y)->(l.map f).Nodup
 |[],_,_=>by simp
 |x::l,h,hf=>by obtain⟨h1,h2⟩:=List.nodup_cons.mp h;rw[List.map_cons];refine List.nodup_cons.mpr ⟨fun hm=>?_,d8 h2 fun a ha b hb=>hf a (by simp[ha]) b (by simp[hb])⟩;obtain⟨y,hy,e⟩:=List.mem_map.mp hm;exact h1 (hf y (by simp[hy]) x (by simp) e▸hy)
inductive Way (l:Cells):Point->List Foot->Point->Prop where
 |nil (p:Point):Way l p [] p
 |cons {p q:Point}{d:Nat}{r:List Foot}:outOf l p=some d->Way l (stepped p d) r q->Way l p ((p,d)::r) q
theorem Way.append{l:Cells}{p q:Point}{a:List Foot}(h:Way l p a q):∀{b:List Foot}{r:Point},Way l q b r->Way l p (a++b) r:=by
 induction h with
 |nil p=>exact fun h=>h
 |cons h1 _ ih=>exact fun h=>.cons h1 (ih h)
theorem Way.out{l:Cells}{p q:Point}{a:List Foot}(h:Way l p a q):∀x∈a,outOf l x.1=some x.2:=by
 induction h with
 |nil p=>simp
 |cons h1 _ ih=>
  intro x hx;rcases List.mem_cons.mp hx with rfl|hx
  ·exact h1
  ·exact ih x hx
theorem Way.prev{l:Cells}{p q:Point}{a:List Foot}(h:Way l p a q):∀y,(y∈a.map (·.1)\/y=q)->y=p\/∃x∈a,stepped x.1 x.2=y:=by
 induction h with
 |nil p=>intro y hy;simp at hy;exact .inl hy
 | @cons p q d r h1 hw ih=>
  intro y hy;by_cases hp:y=p
  ·exact .inl hp
  ·have hy':y∈r.map (·.1)\/y=q:=by
    rcases hy with hy|hy
    ·rw[List.map_cons]at hy;rcases List.mem_cons.mp hy with e|hy
     ·exact absurd e hp
     ·exact .inl hy
    ·exact .inr hy
   rcases ih y hy' with e|⟨x,hx,e⟩
   ·exact .inr ⟨(p,d),by simp,e.symm⟩
   ·exact .inr ⟨x,by simp[hx],e⟩
def kK(x:Foot):Cell×Nat:=((leftOf x.1 x.2).getD (0,0),x.2)
theorem wV{l:Cells}{x:Foot}(h:outOf l x.1=some x.2):kK x∈l.flatMap fun c=>[(c,0),(c,1),(c,2),(c,3)]:=by
 obtain⟨hd,w⟩:=bD h;unfold wallFoot at w;simp at w;have w:=w.1;cases e:leftOf x.1 x.2 with
 |none=>rw[e]at w;simp[isIn]at w
 |some c=>rw[e]at w;simp[isIn]at w;refine List.mem_flatMap.mpr ⟨c,w,?_⟩;unfold kK;rw[e];simp;omega
theorem wW{l:Cells}{x y:Foot}(h1:outOf l x.1=some x.2)(h2:outOf l y.1=some y.2)(e:kK x=kK y):x=y:=by
 obtain⟨hd1,w1⟩:=bD h1;obtain⟨hd2,w2⟩:=bD h2;obtain⟨⟨a,b⟩,d⟩:=x;obtain⟨⟨a',b'⟩,d'⟩:=y;have ed:d=d':=congrArg (fun z=>z.2) e;subst ed;rw[eS]at w1 w2;obtain⟨g1,g2⟩:=mS hd1 w1;obtain⟨g3,g4⟩:=mS hd2 w2;have ec:(leftOf (a,b) d).getD (0,0)=(leftOf (a',b') d).getD (0,0):=congrArg (fun z=>z.1) e;have cd:d=0\/d=1\/d=2\/d=3:=by have:d<4:=hd1;omega
 rcases cd with rfl|rfl|rfl|rfl
 ·simp[leftOf]at ec;simp[ec]
 ·simp[aY,nw]at w1 w2;have i1:=bR w1.1;have i2:=bR w2.1;have p1:0<a:=by omega
  have p2:0<a':=by omega
  simp[leftOf,p1,p2]at ec;simp;omega
 ·simp[aY,sw]at w1 w2;have i1:=bR w1.1;have i2:=bR w2.1;have p1:0<a:=by omega
  have p2:0<a':=by omega
  have p3:0<b:=by omega
  have p4:0<b':=by omega
  simp[leftOf,p1,p2,p3,p4]at ec;simp;omega
 ·simp[aY,se]at w1 w2;have i1:=bR w1.1;have i2:=bR w2.1;have p3:0<b:=by omega
  have p4:0<b':=by omega
  simp[leftOf,p3,p4]at ec;simp;omega
theorem nI{f:List Foot}(h:(f.map (·.1)).Nodup):f.Nodup:=by
 induction f with
 |nil=>simp
 |cons x f ih=>rw[List.map_cons]at h;obtain⟨h1,h2⟩:=List.nodup_cons.mp h;exact List.nodup_cons.mpr ⟨fun hm=>h1 (List.mem_map.mpr ⟨x,hm,rfl⟩),ih h2⟩
theorem JP{l:Cells}{f:List Foot}(h:(f.map (·.1)).Nodup)(ho:∀x∈f,outOf l x.1=some x.2):f.length<=4*l.length:=by
 have h1:(f.map kK).Nodup:=d8 (nI h) fun x hx y hy e=>wW (ho x hx) (ho y hy) e
 have h2:=bU h1 (b:=l.flatMap fun c=>[(c,0),(c,1),(c,2),(c,3)]) fun z hz=>by obtain⟨x,hx,rfl⟩:=List.mem_map.mp hz;exact wV (ho x hx)
 have h3:∀l:Cells,(l.flatMap fun c=>[(c,0),(c,1),(c,2),(c,3)]).length=4*l.length:=by
  intro l;induction l with
  |nil=>rfl
  |cons c l ih=>simp at ih ⊢;omega
 rw[h3]at h2;simpa using h2
structure Round(l:Cells)(p:Point)(f:List Foot):Prop where
 way:Way l p f p
 ne:f≠[]
 nd:(f.map (·.1)).Nodup
theorem nU{l:Cells}(hp:pinched l=false){p:Point}:∀(n:Nat)(done:List Foot)(q:Point)(d:Nat),outOf l q=some d->Way l p done q->((done++[(q,d)]).map (·.1)).Nodup->4*l.length<done.length+n+1 ->
  (done=[]->q=p)->Round l p (done++follow l p n q d)
 |0,done,q,d,hq,hw,hn,hl,h0=>by
  exfalso;have:=JP (l:=l) hn fun x hx=>by
   rcases List.mem_append.mp hx with hx|hx
   ·exact hw.out x hx
   ·simp at hx;subst hx;exact hq
  simp at this;omega
 |n+1,done,q,d,hq,hw,hn,hl,h0=>by
  have hw2:Way l p (done++[(q,d)]) (stepped q d):=hw.append (.cons hq (.nil _));have eF:follow l p (n+1) q d=(q,d)::(if stepped q d=p then[]else match outOf l (stepped q d)with|some e=>follow l p n (stepped q d) e|none=>[]):=rfl;rw[eF];by_cases hs:stepped q d=p
  ·rw[if_pos hs];rw[hs]at hw2;exact⟨hw2,by simp,hn⟩
  ·rw[if_neg hs];obtain⟨e,he⟩:=GC hp hq;rw[he];have hnew:stepped q d∉ (done++[(q,d)]).map (·.1):=by
    intro hm;rcases hw2.prev _ (.inl hm)with e1|⟨x,hx,e1⟩
    ·exact hs e1
    ·
     obtain⟨i,hi,ei⟩:=List.getElem_of_mem hm;have key:∀{a:List Foot}{u v:Point},Way l u a v->∀y∈a.map (·.1),y≠u->∃x∈a.dropLast,stepped x.1 x.2=y:=by
      intro a u v hw;induction hw with
      |nil u=>intro y hy;simp at hy
      | @cons u v d' r h1 hw ih=>
       intro y hy hne;rw[List.map_cons]at hy;rcases List.mem_cons.mp hy with e|hy
       ·exact absurd e hne
       ·cases r with
        |nil=>simp at hy
        |cons z r=>
         by_cases hz:y=stepped u d'
         ·exact⟨(u,d'),by simp,hz.symm⟩
         ·obtain⟨x,hx,e⟩:=ih y hy hz;exact⟨x,by simp[hx],e⟩
     obtain⟨x,hx,e1⟩:=key hw2 _ hm hs;have hxd:x∈done:=by simpa using hx
     have hxo:=hw.out x hxd;have:=yE hp hxo hq e1;rw[List.map_append,List.nodup_append]at hn;exact hn.2.2 x.1 (List.mem_map.mpr ⟨x,hxd,rfl⟩) q (by simp) this
   have:=nU hp n (done++[(q,d)]) (stepped q d) e he hw2 (by
    rw[List.map_append,List.nodup_append];refine⟨hn,by simp,?_⟩;intro a ha b hb;simp at hb;subst hb;intro e2;exact hnew (e2▸ha)) (by simp;omega) (by simp)
   simpa using this
theorem EL{l:Cells}(hp:pinched l=false){p:Point}{d:Nat}(h:outOf l p=some d):Round l p (follow l p (4*l.length+4) p d):=by have:=nU hp (4*l.length+4) [] p d h (.nil p) (by simp) (by simp;omega) (by simp);simpa using this
noncomputable def zR(l:Cells)(seen:List Point):Prop:=∀y∈seen,∃x∈seen,∃d,outOf l x=some d/\stepped x d=y
theorem zR.nil(l:Cells):zR l []:=fun _ h=>by simp at h
theorem Round.prev{l:Cells}{p:Point}{f:List Foot}(h:Round l p f):∀y∈f.map (·.1),∃x∈f,stepped x.1 x.2=y:=by
 intro y hy;rcases h.way.prev y (.inl hy)with e|e
 ·subst e;have key:∀{a:List Foot}{u v:Point},Way l u a v->a≠[]->∃x∈a,stepped x.1 x.2=v:=by
   intro a u v hw;induction hw with
   |nil u=>intro h;exact absurd rfl h
   | @cons u v d' r h1 hw ih=>
    intro _;cases r with
    |nil=>cases hw;exact⟨(u,d'),by simp,rfl⟩
    |cons z r=>obtain⟨x,hx,e⟩:=ih (by simp);exact⟨x,by simp only[List.mem_cons]at hx ⊢;exact .inr hx,e⟩
  exact key h.way h.ne
 ·exact e
theorem zR.add{l:Cells}{seen:List Point}{p:Point}{f:List Foot}(hs:zR l seen)(h:Round l p f):zR l (seen++f.map (·.1)):=by
 intro y hy;rcases List.mem_append.mp hy with hy|hy
 ·obtain⟨x,hx,e⟩:=hs y hy;exact⟨x,List.mem_append_left _ hx,e⟩
 ·obtain⟨x,hx,e⟩:=h.prev y hy;exact⟨x.1,List.mem_append_right _ (List.mem_map.mpr ⟨x,hx,rfl⟩),x.2,h.way.out x hx,e⟩
theorem Way.fresh{l:Cells}(hp:pinched l=false){seen:List Point}(hs:zR l seen){p q:Point}{f:List Foot}(h:Way l p f q):p∉seen->∀y∈f.map (·.1),y∉seen:=by
 induction h with
 |nil p=>intro _ y hy;simp at hy
 | @cons p q d r h1 hw ih=>
  intro hn y hy;rw[List.map_cons]at hy;rcases List.mem_cons.mp hy with e|hy
  ·rw[e];exact hn
  ·refine ih (fun hm=>?_) y hy;obtain⟨x,hx,e,he,es⟩:=hs _ hm;have:=yE hp he h1 es;exact hn (this▸hx)
end RM
namespace RM
open Roof
theorem cP{a b:Point}:before a b=true↔a.2<b.2\/(a.2=b.2/\a.1<b.1):=by simp[before]
theorem uB{a:Point}(h:before a a=true):False:=by rw[cP]at h;omega
theorem jL{a b c:Point}(h1:before a b=true)(h2:before b c=true):before a c=true:=by rw[cP]at*;omega
theorem BQ(a b:Point):a=b\/before a b=true\/before b a=true:=by
 by_cases h:a=b
 ·exact .inl h
 ·right;rw[cP,cP];have:¬(a.1=b.1/\a.2=b.2):=fun⟨x,y⟩=>h (Prod.ext x y)
  omega
def leR(a b:Cell):Bool:=a==b||before a b
theorem wJ{a b:Cell}:leR a b=true↔a=b\/before a b=true:=by simp[leR]
theorem E6(a b c:Cell)(h1:leR a b=true)(h2:leR b c=true):leR a c=true:=by
 rw[wJ]at*;rcases h1 with rfl|h1
 ·exact h2
 ·rcases h2 with rfl|h2
  ·exact .inr h1
  ·exact .inr (jL h1 h2)
theorem E7(a b:Cell):(leR a b||leR b a)=true:=by
 rcases BQ a b with rfl|h|h
 ·simp[leR]
 ·simp[leR,h]
 ·simp[leR,h]
theorem j9:∀{l:Cells}{x:Cell},x∈onceEach l↔x∈l
 |[],x=>by simp[onceEach]
 |[a],x=>by simp[onceEach]
 |a::b::r,x=>by
  have ih:=j9 (l:=b::r) (x:=x);unfold onceEach;split
  ·rename_i e;rw[ih,e];simp
  ·rw[List.mem_cons,ih,List.mem_cons (a:=x) (b:=a)]
theorem jP:∀{l:Cells},l.Pairwise (fun a b=>leR a b=true)->(onceEach l).Pairwise (fun a b=>before a b=true)
 |[],_=>by simp[onceEach]
 |[a],_=>by simp[onceEach]
 |a::b::r,h=>by
  obtain⟨h1,h2⟩:=List.pairwise_cons.mp h;have ih:=jP h2;unfold onceEach;split
  ·exact ih
  ·rename_i e;refine List.pairwise_cons.mpr ⟨fun x hx=>?_,ih⟩;have hx:=j9.mp hx;have hab:before a b=true:=by
    rcases wJ.mp (h1 b (by simp))with q|q
    ·exact absurd q e
    ·exact q
   rcases List.mem_cons.mp hx with rfl|hx
   ·exact hab
   ·obtain⟨h3,_⟩:=List.pairwise_cons.mp h2;rcases wJ.mp (h3 x hx)with rfl|q
    ·exact hab
    ·exact jL hab q
theorem sV{l:Cells}{x:Cell}:x∈inRows l↔x∈l:=by unfold inRows;rw[j9,List.mem_mergeSort]
theorem tX(l:Cells):(inRows l).Pairwise (fun a b=>before a b=true):=jP (List.pairwise_mergeSort E6 E7 l)
theorem w9{l:List Point}(h:l.Pairwise (fun a b=>before a b=true)):l.Nodup:=by refine List.Pairwise.imp (fun{a b} q=>?_) h;intro e;subst e;exact uB q
noncomputable def eY(p:Point)(d k:Nat):Point:=if d=0 then(p.1+k,p.2)else if d=1 then(p.1,p.2+k)else if d=2 then(p.1 - k,p.2)else(p.1,p.2 - k)
def cT(p:Point)(d k:Nat):List Foot:=(List.range k).map fun i=>(eY p d i,d)
theorem m7{p:Point}{d k:Nat}(hd:d<4)(h2:d=2->k<=p.1)(h3:d=3->k<=p.2):feet p (eY p d k)=cT p d k:=by
 have cd:d=0\/d=1\/d=2\/d=3:=by omega
 rcases cd with rfl|rfl|rfl|rfl
 ·simp only[feet,eY,cT,if_pos];by_cases hk:k=0
  ·subst hk;simp
  ·rw[if_pos (by omega)];rw[show p.1+k - p.1=k by omega]
 ·simp only[feet,eY,cT];by_cases hk:k=0
  ·subst hk;simp
  ·simp only[if_neg (show¬(1:Nat)=0 by omega),if_pos];rw[if_neg (by omega),if_pos (by omega),show p.2+k - p.2=k by omega]
 ·have:=h2 rfl;simp only[feet,eY,cT];simp only[if_neg (show¬(2:Nat)=0 by omega),if_neg (show¬(2:Nat)=1 by omega),if_pos];rw[if_neg (by omega),show p.1 - (p.1 - k)=k by omega]
 ·have:=h3 rfl;simp only[feet,eY,cT];simp only[if_neg (show¬(3:Nat)=0 by omega),if_neg (show¬(3:Nat)=1 by omega),if_neg (show¬(3:Nat)=2 by omega),if_pos];by_cases hk:k=0
  ·subst hk;simp
  ·rw[if_neg (by omega),if_neg (by omega),show p.2 - (p.2 - k)=k by omega]
theorem tR{p:Point}{d k:Nat}:cT p d (k+1)=cT p d k++[(eY p d k,d)]:=by simp[cT,List.range_succ]
theorem hV{p:Point}{d k:Nat}(hd:d<4):stepped (eY p d k) d=eY p d (k+1):=by
 have cd:d=0\/d=1\/d=2\/d=3:=by omega
 rcases cd with rfl|rfl|rfl|rfl<;>simp[stepped,eY]<;>omega
noncomputable def zV(cs:Walk)(q:Point):List Foot:=(cs.zip (cs.drop 1++[q])).flatMap fun x=>feet x.1 x.2
theorem D5{p a:Point}{cs:Walk}{q:Point}:zV (p::a::cs) q=feet p a++zV (a::cs) q:=by simp[zV]
theorem j8{l:Cells}{p:Point}{d:Nat}(h:outOf l p=some d):(d=2->1<=p.1)/\(d=3->1<=p.2):=by obtain⟨hd,w⟩:=bD h;rw[eS]at w;obtain⟨g1,g2⟩:=mS hd w;exact⟨fun e=>by have:=g1 e;omega,fun e=>by have:=g2 e;omega⟩
theorem expand{l:Cells}:∀{r:List Foot}{p p' q:Point}{d k:Nat},Way l p' r q->d<4->(d=2->k<=p.1)->(d=3->k<=p.2)->p'=eY p d k->zV (p::turns d r) q=cT p d k++r
 |[],p,p',q,d,k,hw,hd,h2,h3,e=>by
  cases hw;show zV [p] p'=_
  rw[e];simp[zV,m7 hd h2 h3]
 |(x,d2)::r,p,PP,q,d,k,hw,hd,h2,h3,e=>by
  cases hw with
  |cons h1 hw=>
   obtain⟨b2,b3⟩:=j8 h1;obtain⟨hd2,_⟩:=bD h1;by_cases hdd:d2=d
   ·subst hdd;have et:turns d2 ((x,d2)::r)=turns d2 r:=by
     show(if d2=d2 then _ else _)=_
     rw[if_pos rfl]
    rw[et,expand (r:=r) (p:=p) (p':=stepped x d2) (k:=k+1) hw hd ?_ ?_ (by rw[e,hV hd]),tR,<- e]
    ·simp
    ·intro e2;have:=b2 e2;rw[e]at this;subst e2;simp[eY]at this;omega
    ·intro e3;have:=b3 e3;rw[e]at this;subst e3;simp[eY]at this;omega
   ·have et:turns d ((x,d2)::r)=x::turns d2 r:=by
     show(if d2=d then _ else _)=_
     rw[if_neg hdd]
    rw[et,D5,e,m7 hd h2 h3,<- e];have:=expand (r:=r) (p:=x) (p':=stepped x d2) (q:=q) (d:=d2) (k:=1) hw hd2 (fun z=>b2 z) (fun z=>b3 z) (by
     have:=hV (p:=x) (d:=d2) (k:=0) hd2;have e0:eY x d2 0=x:=by unfold eY;split<;>(try split)<;>(try split)<;>simp
     rw[e0]at this;exact this)
    rw[this];have es:cT x d2 1=[(x,d2)]:=by
     have e0:eY x d2 0=x:=by unfold eY;split<;>(try split)<;>(try split)<;>simp
     simp[cT,e0]
    rw[es];simp
theorem u7{l:Cells}{p:Point}{d:Nat}{r:List Foot}{x:Foot}(h:Round l p ((p,d)::r))(hx:((p,d)::r).getLast?=some x)(hne:d≠x.2):
  cornersOf ((p,d)::r)=p::turns d r/\walkFeet (cornersOf ((p,d)::r))=(p,d)::r:=by
 have e1:cornersOf ((p,d)::r)=p::turns d r:=by
  unfold cornersOf;rw[hx];show(if d=x.2 then _ else _)=_
  rw[if_neg hne]
 refine⟨e1,?_⟩;rw[e1];have hw:=h.way;cases hw with
 |cons h1 hw=>
  obtain⟨b2,b3⟩:=j8 h1;obtain⟨hd,_⟩:=bD h1;have e0:eY p d 0=p:=by unfold eY;split<;>(try split)<;>(try split)<;>simp
  have:=expand (r:=r) (p:=p) (p':=stepped p d) (q:=p) (d:=d) (k:=1) hw hd b2 b3 (by
   have:=hV (p:=p) (d:=d) (k:=0) hd;rw[e0]at this;exact this)
  have es:cT p d 1=[(p,d)]:=by simp[cT,e0]
  rw[es]at this;simp only[List.singleton_append]at this;rw[<- this];show((p::turns d r).zip ((p::turns d r).drop 1++(p::turns d r).take 1)).flatMap _=_
  simp[zV]
theorem Way.nil_inv{l:Cells}{a b:Point}(h:Way l a [] b):a=b:=by cases h;rfl
structure fB(l:Cells)(seen pts:List Point):Prop where
 oR:zR l seen
 all:∀q d,outOf l q=some d->q∈seen\/q∈pts
 row:pts.Pairwise fun a b=>before a b=true
theorem gL{l:Cells}{q:Point}{d:Nat}(h:outOf l q=some d):q∈pointsOf l:=by
 obtain⟨hd,w⟩:=bD h;unfold pointsOf;rw[sV];rw[eS]at w;obtain⟨a,b⟩:=q;have cd:d=0\/d=1\/d=2\/d=3:=by omega
 rcases cd with rfl|rfl|rfl|rfl
 ·simp[aY,ne,cE]at w;exact List.mem_flatMap.mpr ⟨(a,b),w.1,by simp⟩
 ·simp[aY,nw]at w;obtain⟨x0,y0,m⟩:=bR w.1;refine List.mem_flatMap.mpr ⟨_,m,?_⟩;simp;omega
 ·simp[aY,sw]at w;obtain⟨x0,y0,m⟩:=bR w.1;refine List.mem_flatMap.mpr ⟨_,m,?_⟩;simp;omega
 ·simp[aY,se]at w;obtain⟨x0,y0,m⟩:=bR w.1;refine List.mem_flatMap.mpr ⟨_,m,?_⟩;simp;omega
theorem fB.start(l:Cells):fB l [] (pointsOf l):=⟨zR.nil l,fun q d h=>.inr (gL h),tX _⟩
theorem fB.skip{l:Cells}{seen r:List Point}{p:Point}(g:fB l seen (p::r))(h:p∈seen\/outOf l p=none):fB l seen r:=by
 refine⟨g.oR,fun q d hq=>?_,(List.pairwise_cons.mp g.row).2⟩;rcases g.all q d hq with h1|h1
 ·exact .inl h1
 ·rcases List.mem_cons.mp h1 with rfl|h1
  ·rcases h with h|h
   ·exact .inl h
   ·rw[h]at hq;cases hq
  ·exact .inr h1
theorem fB.step{l:Cells}(hp:pinched l=false){seen r:List Point}{p:Point}{d:Nat}(g:fB l seen (p::r))(hs:p∉seen)(ho:outOf l p=some d){f:List Foot}(hf:f=follow l p (4*l.length+4) p d):
  Round l p f/\(∀y∈f.map (·.1),y∉seen)/\(∃r',f=(p,d)::r'/\cornersOf f=p::turns d r')/\walkFeet (cornersOf f)=f/\fB l (seen++f.map (·.1)) r:=by
 have R:=EL hp ho;rw[<- hf]at R;have fr:=R.way.fresh hp g.oR hs;have least:∀y∈f.map (·.1),y=p\/before p y=true:=by
  intro y hy;obtain⟨x,hx,rfl⟩:=List.mem_map.mp hy;rcases g.all x.1 x.2 (R.way.out x hx)with h1|h1
  ·exact absurd h1 (fr _ hy)
  ·rcases List.mem_cons.mp h1 with h1|h1
   ·exact .inl h1
   ·exact .inr ((List.pairwise_cons.mp g.row).1 _ h1)
 obtain⟨r',er⟩:∃r',f=(p,d)::r':=by rw[hf];exact⟨_,rfl⟩
 refine⟨R,fr,?_⟩;rw[er]at R least fr ⊢;obtain⟨x,hx⟩:∃x,((p,d)::r').getLast?=some x:=by
  cases e:((p,d)::r').getLast? with
  |none=>simp at e
  |some x=>exact⟨x,rfl⟩
 have lastTo:stepped x.1 x.2=p:=by
  have key:∀{a:List Foot}{u v:Point}{x:Foot},Way l u a v->a.getLast?=some x->stepped x.1 x.2=v:=by
   intro a u v x hw;induction hw with
   |nil u=>intro h;simp at h
   | @cons u v d' r h1 hw ih=>
    intro h;cases r with
    |nil=>cases hw;simp at h;rw[<- h]
    |cons z r=>exact ih (by simpa using h)
  exact key R.way hx
 have xm:x∈(p,d)::r':=List.mem_of_getLast? hx;have xo:=R.way.out x xm;obtain⟨hxd,_⟩:=bD xo;obtain⟨hd,_⟩:=bD ho;have hx23:x.2=2\/x.2=3:=by
  have cx:x.2=0\/x.2=1\/x.2=2\/x.2=3:=by omega
  have hl:=least x.1 (List.mem_map.mpr ⟨x,xm,rfl⟩);rw[cP]at hl;rcases cx with c|c|c|c
  ·exfalso;rw[c]at lastTo;simp[stepped]at lastTo;have a1:=congrArg Prod.fst lastTo;have a2:=congrArg Prod.snd lastTo;simp at a1 a2;rcases hl with h|h|h
   ·rw[h]at a1;omega
   ·omega
   ·omega
  ·exfalso;rw[c]at lastTo;simp[stepped]at lastTo;have a1:=congrArg Prod.fst lastTo;have a2:=congrArg Prod.snd lastTo;simp at a1 a2;rcases hl with h|h|h
   ·rw[h]at a2;omega
   ·omega
   ·omega
  ·exact .inl c
  ·exact .inr c
 have hd01:d=0\/d=1:=by
  have hw:=R.way;cases hw with
  |cons h1 hw=>
   have nxt:stepped p d=p\/stepped p d∈((p,d)::r').map (·.1):=by
    cases r' with
    |nil=>exact .inl hw.nil_inv
    |cons z r2=>cases hw;right;simp
   have hl:stepped p d=p\/before p (stepped p d)=true:=by
    rcases nxt with h|h
    ·exact .inl h
    ·exact least _ h
   rw[cP]at hl;obtain⟨b2,b3⟩:=j8 ho;have cx:d=0\/d=1\/d=2\/d=3:=by omega
   rcases cx with c|c|c|c
   ·exact .inl c
   ·exact .inr c
   ·exfalso;have:=b2 c;subst c;simp[stepped]at hl;rcases hl with h|h
    ·have a1:=congrArg Prod.fst h;simp at a1;omega
    ·omega
   ·exfalso;have:=b3 c;subst c;simp[stepped]at hl;rcases hl with h|h
    ·have a1:=congrArg Prod.snd h;simp at a1;omega
    ·omega
 have hne:d≠x.2:=by omega
 obtain⟨c1,c2⟩:=u7 R hx hne;refine⟨⟨r',rfl,c1⟩,c2,g.oR.add R,fun q e hq=>?_,(List.pairwise_cons.mp g.row).2⟩;rcases g.all q e hq with h1|h1
 ·exact .inl (List.mem_append_left _ h1)
 ·rcases List.mem_cons.mp h1 with rfl|h1
  ·exact .inl (List.mem_append_right _ (by simp))
  ·exact .inr h1
theorem eU{l:Cells}(hp:pinched l=false):∀{pts seen:List Point},fB l seen pts ->
  ∃F:List Foot,(walksFrom l seen pts).flatMap walkFeet=F/\(∀x∈F,outOf l x.1=some x.2)/\(F.map (·.1)).Nodup/\(∀x∈F,x.1∉seen)/\∀w∈walksFrom l seen pts,∀q∈w,∃d,outOf l q=some d
 |[],seen,g=>⟨[],by simp[walksFrom],by simp,by simp,by simp,by simp[walksFrom]⟩
 |p::r,seen,g=>by
  by_cases hs:seen.contains p=true
  ·have e:walksFrom l seen (p::r)=walksFrom l seen r:=by
    show(if seen.contains p=true then _ else _)=_
    rw[if_pos hs]
   rw[e];exact eU hp (g.skip (.inl (by simpa using hs)))
  ·cases ho:outOf l p with
   |none=>
    have e:walksFrom l seen (p::r)=walksFrom l seen r:=by
     show(if seen.contains p=true then _ else match outOf l p with|none=>_|some d=>_)=_
     rw[if_neg hs,ho]
    rw[e];exact eU hp (g.skip (.inr ho))
   |some d=>
    have e:walksFrom l seen (p::r)=cornersOf (follow l p (4*l.length+4) p d)::walksFrom l (seen++(follow l p (4*l.length+4) p d).map fun(x:Foot)=>x.1) r:=by
     show(if seen.contains p=true then _ else match outOf l p with|none=>_|some d=>_)=_
     rw[if_neg hs,ho]
    obtain⟨R,fr,⟨r',er,ec⟩,ew,g2⟩:=g.step hp (by simpa using hs) ho rfl;obtain⟨F,h1,h2,h3,h4,h5⟩:=eU hp g2;refine⟨follow l p (4*l.length+4) p d++F,?_,?_,?_,?_,?_⟩
    ·rw[e,List.flatMap_cons,ew,h1]
    ·intro x hx;rcases List.mem_append.mp hx with hx|hx
     ·exact R.way.out x hx
     ·exact h2 x hx
    ·rw[List.map_append,List.nodup_append];refine⟨R.nd,h3,?_⟩;intro a ha b hb e2;obtain⟨x,hx,rfl⟩:=List.mem_map.mp hb;exact h4 x hx (List.mem_append_right _ (e2▸ha))
    ·intro x hx;rcases List.mem_append.mp hx with hx|hx
     ·exact fr _ (List.mem_map.mpr ⟨x,hx,rfl⟩)
     ·exact fun hm=>h4 x hx (List.mem_append_left _ hm)
    ·intro w hw;rw[e]at hw;rcases List.mem_cons.mp hw with rfl|hw
     ·intro q hq;have key:∀{a:List Foot}{d:Nat}{q:Point},q∈turns d a->∃x∈a,x.1=q:=by
       intro a;induction a with
       |nil=>intro d q h;simp[turns]at h
       |cons x a ih=>
        intro d q h;unfold turns at h;split at h
        ·obtain⟨y,hy,e⟩:=ih h;exact⟨y,by simp[hy],e⟩
        ·rcases List.mem_cons.mp h with e|h
         ·exact⟨x,by simp,e.symm⟩
         ·obtain⟨y,hy,e⟩:=ih h;exact⟨y,by simp[hy],e⟩
      have:q∈turns ((follow l p (4*l.length+4) p d).getLast?.elim 0 (·.2)) (follow l p (4*l.length+4) p d):=by
       unfold cornersOf at hq;cases e3:(follow l p (4*l.length+4) p d).getLast? with
       |none=>rw[e3]at hq;simp at hq
       |some z=>rw[e3]at hq;exact hq
      obtain⟨x,hx,e4⟩:=key this;exact⟨x.2,e4▸R.way.out x hx⟩
     ·exact h5 w hw
end RM
namespace RM
open Roof
def sL(ws:List Walk):Prop:=∀w∈ws,∀p∈w,okP p
theorem j5:∀{ws:List Walk},sL ws->RoofBNeutral.text (cY ws)=walksText ws
 |[],_=>rfl
 |w::ws,h=>by
  have e:cY (w::ws)=(fW w++[10])++cY ws:=by simp[cY]
  rw[e,fQ,oO (h w (by simp)),j5 fun x hx=>h x (List.mem_cons_of_mem _ hx)];simp[walksText]
theorem qG{ws:List Walk}(h:sL ws):inB (cY ws):=by
 intro x hx;obtain⟨w,hw,hx⟩:=List.mem_flatMap.mp hx;rcases List.mem_append.mp hx with hx|hx
 ·rcases nB (h w hw) hx with h1|h1|h1<;>omega
 ·simp at hx;omega
theorem n9{ws:List Walk}(h:sL ws):parts 10 (cY ws)=ws.map fW++[[]]:=by
 have:cY ws=glue 10 (ws.map fW++[[]]):=by rw[lP,cY,List.flatMap_map]
 rw[this];refine fF (by simp) fun q hq=>?_
 rcases List.mem_append.mp hq with hq|hq
 ·obtain⟨w,hw,rfl⟩:=List.mem_map.mp hq;intro e;rcases nB (h w hw) e with h1|h1|h1<;>omega
 ·simp at hq;subst hq;simp
theorem AJ{p:Point}:cB p≠[]:=by unfold cB glue glue pNum;split<;>simp
theorem yC{p q:Point}(hp:okP p)(hq:okP q)(e:cB p=cB q):p=q:=by have h1:=fY hp;rw[e,fY hq]at h1;have h2:=Option.some.inj h1;have a:=congrArg Prod.fst h2;have b:=congrArg Prod.snd h2;simp[iP]at a b;exact Prod.ext (by omega) (by omega)
theorem map_inj{α β:Type}{f:α->β}:∀{a b:List α},(∀x∈a,∀y∈b,f x=f y->x=y)->a.map f=b.map f->a=b
 |[],[],_,_=>rfl
 |[],_::_,_,h=>by simp at h
 |_::_,[],_,h=>by simp at h
 |x::a,y::b,hf,h=>by simp at h;rw[hf x (by simp) y (by simp) h.1,map_inj (fun u hu v hv=>hf u (by simp[hu]) v (by simp[hv])) h.2]
theorem GB{w v:Walk}(hw:∀p∈w,okP p)(hv:∀p∈v,okP p)(e:fW w=fW v):w=v:=by
 have key:∀{w:Walk},(∀p∈w,okP p)->w≠[]->parts 32 (fW w)=w.map cB:=by
  intro w hw hne;unfold fW;refine fF (by simpa using hne) fun q hq=>?_
  obtain⟨p,hp,rfl⟩:=List.mem_map.mp hq;intro e;rcases kC (hw p hp) e with h1|h1<;>omega
 have hnil:∀{w:Walk},(∀p∈w,okP p)->fW w=[]->w=[]:=by
  intro w hw e;by_cases h:w=[]
  ·exact h
  ·exfalso;have k:=key hw h;rw[e]at k;have:[([]:List Int)]=w.map cB:=k;cases w with
   |nil=>exact h rfl
   |cons p w=>simp at this;exact AJ this.1
 by_cases h1:w=[]
 ·subst h1;exact(hnil hv e.symm).symm
 ·by_cases h2:v=[]
  ·subst h2;exact absurd (hnil hw e) h1
  ·have k1:=key hw h1;rw[e,key hv h2]at k1;exact map_inj (fun x hx y hy=>yC (hw x hx) (hv y hy)) k1.symm
theorem tN{a b:List Walk}(ha:sL a)(hb:sL b)(h:walksText a=walksText b):a=b:=by
 rw[<- j5 ha,<- j5 hb]at h;have h:=rL (qG ha) (qG hb) h;have k:=n9 ha;rw[h,n9 hb]at k;have k:a.map fW=b.map fW:=by simpa using k.symm
 exact map_inj (fun x hx y hy=>GB (ha x hx) (hb y hy)) k
noncomputable def bG(x y:Nat)(f:Foot):Bool:=(f.2==1&& f.1==(x,y))||(f.2==3&& f.1==(x,y+1))
noncomputable def bX(F:Nat->Nat->Bool)(y:Nat):Nat->Bool
 |0=>F 0 y
 |x+1=>xor (bX F y x) (F (x+1) y)
noncomputable def aT(F:Nat->Nat->Bool):Cells:=(List.range SIDE).flatMap fun y=>((List.range SIDE).map fun x=>((x,y):Cell)).filter fun c=>bX F c.2 c.1
theorem rH(F:List Foot)(y:Nat):wallsWest F (0,y)=F.countP (bG 0 y):=by
 unfold wallsWest;refine List.countP_congr fun f _=>?_
 simp[bG,Prod.ext_iff];omega
theorem vM{α:Type}{p q r:α->Bool}:∀{l:List α},(∀x∈l,r x=(p x||q x))->(∀x∈l,¬(p x=true/\q x=true))->l.countP r=l.countP p+l.countP q
 |[],_,_=>by simp
 |x::l,h1,h2=>by have ih:=vM (l:=l) (fun y hy=>h1 y (by simp[hy])) (fun y hy=>h2 y (by simp[hy]));have a:=h1 x (by simp);have b:=h2 x (by simp);rw[List.countP_cons,List.countP_cons,List.countP_cons,ih,a];cases hp:p x<;>cases hq:q x<;>simp_all<;>omega
theorem rJ(F:List Foot)(x y:Nat):wallsWest F (x+1,y)=wallsWest F (x,y)+F.countP (bG (x+1) y):=by
 unfold wallsWest;refine vM (fun f _=>?_) fun f _ h=>?_
 ·rw[Bool.eq_iff_iff];simp[bG,Prod.ext_iff];omega
 ·simp[bG,Prod.ext_iff]at h;omega
theorem yV{F:List Foot}(h:∀x y,F.countP (bG x y)<=1)(y:Nat):∀x,bX (fun x y=>F.any (bG x y)) y x=(wallsWest F (x,y)%2==1):=by
 have one:∀x,F.any (bG x y)=(F.countP (bG x y)==1):=by
  intro x;have:=h x y;cases e:F.any (bG x y)with
  |true=>
   have:0<F.countP (bG x y):=by rw[List.countP_pos_iff];exact List.any_eq_true.mp e
   have:F.countP (bG x y)=1:=by omega
   simp[this]
  |false=>
   have:F.countP (bG x y)=0:=by rw[List.countP_eq_zero];intro a ha q;have:F.any (bG x y)=true:=List.any_eq_true.mpr ⟨a,ha,q⟩;rw[e]at this;cases this
   simp[this]
 intro x;induction x with
 |zero=>
  show F.any (bG 0 y)=_
  rw[rH,one];have:=h 0 y;rw[Bool.eq_iff_iff];simp;omega
 |succ x ih=>
  show xor (bX _ y x) (F.any (bG (x+1) y))=_
  rw[rJ,ih,one];have:=h (x+1) y;rw[Bool.eq_iff_iff];have hx:∀a b:Nat,b<=1->(((a%2==1)^^ (b==1))=true↔((a+b)%2==1)=true):=by
   intro a b hb;have:b=0\/b=1:=by omega
   rcases this with rfl|rfl
   ·simp
   ·have:a%2=0\/a%2=1:=by omega
    rcases this with q|q
    ·simp[q];omega
    ·simp[q];omega
  exact hx _ _ this
theorem BN(ws:List Walk):cellsIn ws=(List.range SIDE).flatMap fun y=>((List.range SIDE).map fun x=>((x,y):Cell)).filter fun c=>wallsWest (ws.flatMap walkFeet) c%2==1:=by
 unfold cellsIn;dsimp only;congr 1;funext y;have west:∀x,wallsWest (((ws.flatMap walkFeet).filter fun(x:Foot)=>x.2==1||x.2==3).filter fun(x:Foot)=>x.1.2==y||x.1.2==y+1) (x,y)=wallsWest (ws.flatMap walkFeet) (x,y):=by
  intro x;unfold wallsWest;rw[List.countP_filter,List.countP_filter];refine List.countP_congr fun f _=>?_
  simp;omega
 split
 ·rename_i e;symm;rw[List.filter_eq_nil_iff];intro c hc;obtain⟨x,_,rfl⟩:=List.mem_map.mp hc;have w:=west x;rw[List.isEmpty_iff.mp e]at w;rw[<- w];simp[wallsWest]
 ·refine List.filter_congr fun c hc=>?_
  obtain⟨x,_,rfl⟩:=List.mem_map.mp hc;rw[west x]
theorem vO{ws:List Walk}(h:∀x y,(ws.flatMap walkFeet).countP (bG x y)<=1):cellsIn ws=aT fun x y=>(ws.flatMap walkFeet).any (bG x y):=by
 rw[BN,aT];congr 1;funext y;refine List.filter_congr fun c hc=>?_
 obtain⟨x,_,rfl⟩:=List.mem_map.mp hc;rw[yV h]
noncomputable def qP(a b:Point)(x y:Nat):Bool:=a.1==b.1&& (a.1==x&& (decide (min a.2 b.2<=y)&& decide (y<max a.2 b.2)))
theorem HH(a b:Point)(x y:Nat):(feet a b).any (bG x y)=qP a b x y:=by
 rw[Bool.eq_iff_iff,List.any_eq_true];unfold feet;constructor
 ·rintro⟨f,hf,hv⟩;by_cases h1:a.2=b.2
  ·rw[if_pos h1]at hf;split at hf
   ·obtain⟨i,_,rfl⟩:=List.mem_map.mp hf;simp[bG]at hv
   ·obtain⟨i,_,rfl⟩:=List.mem_map.mp hf;simp[bG]at hv
  ·rw[if_neg h1]at hf;by_cases h2:a.1=b.1
   ·rw[if_pos h2]at hf;split at hf
    ·obtain⟨i,hi,rfl⟩:=List.mem_map.mp hf;simp[bG,Prod.ext_iff]at hv hi;simp[qP];omega
    ·obtain⟨i,hi,rfl⟩:=List.mem_map.mp hf;simp[bG,Prod.ext_iff]at hv hi;simp[qP];omega
   ·rw[if_neg h2]at hf;simp at hf
 ·intro h;simp[qP]at h;obtain⟨h1,h2,h3,h4⟩:=h;have hne:a.2≠b.2:=by omega
  rw[if_neg hne,if_pos h1];by_cases hlt:a.2<b.2
  ·rw[if_pos hlt];refine⟨((a.1,y),1),List.mem_map.mpr ⟨y - a.2,by simp;omega,?_⟩,by simp[bG,Prod.ext_iff];omega⟩;simp[Prod.ext_iff];omega
  ·rw[if_neg hlt];refine⟨((a.1,y+1),3),List.mem_map.mpr ⟨a.2 - (y+1),by simp;omega,?_⟩,by simp[bG,Prod.ext_iff];omega⟩;simp[Prod.ext_iff];omega
noncomputable def dM(ws:List Walk)(x y:Nat):Bool:=ws.any fun w=>(sides w).any fun s=>qP s.1 s.2 x y
theorem EK(ws:List Walk)(x y:Nat):(ws.flatMap walkFeet).any (bG x y)=dM ws x y:=by unfold dM walkFeet;rw[List.any_flatMap];congr 1;funext w;rw[List.any_flatMap];congr 1;funext s;exact HH s.1 s.2 x y
theorem yZ{l:Cells}(h:isHouse l=true):l≠[]/\l.length<=256/\(∀c∈l,c.1<64/\c.2<64)/\rising l=true/\pinched l=false:=by
 unfold isHouse at h;cases l with
 |nil=>simp at h
 |cons c r=>
  simp[Roof.within,SIDE,CELLS]at h;obtain⟨h1,h2,h3,h4,h5⟩:=h;refine⟨by simp,by simpa using h1,?_,h3,h5⟩;intro x hx;rcases List.mem_cons.mp hx with rfl|hx
  ·exact⟨of_decide_eq_true h2.1.1,of_decide_eq_true h2.1.2⟩
  ·exact⟨of_decide_eq_true (h2.2 x.1 x.2 hx).1,of_decide_eq_true (h2.2 x.1 x.2 hx).2⟩
theorem ID{l:Cells}(h:∀c∈l,c.1<64/\c.2<64){q:Point}{d:Nat}(ho:outOf l q=some d):okP q:=by have:=gL ho;unfold pointsOf at this;rw[sV]at this;obtain⟨c,hc,hq⟩:=List.mem_flatMap.mp this;have:=h c hc;simp at hq;rcases hq with rfl|rfl|rfl|rfl<;>(constructor<;>(try simp only)<;>omega)
theorem qM{l:Cells}(h:isHouse l=true):sL (walksOf l)/\∀x y,((walksOf l).flatMap walkFeet).countP (bG x y)<=1:=by
 obtain⟨_,_,hb,_,hp⟩:=yZ h;obtain⟨F,h1,h2,h3,_,h5⟩:=eU hp (fB.start l);refine⟨fun w hw p hpw=>?_,fun x y=>?_⟩
 ·obtain⟨d,hd⟩:=h5 w hw p hpw;exact ID hb hd
 ·show((walksFrom l [] (pointsOf l)).flatMap walkFeet).countP _<=1
  rw[h1];have nd:=nI h3;have uniq:∀f∈F,∀g∈F,bG x y f=true->bG x y g=true->f=g:=by
   intro f hf g hg vf vg;have of:=h2 f hf;have og:=h2 g hg;obtain⟨⟨a,b⟩,d⟩:=f;obtain⟨⟨a',b'⟩,d'⟩:=g;simp[bG,Prod.ext_iff]at vf vg;obtain⟨_,w1⟩:=bD of;obtain⟨_,w2⟩:=bD og;rw[eS]at w1 w2;rcases vf with⟨e1,e2,e3⟩|⟨e1,e2,e3⟩<;>rcases vg with⟨g1,g2,g3⟩|⟨g1,g2,g3⟩
   ·subst e1 e2 e3 g1 g2 g3;rfl
   ·exfalso;subst e1 e2 e3 g1 g2 g3;simp[aY,ne,se]at w1 w2;rw[w1.2]at w2;simp at w2
   ·exfalso;subst e1 e2 e3 g1 g2 g3;simp[aY,ne,se]at w1 w2;rw[w2.2]at w1;simp at w1
   ·subst e1 e2 e3 g1 g2 g3;rfl
  have key:∀{F:List Foot},F.Nodup->(∀f∈F,∀g∈F,bG x y f=true->bG x y g=true->f=g)->F.countP (bG x y)<=1:=by
   intro F;induction F with
   |nil=>intro _ _;simp
   |cons f F ih=>
    intro nd u;obtain⟨n1,n2⟩:=List.nodup_cons.mp nd;rw[List.countP_cons];by_cases hv:bG x y f=true
    ·have:F.countP (bG x y)=0:=by rw[List.countP_eq_zero];intro g hg vg;have:=u f (by simp) g (by simp[hg]) hv vg;exact n1 (this▸hg)
     simp[this,hv]
    ·have:=ih n2 fun a ha b hb=>u a (by simp[ha]) b (by simp[hb])
     simp[hv];omega
  exact key nd uniq
noncomputable def GY(ws:List Walk):Option Cells:=if isHouse (aT (dM ws))=true/\walksOf (aT (dM ws))=ws then some (aT (dM ws))else none
theorem t7(ws:List Walk):(fun x y=>(ws.flatMap walkFeet).any (bG x y))=dM ws:=by funext x y;exact EK ws x y
theorem B4{t:List Int}(ht:inB t){ws:List Walk}(o:AL ws)(e:eJ t=some (iWs ws)):houseOf (RoofBNeutral.text t)=GY ws:=by
 have inj:∀{a b:List Walk},iWs a=iWs b->a=b:=by intro a b h;refine map_inj (fun x _ y _ q=>map_inj (fun p _ p' _ r=>?_) q) h;have a1:=congrArg Prod.fst r;have a2:=congrArg Prod.snd r;simp[iP]at a1 a2;exact Prod.ext (by omega) (by omega)
 have hr:readWalks (RoofBNeutral.text t)=.ok ws:=by
  cases q:readWalks (RoofBNeutral.text t)with
  |error p=>rw[DN q]at e;cases e
  |ok v=>have:=(reads ht q).1;rw[e]at this;rw[inj (Option.some.inj this)]
 have hx:=(mY hr).2;have okp:sL ws:=fun w hw=>(o.2 w hw).2
 unfold houseOf;rw[hr];dsimp only;unfold GY;by_cases h1:isHouse (cellsIn ws)=true/\textOf (cellsIn ws)=RoofBNeutral.text t
 ·rw[if_pos h1];obtain⟨k1,k2⟩:=qM h1.1;have hw:walksOf (cellsIn ws)=ws:=tN k1 okp (by rw[<- hx];exact h1.2);rw[hw]at k2;have e2:=vO k2;rw[t7]at e2;rw[<- e2,if_pos ⟨h1.1,hw⟩]
 ·rw[if_neg h1];by_cases h2:isHouse (aT (dM ws))=true/\walksOf (aT (dM ws))=ws
  ·exfalso;obtain⟨k1,k2⟩:=qM h2.1;rw[h2.2]at k2;have e2:=vO k2;rw[t7]at e2;refine h1 ⟨by rw[e2];exact h2.1,?_⟩;rw[e2,textOf,h2.2,hx]
  ·rw[if_neg h2]
theorem B5{t:List Int}(ht:inB t)(e:eJ t=none):houseOf (RoofBNeutral.text t)=none:=by
 unfold houseOf;cases q:readWalks (RoofBNeutral.text t)with
 |error p=>rfl
 |ok v=>have:=(reads ht q).1;rw[e]at this;cases this
end RM
namespace RM
open Roof
noncomputable def aO(p:Pl)(s:Nat):Pl:=if s=0 then(p.1,p.2 - 1)else if s=1 then(p.1+1,p.2)else if s=2 then(p.1,p.2+1)else(p.1 - 1,p.2)
theorem fX{a b:Point}(h:iP a=iP b):a=b:=by have a1:=congrArg Prod.fst h;have a2:=congrArg Prod.snd h;simp[iP]at a1 a2;exact Prod.ext (by omega) (by omega)
theorem gQ{l:Cells}{x:Cell}:iP x∈iW l↔x∈l:=by
 constructor
 ·intro h;obtain⟨y,hy,e⟩:=List.mem_map.mp h;exact fX e▸hy
 ·exact fun h=>List.mem_map.mpr ⟨x,h,rfl⟩
theorem qT{x y:Cell}:y∈beside x↔∃s,s<4/\iP y=aO (iP x) s:=by
 obtain⟨a,b⟩:=x;obtain⟨u,v⟩:=y;constructor
 ·intro h;unfold beside at h;rw[List.mem_append,List.mem_append]at h;rcases h with h|h|h
  ·simp at h;rcases h with⟨rfl,rfl⟩|⟨rfl,rfl⟩
   ·exact⟨1,by omega,by simp[iP,aO]⟩
   ·exact⟨2,by omega,by simp[iP,aO]⟩
  ·split at h
   ·simp at h;obtain⟨rfl,rfl⟩:=h;rename_i q;exact⟨3,by omega,by simp[iP,aO];simp at q;omega⟩
   ·simp at h
  ·split at h
   ·simp at h;obtain⟨rfl,rfl⟩:=h;rename_i q;exact⟨0,by omega,by simp[iP,aO];simp at q;omega⟩
   ·simp at h
 ·rintro⟨s,hs,e⟩;have cs:s=0\/s=1\/s=2\/s=3:=by omega
  unfold beside;rw[List.mem_append,List.mem_append];rcases cs with rfl|rfl|rfl|rfl
  ·simp[iP,aO]at e;right;right;rw[if_pos (show 0<b by omega)];simp;omega
  ·simp[iP,aO]at e;left;simp;omega
  ·simp[iP,aO]at e;left;simp;omega
  ·simp[iP,aO]at e;right;left;rw[if_pos (show 0<a by omega)];simp;omega
inductive tM (l:Cells) (c:Cell):Cell->Prop where
 |refl:tM l c c
 |step {x y:Cell}:tM l c x->y∈beside x->y∈l->tM l c y
theorem zN{l:Cells}{c:Cell}{R:List Cell}(h0:c∈R)(hc:∀x∈R,∀y∈beside x,y∈l->y∈R):∀x,tM l c x->x∈R:=by
 intro x h;induction h with
 |refl=>exact h0
 |step _ h1 h2 ih=>exact hc _ ih _ h1 h2
theorem xP{α:Type}[DecidableEq α]{R l:List α}(hR:R.Nodup)(hl:l.Nodup)(hs:∀x∈R,x∈l):R.length=l.length↔∀x∈l,x∈R:=by
 constructor
 ·intro e x hx;apply Classical.byContradiction;intro hn;have:=bU (a:=R) (b:=l.erase x) hR fun y hy=>(List.mem_erase_of_ne (fun(q:y=x)=>hn (q▸hy))).mpr (hs y hy)
  rw[List.length_erase_of_mem hx]at this;have:0<l.length:=List.length_pos_of_mem hx;omega
 ·intro h;exact Nat.le_antisymm (bU hR hs) (bU hl h)
theorem jR{α:Type}[BEq α][LawfulBEq α]:∀(n:Nat)(l:List α),l.length<=n->l.eraseDups.Nodup
 |0,l,h=>by have:l=[]:=List.length_eq_zero_iff.mp (by omega);subst this;simp
 |n+1,[],h=>by simp
 |n+1,a::l,h=>by
  rw[List.eraseDups_cons];refine List.nodup_cons.mpr ⟨fun hm=>?_,jR n _ ?_⟩
  ·rw[List.mem_eraseDups]at hm;simp at hm
  ·have:=List.length_filter_le (fun b=>!b==a) l;simp at h;omega
structure D0(l:Cells)(c:Cell)(R:List Cell):Prop where
 nd:R.Nodup
 sub:∀x∈R,x∈l
 conn:∀x∈R,tM l c x
 start:c∈R
theorem uN{l:Cells}{c:Cell}:∀(f:Nat)(seen new:List Cell),D0 l c seen->(∀x∈new,x∈seen)->(∀x∈seen,x∉new->∀y∈beside x,y∈l->y∈seen)->l.length<seen.length+f ->
  D0 l c (reach l f seen new)/\∀x∈reach l f seen new,∀y∈beside x,y∈l->y∈reach l f seen new
 |0,seen,new,h,_,_,hl=>by have:=bU h.nd h.sub;omega
 |f+1,seen,new,h,hn,hc,hl=>by
  have eR:reach l (f+1) seen new=(if((new.flatMap beside).filter fun(c:Cell)=>l.contains c&& !seen.contains c).eraseDups=[]then seen else
   reach l f (seen++((new.flatMap beside).filter fun(c:Cell)=>l.contains c&& !seen.contains c).eraseDups) ((new.flatMap beside).filter fun(c:Cell)=>l.contains c&& !seen.contains c).eraseDups):=rfl
  rw[eR];generalize hN:((new.flatMap beside).filter fun(c:Cell)=>l.contains c&& !seen.contains c).eraseDups=N;have hm:∀y,y∈N↔(∃x∈new,y∈beside x)/\y∈l/\y∉seen:=by intro y;rw[<- hN,List.mem_eraseDups,List.mem_filter,List.mem_flatMap];simp
  have hnd:N.Nodup:=hN▸jR _ _ (Nat.le_refl _);have full:∀x∈seen,∀y∈beside x,y∈l->y∈seen\/y∈N:=by
   intro x hx y hy hyl;by_cases hxn:x∈new
   ·by_cases hys:y∈seen
    ·exact .inl hys
    ·exact .inr ((hm y).mpr ⟨⟨x,hxn,hy⟩,hyl,hys⟩)
   ·exact .inl (hc x hx hxn y hy hyl)
  by_cases he:N=[]
  ·rw[if_pos he];refine⟨h,fun x hx y hy hyl=>?_⟩;rcases full x hx y hy hyl with q|q
   ·exact q
   ·rw[he]at q;simp at q
  ·rw[if_neg he];refine uN f (seen++N) N ⟨?_,?_,?_,List.mem_append_left _ h.start⟩ (fun x hx=>List.mem_append_right _ hx) ?_ ?_
   ·rw[List.nodup_append];refine⟨h.nd,hnd,fun a ha b hb e=>?_⟩;exact((hm b).mp hb).2.2 (e▸ha)
   ·intro x hx;rcases List.mem_append.mp hx with hx|hx
    ·exact h.sub x hx
    ·exact((hm x).mp hx).2.1
   ·intro x hx;rcases List.mem_append.mp hx with hx|hx
    ·exact h.conn x hx
    ·obtain⟨⟨z,hz,q⟩,hl,_⟩:=(hm x).mp hx;exact .step (h.conn z (hn z hz)) q hl
   ·intro x hx hxn y hy hyl;rcases List.mem_append.mp hx with hx|hx
    ·rcases full x hx y hy hyl with q|q
     ·exact List.mem_append_left _ q
     ·exact List.mem_append_right _ q
    ·exact absurd hx hxn
   ·have:0<N.length:=List.length_pos_iff.mpr he;rw[List.length_append];omega
theorem DO{l:Cells}(hl:l.Nodup){c:Cell}(hc:c∈l):(reach l l.length [c] [c]).length=l.length↔∀x∈l,tM l c x:=by
 obtain⟨h,hcl⟩:=uN l.length [c] [c] (l:=l) (c:=c) ⟨by simp,by simpa using hc,by intro x hx;simp at hx;subst hx;exact .refl,by simp⟩ (by simp) (by intro x hx hn;exact absurd hx hn) (by simp);rw[xP h.nd hl h.sub];constructor
 ·exact fun q x hx=>h.conn x (q x hx)
 ·exact fun q x hx=>zN h.start hcl x (q x hx)
structure Dfs(l:Cells)(c:Cell)(reached waiting:List Pl):Prop where
 nd:reached.Nodup
 sub:∀p∈reached,∃x∈l,p=iP x/\tM l c x
 wait:∀p∈waiting,∀x∈l,p=iP x->tM l c x
 start:iP c∈reached\/iP c∈waiting
 oR:∀p∈reached,∀s,s<4->aO p s∈iW l->aO p s∈reached\/aO p s∈waiting
theorem Dfs.first{l:Cells}{c:Cell}:Dfs l c [] [iP c]:=
 ⟨by simp,by simp,by intro p hp x hx e;simp at hp;subst hp;rw[fX e];exact .refl,.inr (by simp),by simp⟩
theorem Dfs.skip{l:Cells}{c:Cell}{reached w:List Pl}{p:Pl}(h:Dfs l c reached (w++[p]))(hc:c∈l)(hp:p∉iW l\/p∈reached):Dfs l c reached w:=by
 refine⟨h.nd,h.sub,fun q hq=>h.wait q (by simp[hq]),?_,fun q hq s hs hm=>?_⟩
 ·rcases h.start with e|e
  ·exact .inl e
  ·rcases List.mem_append.mp e with e|e
   ·exact .inr e
   ·simp at e;rcases hp with hp|hp
    ·rw[<- e]at hp;exact absurd (gQ.mpr hc) hp
    ·rw[e];exact .inl hp
 ·rcases h.oR q hq s hs hm with e|e
  ·exact .inl e
  ·rcases List.mem_append.mp e with e|e
   ·exact .inr e
   ·simp at e;rcases hp with hp|hp
    ·rw[e]at hm;exact absurd hm hp
    ·rw[e];exact .inl hp
theorem Dfs.take{l:Cells}{c:Cell}{reached w:List Pl}{p:Pl}(h:Dfs l c reached (w++[p]))(hp:p∈iW l)(hn:p∉reached):
  Dfs l c (reached++[p]) (w++[aO p 0,aO p 1,aO p 2,aO p 3]):=by
 obtain⟨x,hx,e⟩:=List.mem_map.mp hp;have hcx:tM l c x:=h.wait p (by simp) x hx e.symm;refine⟨?_,?_,?_,?_,?_⟩
 ·rw[List.nodup_append];refine⟨h.nd,by simp,fun a ha b hb=>?_⟩;simp at hb;subst hb;intro q;exact hn (q▸ha)
 ·intro q hq;rcases List.mem_append.mp hq with hq|hq
  ·exact h.sub q hq
  ·simp at hq;exact⟨x,hx,by rw[hq,e],hcx⟩
 ·intro q hq y hy ey;rcases List.mem_append.mp hq with hq|hq
  ·exact h.wait q (by simp[hq]) y hy ey
  ·have:y∈beside x:=by
    rw[qT];simp at hq;rcases hq with q0|q0|q0|q0
    ·exact⟨0,by omega,by rw[e,<- ey,q0]⟩
    ·exact⟨1,by omega,by rw[e,<- ey,q0]⟩
    ·exact⟨2,by omega,by rw[e,<- ey,q0]⟩
    ·exact⟨3,by omega,by rw[e,<- ey,q0]⟩
   exact .step hcx this hy
 ·rcases h.start with q|q
  ·exact .inl (by simp[q])
  ·rcases List.mem_append.mp q with q|q
   ·exact .inr (by simp[q])
   ·simp at q;exact .inl (by simp[q])
 ·intro q hq s hs hm;rcases List.mem_append.mp hq with hq|hq
  ·rcases h.oR q hq s hs hm with r|r
   ·exact .inl (by simp[r])
   ·rcases List.mem_append.mp r with r|r
    ·exact .inr (by simp[r])
    ·simp at r;exact .inl (by simp[r])
  ·simp at hq;subst hq;have cs:s=0\/s=1\/s=2\/s=3:=by omega
   right;rcases cs with rfl|rfl|rfl|rfl<;>simp
theorem Dfs.len{l:Cells}{c:Cell}{reached w:List Pl}(h:Dfs l c reached w):reached.length<=l.length:=by
 have:=bU (b:=iW l) h.nd fun p hp=>by obtain⟨x,hx,e,_⟩:=h.sub p hp;rw[e];exact gQ.mpr hx
 simpa[iW]using this
theorem Dfs.done{l:Cells}(hl:l.Nodup){c:Cell}(hc:c∈l){reached:List Pl}(h:Dfs l c reached []):decide (reached.length=l.length)=((reach l l.length [c] [c]).length==l.length):=by
 have e1:(iW l).length=l.length:=by simp[iW]
 have nd:(iW l).Nodup:=d8 hl fun x _ y _ e=>fX e
 have k1:=xP (R:=reached) (l:=iW l) h.nd nd fun p hp=>by obtain⟨x,hx,e,_⟩:=h.sub p hp;rw[e];exact gQ.mpr hx
 rw[e1]at k1;have k2:=DO hl hc;have k3:(∀x∈iW l,x∈reached)↔∀x∈l,tM l c x:=by
  constructor
  ·intro q x hx;obtain⟨y,hy,e,hcy⟩:=h.sub _ (q (iP x) (gQ.mpr hx));rw[fX e];exact hcy
  ·intro q p hp;obtain⟨x,hx,rfl⟩:=List.mem_map.mp hp;have key:∀x,tM l c x->iP x∈reached:=by
    intro x hcx;induction hcx with
    |refl=>
     rcases h.start with r|r
     ·exact r
     ·simp at r
    |step _ h1 h2 ih=>
     obtain⟨s,hs,e⟩:=qT.mp h1;rcases h.oR _ ih s hs (by rw[<- e];exact gQ.mpr h2)with r|r
     ·rw[e];exact r
     ·simp at r
   exact key x (q x hx)
 rw[Bool.eq_iff_iff];simp only[decide_eq_true_eq,beq_iff_eq];rw[k1,k3,k2]
noncomputable def bB(l:Cells)(p:Pl)(s:Nat):Bool:=!decide (aO p s∈iW l)&& (!decide (aO p ((s+1)%4)∈iW l)&& decide (aO (aO p s) ((s+1)%4)∈iW l))
theorem mD{l:Cells}{x y:Int}:(x,y)∈iW l↔inI l x y=true:=by
 constructor
 ·intro h;obtain⟨c,hc,e⟩:=List.mem_map.mp h;have a1:=congrArg Prod.fst e;have a2:=congrArg Prod.snd e;simp[iP]at a1 a2;rw[<- a1,<- a2,cE];simpa using hc
 ·intro h;obtain⟨h1,h2,h3⟩:=bR h;refine List.mem_map.mpr ⟨_,h3,?_⟩;simp[iP];omega
theorem jK{l:Cells}{x y:Int}:decide ((x,y)∈iW l)=inI l x y:=by rw[Bool.eq_iff_iff,decide_eq_true_eq];exact mD
theorem AB{l:Cells}:pinched l=(iW l).any fun p=>bB l p 0||(bB l p 1||(bB l p 2||bB l p 3)):=by
 have m0:∀x y:Int,bB l (x,y) 0=(!inI l x (y - 1)&& (!inI l (x+1) y&& inI l (x+1) (y - 1))):=by intro x y;simp only[bB,aO];simp only[jK,if_pos,if_neg (show¬((0+1)%4=0) by decide),if_pos (show(0+1)%4=1 by decide)]
 have m1:∀x y:Int,bB l (x,y) 1=(!inI l (x+1) y&& (!inI l x (y+1)&& inI l (x+1) (y+1))):=by intro x y;simp[bB,aO,jK]
 have m2:∀x y:Int,bB l (x,y) 2=(!inI l x (y+1)&& (!inI l (x - 1) y&& inI l (x - 1) (y+1))):=by intro x y;simp[bB,aO,jK]
 have m3:∀x y:Int,bB l (x,y) 3=(!inI l (x - 1) y&& (!inI l x (y - 1)&& inI l (x - 1) (y - 1))):=by intro x y;simp[bB,aO,jK]
 rw[Bool.eq_iff_iff];constructor
 ·intro h;obtain⟨⟨a,b⟩,hc,q⟩:=List.any_eq_true.mp h;refine List.any_eq_true.mpr ⟨iP (a,b),gQ.mpr hc,?_⟩;show(bB l ((a:Int),(b:Int)) 0||(bB l ((a:Int),(b:Int)) 1||(bB l ((a:Int),(b:Int)) 2||bB l ((a:Int),(b:Int)) 3)))=true
  rw[m1,m2];rw[Bool.or_eq_true]at q;rcases q with q|q
  ·simp only[Bool.and_eq_true,Bool.not_eq_true',Bool.or_eq_false_iff]at q;have b1:inI l ((a:Int)+1) ((b:Int)+1)=true:=by have:=cE l (a+1) (b+1);rw[q.1]at this;simpa using this
   have b2:inI l ((a:Int)+1) b=false:=by have:=cE l (a+1) b;rw[q.2.1]at this;simpa using this
   have b3:inI l (a:Int) ((b:Int)+1)=false:=by have:=cE l a (b+1);rw[q.2.2]at this;simpa using this
   simp[b1,b2,b3]
  ·simp only[Bool.and_eq_true,Bool.not_eq_true',Bool.or_eq_false_iff,decide_eq_true_eq]at q;obtain⟨q0,q1,q2,q3⟩:=q;have e:((a - 1:Nat):Int)=(a:Int) - 1:=by have:0<a:=q0;omega
   have b1:inI l ((a:Int) - 1) ((b:Int)+1)=true:=by have:=cE l (a - 1) (b+1);rw[q1,e]at this;simpa using this
   have b2:inI l ((a:Int) - 1) b=false:=by have:=cE l (a - 1) b;rw[q2,e]at this;simpa using this
   have b3:inI l (a:Int) ((b:Int)+1)=false:=by have:=cE l a (b+1);rw[q3]at this;simpa using this
   simp[b1,b2,b3]
 ·intro h;obtain⟨p,hp,q⟩:=List.any_eq_true.mp h;cases hb:pinched l with
  |true=>rfl
  |false=>
   exfalso;obtain⟨x,y⟩:=p;have hp:=mD.mp hp;rw[m0,m1,m2,m3]at q;simp only[Bool.or_eq_true,Bool.and_eq_true,Bool.not_eq_true']at q;rcases q with⟨q1,q2,q3⟩|⟨q1,q2,q3⟩|⟨q1,q2,q3⟩|⟨q1,q2,q3⟩
   ·
    refine(gI hb (x+1) y).2 ⟨?_,?_,?_,?_⟩
    ·rw[nw,show x+1 - 1=x by omega];exact hp
    ·exact q3
    ·exact q2
    ·rw[sw,show x+1 - 1=x by omega];exact q1
   ·refine(gI hb (x+1) (y+1)).1 ⟨?_,?_,?_,?_⟩
    ·rw[sw,show x+1 - 1=x by omega,show y+1 - 1=y by omega];exact hp
    ·exact q3
    ·rw[se,show y+1 - 1=y by omega];exact q1
    ·rw[nw,show x+1 - 1=x by omega];exact q2
   ·refine(gI hb x (y+1)).2 ⟨?_,?_,?_,?_⟩
    ·exact q3
    ·rw[se,show y+1 - 1=y by omega];exact hp
    ·exact q1
    ·rw[sw,show y+1 - 1=y by omega];exact q2
   ·refine(gI hb x y).1 ⟨?_,?_,?_,?_⟩
    ·exact q3
    ·exact hp
    ·exact q2
    ·exact q1
theorem rY:∀{l:Cells},rising l=true↔l.Pairwise fun a b=>before a b=true
 |[]=>by simp[rising]
 |[a]=>by simp[rising]
 |a::b::r=>by
  have ih:=rY (l:=b::r);unfold rising;rw[Bool.and_eq_true,ih,List.pairwise_cons (l:=b::r)];constructor
  ·rintro⟨h1,h2⟩;refine⟨fun x hx=>?_,h2⟩;rcases List.mem_cons.mp hx with rfl|hx
   ·exact h1
   ·exact jL h1 ((List.pairwise_cons.mp h2).1 x hx)
  ·rintro⟨h1,h2⟩;exact⟨h1 b (by simp),h2⟩
theorem gT{F:Nat->Nat->Bool}{c:Cell}:c∈aT F↔c.1<64/\c.2<64/\bX F c.2 c.1=true:=by
 unfold aT SIDE;simp only[List.mem_flatMap,List.mem_filter,List.mem_map,List.mem_range];constructor
 ·rintro⟨y,hy,⟨x,hx,rfl⟩,h⟩;exact⟨hx,hy,h⟩
 ·rintro⟨h1,h2,h3⟩;exact⟨c.2,h2,⟨c.1,h1,rfl⟩,h3⟩
theorem m9(F:Nat->Nat->Bool):(aT F).Pairwise fun a b=>before a b=true:=by
 unfold aT;rw[List.pairwise_flatMap];refine⟨fun y _=>?_,?_⟩
 ·refine List.Pairwise.filter _ ?_;rw[List.pairwise_map];refine List.Pairwise.imp (fun{a b} h=>?_) List.pairwise_lt_range;rw[cP];exact .inr ⟨rfl,h⟩
 ·refine List.Pairwise.imp (fun{a b} h=>?_) List.pairwise_lt_range;intro x hx y hy;simp only[List.mem_filter,List.mem_map]at hx hy;obtain⟨⟨i,_,rfl⟩,_⟩:=hx;obtain⟨⟨j,_,rfl⟩,_⟩:=hy;rw[cP];exact .inl h
theorem sS{F:Nat->Nat->Bool}{c:Cell}{r:Cells}(e:aT F=c::r):
  isHouse (aT F)=(decide ((aT F).length<=256)&& (!pinched (aT F)&& ((reach (aT F) (aT F).length [c] [c]).length==(aT F).length))):=by
 have h1:(aT F).all Roof.within=true:=List.all_eq_true.mpr fun x hx=>by have:=gT.mp hx;simp[Roof.within,SIDE];exact⟨decide_eq_true this.1,decide_eq_true this.2.1⟩
 have h2:=rY.mpr (m9 F);rw[e]at h1 h2 ⊢;show(decide ((c::r).length<=CELLS)&& ((c::r).all Roof.within&& (rising (c::r)&& ((reach (c::r) (c::r).length [c] [c]).length==(c::r).length&& !pinched (c::r)))))=_
 rw[h1,h2,Bool.true_and,Bool.true_and,Bool.and_comm (!pinched (c::r))];rfl
theorem yS:isHouse []=false:=rfl
end RM
namespace RM
open Roof
def hP(r:Nat):Pl:=((iOf r:Int),(jOf r:Int))
def okR(r:Nat):Prop:=∃i j,i<128/\j<128/\r=raw i j
theorem CL{i j:Nat}(hi:i<128):iOf (raw i j)=i:=by unfold iOf raw W;omega
theorem CG{i j:Nat}(hi:i<128):jOf (raw i j)=j:=by unfold jOf raw W;omega
theorem dJ{i j:Nat}(hi:i<128):hP (raw i j)=((i:Int),(j:Int)):=by unfold hP;rw[CL hi,CG hi]
theorem pM{r q:Nat}(hr:okR r)(hq:okR q)(e:hP r=hP q):r=q:=by
 obtain⟨i,j,hi,hj,rfl⟩:=hr;obtain⟨i',j',hi',hj',rfl⟩:=hq;rw[dJ hi,dJ hi']at e;have a:=congrArg Prod.fst e;have b:=congrArg Prod.snd e;simp at a b;have a:i=i':=by omega
 have b:j=j':=by omega
 rw[a,b]
theorem GF{r:Nat}(h:okR r):r<W*W:=by obtain⟨i,j,hi,hj,rfl⟩:=h;unfold raw W;omega
theorem J1{L:List Nat}(hL:∀q∈L,okR q){r q:Nat}(hr:okR r){dx dy:Int}(h1:-1<=dx/\dx<=1)(h2:-1<=dy/\dy<=1)(hq:(q:Int)=r+130*dy+dx):
  q∈L↔((hP r).1+dx,(hP r).2+dy)∈L.map hP:=by
 obtain⟨i,j,hi,hj,rfl⟩:=hr;rw[dJ hi];constructor
 ·intro h;refine List.mem_map.mpr ⟨q,h,?_⟩;obtain⟨i',j',hi',hj',e⟩:=hL q h;rw[e,dJ hi'];unfold raw W at e hq;apply Prod.ext
  ·simp;omega
  ·simp;omega
 ·intro h;obtain⟨z,hz,e⟩:=List.mem_map.mp h;obtain⟨i',j',hi',hj',ez⟩:=hL z hz;rw[ez,dJ hi']at e;have a:=congrArg Prod.fst e;have b:=congrArg Prod.snd e;simp at a b;have:z=q:=by rw[ez];unfold raw W at hq ⊢;omega
  rw[<- this];exact hz
noncomputable def aZ(h:List Nat):Nat->List Nat
 |0=>h
 |k+1=>(aZ h k).filter fun r=>(about r).all fun q=>(aZ h k).contains q
noncomputable def f6(p:Pl):List Pl:=[(p.1+-1,p.2+-1),(p.1+0,p.2+-1),(p.1+1,p.2+-1),(p.1+-1,p.2+0),(p.1+1,p.2+0),(p.1+-1,p.2+1),(p.1+0,p.2+1),(p.1+1,p.2+1)]
noncomputable def aW(hs:List Pl):Nat->List Pl
 |0=>hs
 |k+1=>(aW hs k).filter fun p=>(f6 p).all fun q=>(aW hs k).contains q
theorem kG(h:List Nat):∀k,∀r∈aZ h k,r∈h
 |0,r,hr=>hr
 |k+1,r,hr=>kG h k r (List.mem_filter.mp hr).1
theorem jD{h:List Nat}(hh:∀r∈h,okR r)(k:Nat):∀r∈aZ h k,okR r:=fun r hr=>hh r (kG h k r hr)
theorem F7{L:List Nat}(hL:∀q∈L,okR q){r:Nat}(hr:okR r):((about r).all fun q=>L.contains q)=(f6 (hP r)).all fun q=>(L.map hP).contains q:=by
 obtain⟨i,j,hi,hj,e⟩:=id hr;have key:∀{q:Nat}{dx dy:Int},(-1<=dx/\dx<=1)->(-1<=dy/\dy<=1)->((q:Int)=r+130*dy+dx)->L.contains q=(L.map hP).contains ((hP r).1+dx,(hP r).2+dy):=by intro q dx dy h1 h2 hq;rw[Bool.eq_iff_iff];simp only[List.contains_iff_mem];exact J1 hL hr h1 h2 hq
 have hr0:131<=r:=by rw[e];unfold raw W;omega
 simp only[about,f6,List.all_cons,List.all_nil];rw[key (dx:=-1) (dy:=-1) (by omega) (by omega) (by unfold W;omega),key (dx:=0) (dy:=-1) (by omega) (by omega) (by unfold W;omega),key (dx:=1) (dy:=-1) (by omega) (by omega) (by unfold W;omega),
  key (dx:=-1) (dy:=0) (by omega) (by omega) (by omega),key (dx:=1) (dy:=0) (by omega) (by omega) (by omega),
  key (dx:=-1) (dy:=1) (by omega) (by omega) (by unfold W;omega),key (dx:=0) (dy:=1) (by omega) (by omega) (by unfold W;omega),key (dx:=1) (dy:=1) (by omega) (by omega) (by unfold W;omega)]
theorem dI{h:List Nat}(hh:∀r∈h,okR r):∀k,aW (h.map hP) k=(aZ h k).map hP
 |0=>rfl
 |k+1=>by
  have ih:=dI hh k;show(aW (h.map hP) k).filter _=((aZ h k).filter _).map hP
  rw[ih,List.filter_map];have e:=List.filter_congr (l:=aZ h k) (p:=(fun p=>(f6 p).all fun q=>((aZ h k).map hP).contains q)∘hP) (q:=fun r=>(about r).all fun q=>(aZ h k).contains q) fun r hr=>(F7 (jD hh k) (jD hh k r hr)).symm
  rw[e]
theorem mF{h:List Nat}(hh:∀r∈h,okR r):∀k,∀p∈aW (h.map hP) k,(k:Int)<=p.1/\p.1+k<=127
 |0,p,hp=>by obtain⟨r,hr,rfl⟩:=List.mem_map.mp hp;obtain⟨i,j,hi,hj,rfl⟩:=hh r hr;rw[dJ hi];simp;omega
 |k+1,p,hp=>by obtain⟨h1,h2⟩:=List.mem_filter.mp hp;simp only[List.all_eq_true,List.contains_iff_mem]at h2;have a:=mF hh k _ (h2 (p.1+-1,p.2+0) (by simp[f6]));have b:=mF hh k _ (h2 (p.1+1,p.2+0) (by simp[f6]));simp at a b;simp;omega
theorem fH{h:List Nat}(hh:∀r∈h,okR r){k:Nat}(hk:64<=k):aZ h k=[]:=by
 have:=mF hh k;rw[dI hh]at this;cases e:aZ h k with
 |nil=>rfl
 |cons r t=>rw[e]at this;have:=this (hP r) (by simp);omega
theorem qJ{h:List Nat}{k:Nat}(e:aZ h k=[]):∀m,k<=m->aZ h m=[]
 |0,hm=>by
  have:k=0:=by omega
  rw[<- this];exact e
 |m+1,hm=>by
  by_cases hk:k=m+1
  ·rw[<- hk];exact e
  ·show(aZ h m).filter _=[]
   rw[qJ e m (by omega)];rfl
noncomputable def gv(h:List Nat):Nat->Nat->Nat
 |0,_=>0
 |k+1,r=>if r∈aZ h k then k+1 else gv h k r
theorem K9(h:List Nat):∀k r,gv h k r<=k
 |0,r=>Nat.le_refl _
 |k+1,r=>by
  unfold gv;split
  ·exact Nat.le_refl _
  ·exact Nat.le_succ_of_le (K9 h k r)
theorem LU{h:List Nat}{k r:Nat}:k+1<=gv h (k+1) r↔r∈aZ h k:=by
 show k+1<=(if r∈aZ h k then k+1 else gv h k r)↔ _
 split
 ·rename_i q;simp[q]
 ·rename_i q;have:=K9 h k r;simp[q];omega
theorem nP{h:List Nat}{k:Nat}(e:aZ h k=[])(r:Nat):∀m,k<=m->gv h m r=gv h k r
 |0,hm=>by
  have:k=0:=by omega
  rw[this]
 |m+1,hm=>by
  by_cases hk:k=m+1
  ·rw[hk]
  ·show(if r∈aZ h m then m+1 else gv h m r)=_
   rw[qJ e m (by omega),if_neg (by simp)];exact nP e r m (by omega)
theorem sG(k:Nat):∀(l:List Nat)(g:Grid),(put g k l).size=g.size
 |[],g=>rfl
 |r::l,g=>by
  show(put (g.setIfInBounds r k) k l).size=_
  rw[sG k l];simp
theorem wG(k:Nat):∀(l:List Nat)(g:Grid)(r:Nat),(∀x∈l,x<g.size)->(put g k l).val r=if r∈l then k else g.val r
 |[],g,r,_=>by simp[put]
 |x::l,g,r,h=>by
  show(put (g.setIfInBounds x k) k l).val r=_
  rw[wG k l _ r fun y hy=>by simpa using h y (by simp[hy])];have hx:=h x (by simp);by_cases h1:r∈l
  ·simp[h1]
  ·rw[if_neg h1];by_cases h2:r=x
   ·subst h2;simp only[List.mem_cons,true_or,if_true];simp[Grid.val,Array.getD_eq_getD_getElem?,hx]
   ·have h3:¬r∈x::l:=by simp[h1,h2]
    rw[if_neg h3];unfold Grid.val;simp only[Array.getD_eq_getD_getElem?,Array.getElem?_setIfInBounds];rw[if_neg (fun e=>h2 e.symm)]
theorem xN{h:List Nat}(hh:∀r∈h,okR r):∀(f k:Nat)(g:Grid),g.size=W*W->(∀r,g.val r=gv h (k+1) r)->64<=f+k->∀r,(sink f (k+1) (aZ h k) g).val r=gv h (f+k+1) r
 |0,k,g,hs,hg,hk,r=>by
  show g.val r=_
  rw[hg];simp
 |f+1,k,g,hs,hg,hk,r=>by
  have en:((aZ h k).filter fun(r:Nat)=>(about r).all fun(q:Nat)=>decide (k+1<=g.val q))=aZ h (k+1):=by
   show _=(aZ h k).filter _
   refine List.filter_congr fun r hr=>?_
   congr 1;funext q;rw[Bool.eq_iff_iff,decide_eq_true_eq,List.contains_iff_mem,hg];exact LU
  show(if((aZ h k).filter fun(r:Nat)=>(about r).all fun(q:Nat)=>decide (k+1<=g.val q)).isEmpty=true then g else sink f (k+1+1) ((aZ h k).filter fun(r:Nat)=>(about r).all fun(q:Nat)=>decide (k+1<=g.val q)) (put g (k+1+1) ((aZ h k).filter fun(r:Nat)=>(about r).all fun(q:Nat)=>decide (k+1<=g.val q)))).val r=_
  rw[en];by_cases he:(aZ h (k+1)).isEmpty=true
  ·rw[if_pos he,hg];exact(nP (List.isEmpty_iff.mp he) r _ (by omega)).symm
  ·rw[if_neg he];have lt:∀x∈aZ h (k+1),x<g.size:=fun x hx=>by rw[hs];exact GF (jD hh _ x hx)
   rw[xN hh f (k+1) _ (by rw[sG,hs]) (fun x=>?_) (by omega) r]
   ·congr 1;omega
   ·rw[wG _ _ _ _ lt,hg];rfl
theorem z8{h:List Nat}(hh:∀r∈h,okR r){n:Nat}(hn:aZ h n=[])(r:Nat):(gridOf h).val r=gv h n r:=by
 unfold gridOf HALVES;have e:(put (Array.replicate (W*W) 0) 1 h).size=W*W:=by rw[sG];simp
 have lt:∀x∈h,x<(Array.replicate (W*W) (0:Nat)).size:=fun x hx=>by have:=GF (hh x hx);simpa using this
 have z:∀r,Grid.val (Array.replicate (W*W) 0) r=0:=by intro r;unfold Grid.val;rw[Array.getD_eq_getD_getElem?,Array.getElem?_replicate];split<;>rfl
 have:=xN hh 128 0 (put (Array.replicate (W*W) 0) 1 h) e (fun r=>by rw[wG _ _ _ _ lt,z];rfl) (by omega) r;show(sink 128 (0+1) (aZ h 0) _).val r=_
 rw[this];have e64:=fH hh (Nat.le_refl 64);rw[nP e64 r _ (by omega)];by_cases hc:n<=64
 ·exact nP hn r 64 hc
 ·exact(nP e64 r n (by omega)).symm
noncomputable def lX(hs:List Pl):Nat->Pl->Int
 |0,_=>-1
 |k+1,p=>if p∈aW hs k then k else lX hs k p
theorem CP{h:List Nat}(hh:∀r∈h,okR r){r:Nat}(hr:okR r):∀k,lX (h.map hP) k (hP r)=(gv h k r:Int) - 1
 |0=>rfl
 |k+1=>by
  have ih:=CP hh hr k;have e:hP r∈aW (h.map hP) k↔r∈aZ h k:=by
   rw[dI hh];constructor
   ·intro q;obtain⟨z,hz,e⟩:=List.mem_map.mp q;rw[<- pM (jD hh k z hz) hr e];exact hz
   ·exact fun q=>List.mem_map.mpr ⟨r,q,rfl⟩
  show(if hP r∈aW (h.map hP) k then(k:Int)else lX (h.map hP) k (hP r))=((if r∈aZ h k then k+1 else gv h k r:Nat):Int) - 1
  by_cases q:r∈aZ h k
  ·rw[if_pos (e.mpr q),if_pos q];omega
  ·rw[if_neg (fun z=>q (e.mp z)),if_neg q,ih]
theorem vI{h:List Nat}(hh:∀r∈h,okR r){n:Nat}(hn:aW (h.map hP) n=[]){r:Nat}(hr:okR r):lX (h.map hP) n (hP r)=((gridOf h).val r:Int) - 1:=by rw[dI hh,List.map_eq_nil_iff]at hn;rw[CP hh hr,z8 hh hn]
theorem wO{h:List Nat}(hh:∀r∈h,okR r){r:Nat}:0<(gridOf h).val r↔r∈h:=by
 have e64:=fH hh (Nat.le_refl 64);rw[z8 hh e64];have key:∀k,0<gv h (k+1) r↔r∈h:=by
  intro k;induction k with
  |zero=>
   show 0<(if r∈h then 0+1 else 0)↔ _
   split<;>simp_all
  |succ k ih=>
   show 0<(if r∈aZ h (k+1)then k+1+1 else gv h (k+1) r)↔ _
   split
   ·rename_i q;simp[kG h _ r q]
   ·exact ih
 exact key 63
theorem HC{h:List Nat}(hh:∀r∈h,okR r){r:Nat}(hr:r∉h):(gridOf h).val r=0:=by
 have:¬0<(gridOf h).val r:=fun q=>hr ((wO hh).mp q)
 omega
noncomputable def m4(l:Cells):List Nat:=l.flatMap fun(c:Cell)=>[raw (2*c.1) (2*c.2),raw (2*c.1+1) (2*c.2),raw (2*c.1) (2*c.2+1),raw (2*c.1+1) (2*c.2+1)]
theorem sW{l:Cells}{r:Nat}:r∈halvesOf l↔r∈m4 l:=by unfold halvesOf;rw[List.mem_mergeSort];rfl
theorem DP{l:Cells}{i j:Nat}(hi:i<128)(hb:∀c∈l,c.1<64/\c.2<64):raw i j∈m4 l↔(i/2,j/2)∈l:=by
 unfold m4;rw[List.mem_flatMap];constructor
 ·rintro⟨c,hc,h⟩;have b:=hb c hc;have:(i/2,j/2)=c:=by
   simp[raw,W]at h;apply Prod.ext
   ·simp;omega
   ·simp;omega
  rw[this];exact hc
 ·intro h;refine⟨_,h,?_⟩;simp[raw,W];omega
theorem dU{l:Cells}(hb:∀c∈l,c.1<64/\c.2<64):∀r∈halvesOf l,okR r:=by
 intro r hr;rw[sW]at hr;obtain⟨c,hc,h⟩:=List.mem_flatMap.mp hr;have b:=hb c hc;simp at h;rcases h with rfl|rfl|rfl|rfl
 ·exact⟨_,_,by omega,by omega,rfl⟩
 ·exact⟨_,_,by omega,by omega,rfl⟩
 ·exact⟨_,_,by omega,by omega,rfl⟩
 ·exact⟨_,_,by omega,by omega,rfl⟩
theorem B7{l:Cells}{i j:Nat}(hi:i<128)(hb:∀c∈l,c.1<64/\c.2<64):raw i j∈halvesOf l↔(i/2,j/2)∈l:=by rw[sW,DP hi hb]
theorem xS{l:Cells}(hl:l.Nodup)(hb:∀c∈l,c.1<64/\c.2<64):(m4 l).Nodup:=by
 induction l with
 |nil=>simp[m4]
 |cons c l ih=>
  obtain⟨n1,n2⟩:=List.nodup_cons.mp hl;have e:m4 (c::l)=[raw (2*c.1) (2*c.2),raw (2*c.1+1) (2*c.2),raw (2*c.1) (2*c.2+1),raw (2*c.1+1) (2*c.2+1)]++m4 l:=rfl;rw[e,List.nodup_append];have b:=hb c (by simp);refine⟨?_,ih n2 fun x hx=>hb x (by simp[hx]),?_⟩
  ·simp[raw,W];omega
  ·intro a ha z hz e2;obtain⟨c',hc',h⟩:=List.mem_flatMap.mp hz;have b':=hb c' (by simp[hc']);have:c=c':=by
    subst e2;simp[raw,W]at h ha;apply Prod.ext
    ·omega
    ·omega
   exact n1 (this▸hc')
theorem fM{l:Cells}(hl:l.Nodup)(hb:∀c∈l,c.1<64/\c.2<64):(halvesOf l).Pairwise (· < ·):=by
 have h1:(halvesOf l).Pairwise fun a b=>decide (a<=b)=true:=List.pairwise_mergeSort (le:=fun(a b:Nat)=>decide (a<=b)) (by intro a b c h1 h2;simp at*;omega) (by intro a b;simp;omega) _
 have h2:(halvesOf l).Nodup:=(List.mergeSort_perm _ _).nodup_iff.mpr (xS hl hb);have h3:(halvesOf l).Pairwise fun a b=>decide (a<=b)=true/\a≠b:=List.pairwise_and_iff.mpr ⟨h1,h2⟩
 exact h3.imp fun{a b} ⟨q1,q2⟩=>by simp at q1;omega
def C0(a b:Pl):Prop:=a.2<b.2\/(a.2=b.2/\a.1<b.1)
def g8(a b:Pl):Prop:=a.2<b.2\/(a.2=b.2/\a.1<=b.1)
theorem rV{a b:Pl}(h1:g8 a b)(h2:g8 b a):a=b:=by unfold g8 at*;exact Prod.ext (by omega) (by omega)
theorem z7{l:Cells}(hl:l.Nodup)(hb:∀c∈l,c.1<64/\c.2<64):((halvesOf l).map hP).Pairwise g8:=by
 rw[List.pairwise_map];refine(fM hl hb).imp_of_mem fun{a b} ha hb' h=>?_
 obtain⟨i,j,hi,hj,rfl⟩:=dU hb a ha;obtain⟨i',j',hi',hj',rfl⟩:=dU hb b hb';rw[dJ hi,dJ hi'];unfold g8;unfold raw W at h;simp;omega
noncomputable def fU(cs:List Pl):List Pl:=cs.flatMap fun c=>[(2*c.1+0,2*c.2+0),(2*c.1+1,2*c.2+0),(2*c.1+0,2*c.2+1),(2*c.1+1,2*c.2+1)]
theorem DQ{l:Cells}(hb:∀c∈l,c.1<64/\c.2<64):fU (iW l)=(m4 l).map hP:=by
 induction l with
 |nil=>rfl
 |cons c l ih=>have b:=hb c (by simp);have e:m4 (c::l)=[raw (2*c.1) (2*c.2),raw (2*c.1+1) (2*c.2),raw (2*c.1) (2*c.2+1),raw (2*c.1+1) (2*c.2+1)]++m4 l:=rfl;have e2:fU (iW (c::l))=[(2*(c.1:Int)+0,2*(c.2:Int)+0),(2*(c.1:Int)+1,2*(c.2:Int)+0),(2*(c.1:Int)+0,2*(c.2:Int)+1),(2*(c.1:Int)+1,2*(c.2:Int)+1)]++fU (iW l):=rfl;rw[e,e2,ih fun x hx=>hb x (by simp[hx]),List.map_append];congr 1;simp only[List.map_cons,List.map_nil];rw[dJ (by omega),dJ (by omega),dJ (by omega),dJ (by omega)];simp
theorem tZ{l:Cells}(hl:l.Nodup)(hb:∀c∈l,c.1<64/\c.2<64){ys:List Pl}(hp:ys.Perm (fU (iW l)))(hs:ys.Pairwise g8):ys=(halvesOf l).map hP:=by refine List.Perm.eq_of_pairwise (le:=g8) (fun a b _ _=>rV) hs (z7 hl hb) (hp.trans ?_);rw[DQ hb];exact(List.mergeSort_perm _ _).symm.map hP
end RM
namespace RM
open Roof
def d5(h:List Nat)(p:Pl):Int:=if p∈h.map hP then lX (h.map hP) 64 p else -1
theorem HB{h:List Nat}(hh:∀r∈h,okR r){X Y:Nat}(hX:X<=129):(((X:Int) - 1,(Y:Int) - 1)∈h.map hP)↔W*Y+X∈h:=by
 constructor
 ·intro q;obtain⟨r,hr,e⟩:=List.mem_map.mp q;obtain⟨i,j,hi,hj,rfl⟩:=hh r hr;rw[dJ hi]at e;have a:=congrArg Prod.fst e;have b:=congrArg Prod.snd e;simp at a b;have:W*Y+X=raw i j:=by unfold raw W;omega
  rw[this];exact hr
 ·intro q;refine List.mem_map.mpr ⟨_,q,?_⟩;obtain⟨i,j,hi,hj,e⟩:=hh _ q;rw[e,dJ hi];unfold raw W at e;apply Prod.ext
  ·simp;omega
  ·simp;omega
theorem nZ{h:List Nat}(hh:∀r∈h,okR r){X Y:Nat}(hX:X<=129):d5 h ((X:Int) - 1,(Y:Int) - 1)=((gridOf h).val (W*Y+X):Int) - 1:=by
 unfold d5;by_cases q:((X:Int) - 1,(Y:Int) - 1)∈h.map hP
 ·rw[if_pos q];have m:=(HB hh hX).mp q;have o:=hh _ m;have e:hP (W*Y+X)=((X:Int) - 1,(Y:Int) - 1):=by
   obtain⟨i,j,hi,hj,e⟩:=o;rw[e,dJ hi];unfold raw W at e;apply Prod.ext
   ·simp;omega
   ·simp;omega
  rw[<- e];exact vI hh (by rw[dI hh,fH hh (Nat.le_refl 64)];rfl) o
 ·rw[if_neg q,HC hh fun m=>q ((HB hh hX).mpr m)];rfl
theorem vL{h:List Nat}(hh:∀r∈h,okR r){r:Nat}(hr:r∈h):d5 h (hP r)=((gridOf h).val r:Int) - 1:=by unfold d5;rw[if_pos (List.mem_map.mpr ⟨r,hr,rfl⟩)];exact vI hh (by rw[dI hh,fH hh (Nat.le_refl 64)];rfl) (hh r hr)
noncomputable def dX(h:List Nat)(p:Pl):List Int:=[d5 h (p.1+-1,p.2+-1)+1,d5 h (p.1+0,p.2+-1)+1,d5 h (p.1+-1,p.2+0)+1,d5 h (p.1+0,p.2+0)+1]
theorem BR{h:List Nat}(hh:∀r∈h,okR r){X Y:Nat}(hX:X<=128):dX h ((X:Int),(Y:Int))=
  [((gridOf h).val (W*Y+X):Int),((gridOf h).val (W*Y+X+1):Int),((gridOf h).val (W*(Y+1)+X):Int),((gridOf h).val (W*(Y+1)+X+1):Int)]:=by
 have a:=nZ hh (X:=X) (Y:=Y) (by omega);have b:=nZ hh (X:=X+1) (Y:=Y) (by omega);have c:=nZ hh (X:=X) (Y:=Y+1) (by omega);have d:=nZ hh (X:=X+1) (Y:=Y+1) (by omega);have e1:(((X+1:Nat):Int) - 1)=(X:Int)+0:=by omega
 have e2:(((Y+1:Nat):Int) - 1)=(Y:Int)+0:=by omega
 rw[e1]at b d;rw[e2]at c d;have s1:(X:Int)+-1=(X:Int) - 1:=rfl;have s2:(Y:Int)+-1=(Y:Int) - 1:=rfl;unfold dX;simp only[s1,s2];rw[a,b,c,d];simp[Nat.add_assoc]
theorem AS{a b c d:Nat}{m:Int}(hm:m∈[(a:Int),(b:Int),(c:Int),(d:Int)])(hle:∀x∈[(a:Int),(b:Int),(c:Int),(d:Int)],m<=x):m=((min (min a b) (min c d):Nat):Int):=by have h1:=hle a (by simp);have h2:=hle b (by simp);have h3:=hle c (by simp);have h4:=hle d (by simp);simp at hm;omega
theorem EF{h:List Nat}(hh:∀r∈h,okR r){X Y:Nat}(hX:X<=128){m:Int}(hm:m∈dX h ((X:Int),(Y:Int)))(hle:∀x∈dX h ((X:Int),(Y:Int)),m<=x):m=(heightAt (gridOf h) X Y:Int):=by rw[BR hh hX]at hm hle;exact AS hm hle
abbrev T3:=Int×Int×Int
def tP(t:Nat):T3:=((iOf (t/4):Int),(jOf (t/4):Int),((t%4:Nat):Int))
theorem d4{h:List Nat}{t:Nat}:t∈trianglesOf h↔t/4∈h:=by
 unfold trianglesOf;rw[List.mem_flatMap];constructor
 ·rintro⟨r,hr,q⟩;simp at q;have:t/4=r:=by omega
  rw[this];exact hr
 ·intro q;refine⟨_,q,?_⟩;simp;omega
theorem KL{h:List Nat}(hh:∀r∈h,okR r){t u:Nat}(ht:t∈trianglesOf h)(hu:u∈trianglesOf h)(e:tP t=tP u):t=u:=by have a1:=congrArg (fun z=>z.1) e;have a2:=congrArg (fun z=>z.2.1) e;have a3:=congrArg (fun z=>z.2.2) e;simp[tP]at a1 a2 a3;have:t/4=u/4:=pM (hh _ (d4.mp ht)) (hh _ (d4.mp hu)) (by unfold hP;rw[show iOf (t/4)=iOf (u/4) by omega,show jOf (t/4)=jOf (u/4) by omega]);omega
noncomputable def aM(p:Pl)(c:Nat):Pl:=if c%4=0 then(p.1+0,p.2+0)else if c%4=1 then(p.1+1,p.2+0)else if c%4=2 then(p.1+1,p.2+1)else(p.1+0,p.2+1)
theorem mL(r c:Nat):aM (hP r) c=iP (cornerOf r c):=by
 unfold aM cornerOf hP iP;dsimp only;by_cases h0:c%4=0
 ·simp[h0]
 ·by_cases h1:c%4=1
  ·simp[h0,h1]
  ·by_cases h2:c%4=2
   ·simp[h0,h1,h2]
   ·simp[h0,h1,h2]
theorem EZ{r c:Nat}(hr:okR r):(cornerOf r c).1<=128/\(cornerOf r c).2<=128:=by
 obtain⟨i,j,hi,hj,rfl⟩:=hr;unfold cornerOf;rw[CL hi,CG hi];dsimp only;split
 ·simp;omega
 ·split
  ·simp;omega
  ·split
   ·simp;omega
   ·simp;omega
noncomputable def HK(s:Nat)(u v k:Int):Int:=if u=k/\v=k then s else if v=k then((s:Int)+1)%4 else if u=k then((s:Int)+3)%4 else((s:Int)+2)%4
theorem JS{g:Grid}{t:Nat}(hv:0<g.val (t/4)):HK (t%4) (heightOf g (t/4) (t%4):Int) (heightOf g (t/4) (t%4+1):Int) ((g.val (t/4):Int) - 1)=(facingOf g t:Int):=by
 unfold HK facingOf;dsimp only;generalize heightOf g (t/4) (t%4)=u;generalize heightOf g (t/4) (t%4+1)=v;generalize hk:g.val (t/4)=k at*;have ek:(k:Int) - 1=((k - 1:Nat):Int):=by omega
 rw[ek];generalize k - 1=m;have c1:((u:Int)=(m:Int))↔u=m:=by omega
 have c2:((v:Int)=(m:Int))↔v=m:=by omega
 simp only[c1,c2];by_cases h1:u=m<;>by_cases h2:v=m<;>simp[h1,h2]<;>omega
theorem vH{f:Nat->Nat}:∀(l:List Nat)(a:Array Nat),(l.foldl (fun(a:Array Nat)(t:Nat)=>a.setIfInBounds t (f t)) a).size=a.size
 |[],a=>rfl
 |t::l,a=>by rw[List.foldl_cons,vH l];simp
theorem t9{f:Nat->Nat}:∀(l:List Nat)(a:Array Nat)(t d:Nat),(∀x∈l,x<a.size)->(l.foldl (fun(a:Array Nat)(t:Nat)=>a.setIfInBounds t (f t)) a).getD t d=if t∈l then f t else a.getD t d
 |[],a,t,d,_=>by simp
 |x::l,a,t,d,h=>by
  rw[List.foldl_cons,t9 l _ t d fun y hy=>by simpa using h y (by simp[hy])];have hx:=h x (by simp);by_cases h1:t∈l
  ·simp[h1]
  ·rw[if_neg h1];by_cases h2:t=x
   ·subst h2;simp[Array.getD_eq_getD_getElem?,hx]
   ·have h3:¬t∈x::l:=by simp[h1,h2]
    rw[if_neg h3];simp only[Array.getD_eq_getD_getElem?,Array.getElem?_setIfInBounds];rw[if_neg (fun e=>h2 e.symm)]
theorem A4{h:List Nat}(hh:∀r∈h,okR r){t:Nat}(ht:t∈trianglesOf h):t<4*W*W:=by obtain⟨i,j,hi,hj,e⟩:=hh _ (d4.mp ht);unfold raw W at e;unfold W;omega
noncomputable def nV(h:List Nat):Array Nat:=(trianglesOf h).foldl (fun(a:Array Nat)(t:Nat)=>a.setIfInBounds t (facingOf (gridOf h) t)) (Array.replicate (4*W*W) 4)
noncomputable def wL(h:List Nat):Array Nat:=(trianglesOf h).foldl (fun(a:Array Nat)(t:Nat)=>a.setIfInBounds t NONE) (Array.replicate (4*W*W) 0)
theorem ES{h:List Nat}(hh:∀r∈h,okR r)(t:Nat):(nV h).getD t 4=if t∈trianglesOf h then facingOf (gridOf h) t else 4:=by
 unfold nV;rw[t9 _ _ _ _ fun x hx=>by simpa using A4 hh hx];have:(Array.replicate (4*W*W) 4).getD t 4=4:=by rw[Array.getD_eq_getD_getElem?,Array.getElem?_replicate];split<;>rfl
 rw[this]
theorem yP{h:List Nat}(hh:∀r∈h,okR r)(t:Nat):(wL h).getD t 0=if t∈trianglesOf h then NONE else 0:=by
 unfold wL;rw[t9 (f:=fun _=>NONE) _ _ _ _ fun x hx=>by simpa using A4 hh hx];have:(Array.replicate (4*W*W) 0).getD t 0=0:=by rw[Array.getD_eq_getD_getElem?,Array.getElem?_replicate];split<;>rfl
 rw[this]
theorem E9(h:List Nat):(wL h).size=4*W*W:=by unfold wL;rw[vH (f:=fun _=>NONE)];simp
end RM
namespace RM
open Roof
section
variable {α:Type}
inductive Rch (ok:α->Prop) (nb:α->List α) (U:α->Prop) (t0:α):α->Prop where
 |refl:Rch ok nb U t0 t0
 |step {x u:α}:Rch ok nb U t0 x->u∈nb x->ok u->¬U u->Rch ok nb U t0 u
structure gH(ok:α->Prop)(nb:α->List α)(U:α->Prop)(t0:α)(N W:List α):Prop where
 new:∀x∈N,Rch ok nb U t0 x
 wait:∀x∈W,ok x->¬U x->Rch ok nb U t0 x
 start:t0∈N\/t0∈W
 oR:∀x∈N,∀u∈nb x,ok u->¬U u->u∈N\/u∈W
variable {ok:α->Prop}{nb:α->List α}{U:α->Prop}{t0:α}
theorem gH.first:gH ok nb U t0 [] [t0]:=⟨by simp,by intro x hx _ _;simp at hx;subst hx;exact .refl,.inr (by simp),by simp⟩
theorem gH.skip{N W W':List α}{x:α}(h:gH ok nb U t0 N W)(o0:ok t0)(u0:¬U t0)(h1:∀y∈W',y∈W)(h2:∀y∈W,y∈W'\/y=x)(hx:¬ok x\/U x\/x∈N):gH ok nb U t0 N W':=by
 have drop:∀y,ok y->¬U y->(y∈N\/y∈W)->y∈N\/y∈W':=by
  intro y oy uy hy;rcases hy with hy|hy
  ·exact .inl hy
  ·rcases h2 y hy with hy|rfl
   ·exact .inr hy
   ·rcases hx with hx|hx|hx
    ·exact absurd oy hx
    ·exact absurd hx uy
    ·exact .inl hx
 exact⟨h.new,fun y hy=>h.wait y (h1 y hy),drop t0 o0 u0 h.start,fun y hy u hu ou uu=>drop u ou uu (h.oR y hy u hu ou uu)⟩
theorem gH.take{N W W':List α}{x:α}(h:gH ok nb U t0 N W)(hx:x∈W)(ox:ok x)(ux:¬U x)(h1:∀y∈W',y∈W\/y∈nb x)(h2:∀y∈W,y∈W'\/y=x)(h3:∀u∈nb x,ok u->¬U u->u∈W'):gH ok nb U t0 (x::N) W':=by
 have rx:=h.wait x hx ox ux;have move:∀y,(y∈N\/y∈W)->y∈x::N\/y∈W':=by
  intro y hy;rcases hy with hy|hy
  ·exact .inl (by simp[hy])
  ·rcases h2 y hy with hy|rfl
   ·exact .inr hy
   ·exact .inl (by simp)
 refine⟨?_,?_,move t0 h.start,?_⟩
 ·intro y hy;rcases List.mem_cons.mp hy with rfl|hy
  ·exact rx
  ·exact h.new y hy
 ·intro y hy oy uy;rcases h1 y hy with q|q
  ·exact h.wait y q oy uy
  ·exact .step rx q oy uy
 ·intro y hy u hu ou uu;rcases List.mem_cons.mp hy with rfl|hy
  ·exact .inr (h3 u hu ou uu)
  ·exact move u (h.oR y hy u hu ou uu)
theorem gH.done{N:List α}(h:gH ok nb U t0 N [])(x:α):x∈N↔Rch ok nb U t0 x:=by
 constructor
 ·exact h.new x
 ·intro r;induction r with
  |refl=>
       rcases h.start with q|q
       ·exact q
       ·simp at q
  |step _ hu ou uu ih=>
              rcases h.oR _ ih _ hu ou uu with q|q
              ·exact q
              ·simp at q
theorem Rch.ok'{x:α}(h:Rch ok nb U t0 x)(o0:ok t0)(u0:¬U t0):ok x/\¬U x:=by
 cases h with
 |refl=>exact⟨o0,u0⟩
 |step _ _ ou uu=>exact⟨ou,uu⟩
end
def okN(fac:Array Nat)(t0:Nat)(u:Nat):Prop:=fac.getD u 4=fac.getD t0 4
def isU(lab:Array Nat)(u:Nat):Prop:=lab.getD u 0≠NONE
theorem kM{fac labU:Array Nat}{n t0:Nat}{ts:List Nat}(hn:n≠NONE)(hts:∀u,¬isU labU u->u∈ts)(hsz:∀u∈ts,u<labU.size)(o0:¬isU labU t0):
  ∀(f:Nat)(stack N:List Nat)(lab:Array Nat),lab.size=labU.size->(∀t,lab.getD t 0=if t∈N then n else labU.getD t 0)->gH (okN fac t0) besideOf (isU labU) t0 N stack->N.Nodup->(∀x∈N,x∈ts/\¬isU labU x)->(∀x∈stack,okN fac t0 x) ->
   stack.length+3*(ts.length - N.length)<=f->∃N':List Nat,(∀t,(fill fac n f stack lab).getD t 0=if t∈N' then n else labU.getD t 0)/\(fill fac n f stack lab).size=labU.size/\∀x,x∈N'↔Rch (okN fac t0) besideOf (isU labU) t0 x
 |0,stack,N,lab,hs,hl,S,nd,hN,ho,hf=>by have:stack=[]:=List.length_eq_zero_iff.mp (by omega);subst this;exact⟨N,hl,hs,S.done⟩
 |f+1,[],N,lab,hs,hl,S,nd,hN,ho,hf=>⟨N,hl,hs,S.done⟩
 |f+1,t::r,N,lab,hs,hl,S,nd,hN,ho,hf=>by
  have eF:fill fac n (f+1) (t::r) lab=if lab.getD t 0≠NONE then fill fac n f r lab else fill fac n f (((besideOf t).filter fun(u:Nat)=>fac.getD u 4==fac.getD t 4)++r) (lab.setIfInBounds t n):=rfl
  rw[eF];by_cases hc:lab.getD t 0≠NONE
  ·rw[if_pos hc];refine kM hn hts hsz o0 f r N lab hs hl (S.skip (x:=t) rfl o0 (fun y hy=>by simp[hy]) (fun y hy=>by simp at hy;exact hy.symm) ?_) nd hN (fun x hx=>ho x (by simp[hx])) (by simp at hf;omega);rw[hl t]at hc;by_cases hm:t∈N
   ·exact .inr (.inr hm)
   ·rw[if_neg hm]at hc;exact .inr (.inl hc)
  ·rw[if_neg hc];have hc:lab.getD t 0=NONE:=Classical.byContradiction hc;have htN:t∉N:=by intro q;rw[hl t,if_pos q]at hc;exact hn hc
   have hU:¬isU labU t:=by rw[hl t,if_neg htN]at hc;exact fun q=>q hc
   have htt:t∈ts:=hts t hU;have hlt:t<lab.size:=by rw[hs];exact hsz t htt
   have okt:=ho t (by simp);have nd':(t::N).Nodup:=List.nodup_cons.mpr ⟨htN,nd⟩;have hN':∀x∈t::N,x∈ts/\¬isU labU x:=by
    intro x hx;rcases List.mem_cons.mp hx with rfl|hx
    ·exact⟨htt,hU⟩
    ·exact hN x hx
   have len:=bU nd' fun x hx=>(hN' x hx).1
   refine kM hn hts hsz o0 f _ (t::N) (lab.setIfInBounds t n) (by simpa using hs) (fun u=>?_) (S.take (x:=t) (by simp) okt hU ?_ ?_ ?_) nd' hN' ?_ ?_
   ·by_cases hu:u=t
    ·subst hu;simp[Array.getD_eq_getD_getElem?,hlt]
    ·have e:(lab.setIfInBounds t n).getD u 0=lab.getD u 0:=by simp only[Array.getD_eq_getD_getElem?,Array.getElem?_setIfInBounds];rw[if_neg (fun e=>hu e.symm)]
     rw[e,hl u];simp[hu]
   ·intro y hy;rcases List.mem_append.mp hy with hy|hy
    ·exact .inr (List.mem_filter.mp hy).1
    ·exact .inl (by simp[hy])
   ·intro y hy;simp at hy;rcases hy with rfl|hy
    ·exact .inr rfl
    ·exact .inl (by simp[hy])
   ·intro u hu ou uu;refine List.mem_append_left _ (List.mem_filter.mpr ⟨hu,?_⟩);have:fac.getD u 4=fac.getD t 4:=by have h1:fac.getD u 4=fac.getD t0 4:=ou;have h2:fac.getD t 4=fac.getD t0 4:=okt;rw[h1,h2]
    simp[this]
   ·intro x hx;rcases List.mem_append.mp hx with hx|hx
    ·have q:=(List.mem_filter.mp hx).2;have q:fac.getD x 4=fac.getD t 4:=by simpa using q
     have h2:fac.getD t 4=fac.getD t0 4:=okt;show fac.getD x 4=_
     rw[q,h2]
    ·exact ho x (by simp[hx])
   ·have:((besideOf t).filter fun(u:Nat)=>fac.getD u 4==fac.getD t 4).length<=3:=by refine Nat.le_trans (List.length_filter_le _ _) ?_;simp[besideOf]
    simp only[List.length_append,List.length_cons]at hf len ⊢;omega
theorem EM{fac labU:Array Nat}{n t0:Nat}{ts:List Nat}(hn:n≠NONE)(hts:∀u,¬isU labU u->u∈ts)(hsz:∀u∈ts,u<labU.size)(o0:¬isU labU t0):
  ∃N':List Nat,(∀t,(fill fac n (4*ts.length+4) [t0] labU).getD t 0=if t∈N' then n else labU.getD t 0)/\(fill fac n (4*ts.length+4) [t0] labU).size=labU.size/\∀x,x∈N'↔Rch (okN fac t0) besideOf (isU labU) t0 x:=
 kM hn hts hsz o0 _ [t0] [] labU rfl (fun t=>by simp) gH.first (by simp) (by simp) (by intro x hx;simp at hx;subst hx;rfl) (by simp;omega)
noncomputable def nbP(p:T3):List T3:=[(p.1,p.2.1,(p.2.2+1)%4),(p.1,p.2.1,(p.2.2+3)%4),((aO (p.1,p.2.1) p.2.2.toNat).1,(aO (p.1,p.2.1) p.2.2.toNat).2,(p.2.2+2)%4)]
theorem HV{h:List Nat}(hh:∀r∈h,okR r){r q s:Nat}(hr:okR r)(hq:okR q)(hs:s<4):hP q=aO (hP r) s↔q=beyond r s:=by
 obtain⟨i,j,hi,hj,rfl⟩:=hr;obtain⟨i',j',hi',hj',rfl⟩:=hq;rw[dJ hi,dJ hi'];have cs:s=0\/s=1\/s=2\/s=3:=by omega
 rcases cs with rfl|rfl|rfl|rfl<;>simp[aO,beyond,raw,W,Prod.ext_iff]<;>omega
theorem QV{h:List Nat}(hh:∀r∈h,okR r){t u:Nat}(ht:t∈trianglesOf h)(hu:u∈trianglesOf h):tP u∈nbP (tP t)↔u∈besideOf t:=by
 have okt:=hh _ (d4.mp ht);have oku:=hh _ (d4.mp hu);have hs:t%4<4:=by omega
 have B:=HV hh okt oku hs;have own:∀k:Nat,k<4->(tP u=((tP t).1,(tP t).2.1,(k:Int))↔u=4*(t/4)+k):=by
  intro k hk;constructor
  ·intro e;have a1:=congrArg (fun z=>z.1) e;have a2:=congrArg (fun z=>z.2.1) e;have a3:=congrArg (fun z=>z.2.2) e;simp[tP]at a1 a2 a3;have:u/4=t/4:=pM oku okt (by unfold hP;rw[show iOf (u/4)=iOf (t/4) by omega,show jOf (u/4)=jOf (t/4) by omega]);omega
  ·intro e;have e1:u/4=t/4:=by omega
   have e2:u%4=k:=by omega
   unfold tP;rw[e1,e2]
 have e1:((tP t).2.2+1)%4=(((t%4+1)%4:Nat):Int):=by simp[tP]
 have e3:((tP t).2.2+3)%4=(((t%4+3)%4:Nat):Int):=by simp[tP]
 have e2:((tP t).2.2+2)%4=(((t%4+2)%4:Nat):Int):=by simp[tP]
 have es:(tP t).2.2.toNat=t%4:=by simp only[tP];omega
 have eh:((tP t).1,(tP t).2.1)=hP (t/4):=rfl;unfold nbP besideOf;dsimp only;rw[e1,e3,e2,es,eh];simp only[List.mem_cons,List.not_mem_nil,or_false];rw[own _ (by omega),own _ (by omega)];have across:tP u=((aO (hP (t/4)) (t%4)).1,(aO (hP (t/4)) (t%4)).2,(((t%4+2)%4:Nat):Int))↔u=4*beyond (t/4) (t%4)+(t%4+2)%4:=by
  constructor
  ·intro e;have a1:=congrArg (fun z=>(z.1,z.2.1)) e;have a3:=congrArg (fun z=>z.2.2) e;have:hP (u/4)=aO (hP (t/4)) (t%4):=a1;have q:=B.mp this;simp[tP]at a3;omega
  ·intro e;have q:u/4=beyond (t/4) (t%4):=by omega
   have r:=B.mpr q;have:u%4=(t%4+2)%4:=by omega
   unfold tP;rw[this];have a:=congrArg Prod.fst r;have b:=congrArg Prod.snd r;unfold hP at a b;rw[show(iOf (u/4):Int)=_ from a,show(jOf (u/4):Int)=_ from b];rfl
 rw[across]
structure lB(h:List Nat)(num:T3->Option Int)(lab:Array Nat):Prop where
 ins:∀t∈trianglesOf h,num (tP t)=if lab.getD t 0=NONE then none else some (lab.getD t 0:Int)
 out:∀p,p∉ (trianglesOf h).map tP->num p=none
 lo:∀t,t∉trianglesOf h->lab.getD t 0≠NONE
 size:lab.size=4*W*W
def okT(fac:T3->Option Int)(p0 p:T3):Prop:=fac p=fac p0
def isN(num:T3->Option Int)(p:T3):Prop:=(num p).isSome=true
theorem FZ{h:List Nat}(hh:∀r∈h,okR r){fac:Array Nat}{facT num:T3->Option Int}{lab:Array Nat}(hf:∀t∈trianglesOf h,facT (tP t)=some (fac.getD t 4:Int))(hf0:∀p,p∉ (trianglesOf h).map tP->facT p=none)
  (R:lB h num lab) {t0:Nat} (h0:t0∈trianglesOf h):(∀t∈trianglesOf h,Rch (okT facT (tP t0)) nbP (isN num) (tP t0) (tP t)↔Rch (okN fac t0) besideOf (isU lab) t0 t)/\∀p,Rch (okT facT (tP t0)) nbP (isN num) (tP t0) p->p∈(trianglesOf h).map tP:=by
 have key:∀p,Rch (okT facT (tP t0)) nbP (isN num) (tP t0) p->∃t∈trianglesOf h,p=tP t/\Rch (okN fac t0) besideOf (isU lab) t0 t:=by
  intro p r;induction r with
  |refl=>exact⟨t0,h0,rfl,.refl⟩
  | @step x u _ hu ou uu ih=>
   obtain⟨t,ht,rfl,rt⟩:=ih;have hm:u∈(trianglesOf h).map tP:=by apply Classical.byContradiction;intro q;have h1:=hf0 u q;have h2:facT u=facT (tP t0):=ou;rw[h1,hf t0 h0]at h2;cases h2
   obtain⟨v,hv,rfl⟩:=List.mem_map.mp hm;refine⟨v,hv,rfl,.step rt ((QV hh ht hv).mp hu) ?_ ?_⟩
   ·have h2:facT (tP v)=facT (tP t0):=ou;rw[hf v hv,hf t0 h0]at h2;have:=Option.some.inj h2;show fac.getD v 4=fac.getD t0 4
    omega
   ·intro q;refine uu ?_;show(num (tP v)).isSome=true
    rw[R.ins v hv,if_neg q];rfl
 refine⟨fun t ht=>⟨fun r=>?_,fun r=>?_⟩,fun p r=>?_⟩
 ·obtain⟨v,hv,e,rv⟩:=key _ r;rw[KL hh ht hv e];exact rv
 ·have mem:∀x,Rch (okN fac t0) besideOf (isU lab) t0 x->x∈trianglesOf h/\Rch (okT facT (tP t0)) nbP (isN num) (tP t0) (tP x):=by
   intro x r;induction r with
   |refl=>exact⟨h0,.refl⟩
   | @step x u _ hu ou uu ih=>
    obtain⟨hx,rx⟩:=ih;have hu':u∈trianglesOf h:=by apply Classical.byContradiction;intro q;exact uu (R.lo u q)
    refine⟨hu',.step rx ((QV hh hx hu').mpr hu) ?_ ?_⟩
    ·show facT (tP u)=facT (tP t0)
     rw[hf u hu',hf t0 h0];have:fac.getD u 4=fac.getD t0 4:=ou;rw[this]
    ·intro q;have q:(num (tP u)).isSome=true:=q;rw[R.ins u hu']at q;by_cases e:lab.getD u 0=NONE
     ·rw[if_pos e]at q;cases q
     ·exact uu e
  exact(mem t r).2
 ·obtain⟨v,hv,e,_⟩:=key _ r;rw[e];exact List.mem_map.mpr ⟨v,hv,rfl⟩
theorem lB.face{h:List Nat}(hh:∀r∈h,okR r){fac:Array Nat}{facT num num':T3->Option Int}{lab:Array Nat}(hf:∀t∈trianglesOf h,facT (tP t)=some (fac.getD t 4:Int))(hf0:∀p,p∉ (trianglesOf h).map tP->facT p=none)
  (R:lB h num lab) {t0 n:Nat} (h0:t0∈trianglesOf h) (hn:n<NONE) (hl:lab.getD t0 0=NONE) {N:List T3} (hN:∀p,p∈N↔Rch (okT facT (tP t0)) nbP (isN num) (tP t0) p) (hnum:∀p,num' p=if p∈N then some (n:Int)else num p):
  lB h num' (fill fac n (4*(trianglesOf h).length+4) [t0] lab):=by
 obtain⟨S1,S2⟩:=FZ hh hf hf0 R h0;have hts:∀u,¬isU lab u->u∈trianglesOf h:=fun u q=>Classical.byContradiction fun z=>q (R.lo u z)
 obtain⟨N',f1,f2,f3⟩:=EM (fac:=fac) (labU:=lab) (n:=n) (t0:=t0) (ts:=trianglesOf h) (by omega) hts (fun u hu=>by rw[R.size];exact A4 hh hu) (fun q=>q hl);refine⟨fun t ht=>?_,fun p hp=>?_,fun t ht=>?_,by rw[f2,R.size]⟩
 ·have e:tP t∈N↔t∈N':=by rw[hN,f3,S1 t ht]
  rw[hnum,f1];by_cases q:t∈N'
  ·rw[if_pos (e.mpr q),if_pos q,if_neg (by omega)]
  ·rw[if_neg (fun z=>q (e.mp z)),if_neg q];exact R.ins t ht
 ·rw[hnum,if_neg (fun z=>hp (S2 p ((hN p).mp z)))];exact R.out p hp
 ·rw[f1];split
  ·omega
  ·exact R.lo t ht
theorem lB.start{h:List Nat}(hh:∀r∈h,okR r):lB h (fun _=>none) (wL h):=by
 refine⟨fun t ht=>?_,fun _ _=>rfl,fun t ht=>?_,E9 h⟩
 ·rw[yP hh,if_pos ht,if_pos rfl]
 ·rw[yP hh,if_neg ht];decide
end RM
namespace RM
open Roof
section
variable {κ β:Type} [DecidableEq κ]
noncomputable def aJ(l:List (κ×β))(k:κ):Option β:=(l.find? fun x=>decide (x.1=k)).map (·.2)
noncomputable def cV(l:List (κ×β))(k:κ)(v:β):List (κ×β):=
 if(l.any fun x=>decide (x.1=k))=true then l.map (fun x=>if x.1=k then(x.1,v)else x)else l++[(k,v)]
theorem j2{k:κ}:aJ ([]:List (κ×β)) k=none:=rfl
theorem bW{x:κ×β}{r:List (κ×β)}{k:κ}:aJ (x::r) k=if x.1=k then some x.2 else aJ r k:=by
 unfold aJ;by_cases e:x.1=k
 ·simp[e]
 ·simp[e]
theorem aS(k:κ):∀l:List (κ×β),(aJ l k).isSome=true↔k∈l.map (·.1)
 |[]=>by simp[j2]
 |x::r=>by
  rw[bW,List.map_cons,List.mem_cons];by_cases e:x.1=k
  ·rw[if_pos e];simp[e]
  ·rw[if_neg e,aS k r];constructor
   ·exact .inr
   ·rintro(h|h)
    ·exact absurd h.symm e
    ·exact h
theorem lU{l:List (κ×β)}{k:κ}:aJ l k=none↔k∉l.map (·.1):=by rw[<- aS];cases aJ l k<;>simp
theorem rE{l:List (κ×β)}{k:κ}:(l.any fun x=>decide (x.1=k))=true↔k∈l.map (·.1):=by simp[List.any_eq_true]
theorem fT{l:List (κ×β)}{k:κ}(v:β)(h:k∉l.map (·.1)):cV l k v=l++[(k,v)]:=by unfold cV;rw[if_neg (fun z=>h (rE.mp z))]
theorem uC{l:List (κ×β)}{k:κ}(v:β)(h:k∈l.map (·.1)):(cV l k v).map (·.1)=l.map (·.1):=by unfold cV;rw[if_pos (rE.mpr h),List.map_map];apply List.map_congr_left;intro x _;simp only[Function.comp];split<;>rfl
theorem vU{l:List (κ×β)}{k:κ}(v:β):(cV l k v).map (·.1)=if k∈l.map (·.1)then l.map (·.1)else l.map (·.1)++[k]:=by
 by_cases h:k∈l.map (·.1)
 ·rw[if_pos h,uC v h]
 ·rw[if_neg h,fT v h];simp
theorem jM{l:List (κ×β)}{k:κ}{v:β}(h:(l.map (·.1)).Nodup):((cV l k v).map (·.1)).Nodup:=by
 rw[vU];split
 ·exact h
 ·rename_i hk;rw[List.nodup_append];exact⟨h,by simp,fun a ha b hb e=>hk (by simp at hb;rw[<- hb,<- e];exact ha)⟩
theorem zQ(k j:κ)(y:β):∀l:List (κ×β),aJ (l.map fun x=>if x.1=k then(x.1,y)else x) j=if j=k then(aJ l j).map (fun _=>y)else aJ l j
 |[]=>by simp[j2]
 |x::r=>by
  rw[List.map_cons,bW,bW,zQ k j y r];by_cases e:x.1=k
  ·rw[if_pos e];by_cases e2:x.1=j
   ·rw[if_pos e2,if_pos e2,if_pos (e2▸e:j=k)];rfl
   ·rw[if_neg e2,if_neg e2]
  ·rw[if_neg e];by_cases e2:x.1=j
   ·rw[if_pos e2,if_neg (show¬j=k by intro z;exact e (e2.trans z)),if_pos e2]
   ·rw[if_neg e2,if_neg e2]
theorem vV(k j:κ)(y:β):∀l:List (κ×β),k∉l.map (·.1)->aJ (l++[(k,y)]) j=if j=k then some y else aJ l j
 |[],_=>by
  rw[List.nil_append,bW];by_cases e:j=k
  ·rw[if_pos e,if_pos e.symm]
  ·rw[if_neg e,if_neg (Ne.symm e)]
 |x::r,h=>by
  rw[List.cons_append,bW,bW,vV k j y r (fun z=>h (by rw[List.map_cons];exact List.mem_cons_of_mem _ z))];by_cases e2:x.1=j
  ·rw[if_pos e2,if_pos e2,if_neg];intro z;exact h (by rw[List.map_cons,List.mem_cons];exact .inl (by rw[e2,z]))
  ·rw[if_neg e2,if_neg e2]
theorem gU(l:List (κ×β))(k j:κ)(y:β):aJ (cV l k y) j=if j=k then some y else aJ l j:=by
 by_cases h:k∈l.map (·.1)
 ·unfold cV;rw[if_pos (rE.mpr h),zQ];by_cases e:j=k
  ·subst e;rw[if_pos rfl,if_pos rfl];have:=(aS j l).mpr h;cases q:aJ l j with
   |none=>rw[q]at this;cases this
   |some z=>rfl
  ·rw[if_neg e,if_neg e]
 ·rw[fT y h,vV k j y l h]
noncomputable def cK(l:List (κ×β))(ps:List (κ×β)):List (κ×β):=ps.foldl (fun a p=>cV a p.1 p.2) l
theorem qU:∀(ps l:List (κ×β)),(l.map (·.1)).Nodup->((cK l ps).map (·.1)).Nodup
 |[],_,h=>h
 |p::r,l,h=>qU r (cV l p.1 p.2) (jM h)
theorem x9(l a b:List (κ×β)):cK l (a++b)=cK (cK l a) b:=by simp[cK]
theorem l8(l:List (κ×β))(k:κ)(v:β):(cV l k v).length<=l.length+1:=by unfold cV;split<;>simp
theorem gG:∀(ps l:List (κ×β)),(cK l ps).length<=l.length+ps.length
 |[],l=>by simp[cK]
 |p::r,l=>by
  have h1:=gG r (cV l p.1 p.2);have h2:=l8 l p.1 p.2;show(cK (cV l p.1 p.2) r).length<=_
  simp only[List.length_cons];omega
theorem vW:∀(ps l:List (κ×β)),(∀p∈ps,∀q∈ps,p.1=q.1->p.2=q.2)->(∀p∈ps,∀v,aJ l p.1=some v->v=p.2)->∀k v,aJ (cK l ps) k=some v↔aJ l k=some v\/(k,v)∈ps
 |[],l,_,_=>by intro k v;simp[cK]
 |p::r,l,h,h2=>by
  intro k v;have hp:∀q∈r,∀v,aJ (cV l p.1 p.2) q.1=some v->v=q.2:=by
   intro q hq v e;rw[gU]at e;by_cases z:q.1=p.1
   ·rw[if_pos z]at e;cases e;exact h p (by simp) q (by simp[hq]) z.symm
   ·rw[if_neg z]at e;exact h2 q (by simp[hq]) v e
  show aJ (cK (cV l p.1 p.2) r) k=some v↔ _
  rw[vW r _ (fun a ha b hb=>h a (by simp[ha]) b (by simp[hb])) hp k v,gU];by_cases z:k=p.1
  ·rw[if_pos z];constructor
   ·rintro(e|e)
    ·cases e;exact .inr (by rw[z];simp)
    ·exact .inr (by simp[e])
   ·rintro(e|e)
    ·have:=h2 p (by simp) v (z▸e);exact .inl (by rw[this])
    ·rcases List.mem_cons.mp e with e|e
     ·rw[<- e];exact .inl rfl
     ·exact .inr e
  ·rw[if_neg z];constructor
   ·rintro(e|e)
    ·exact .inl e
    ·exact .inr (by simp[e])
   ·rintro(e|e)
    ·exact .inl e
    ·rcases List.mem_cons.mp e with e|e
     ·exact absurd (show k=p.1 by rw[<- e]) z
     ·exact .inr e
end
def hdg(d:Nat):Int:=((d:Int)+1)%4
noncomputable def eQ(cs:List Pl)(c:Pl):List (Pl×Int):=([0,1,2,3].filter fun(s:Nat)=>!decide (aO c s∈cs)).map fun s=>(aM c s,hdg s)
def fR(cs:List Pl):List (Pl×Int):=cs.flatMap (eQ cs)
def d9(cs:List Pl):List (Pl×Int):=cK [] (fR cs)
theorem tY{l:Cells}{p:Pl}{h:Int}:(p,h)∈fR (iW l)↔∃d,d<4/\aY l p.1 p.2 d=true/\h=hdg d:=by
 unfold fR eQ;rw[List.mem_flatMap];constructor
 ·rintro⟨c,hc,hm⟩;obtain⟨s,hs,e⟩:=List.mem_map.mp hm;rw[List.mem_filter]at hs;obtain⟨hs,hn⟩:=hs;obtain⟨x,y⟩:=c;have hc':inI l x y=true:=mD.mp hc;have cs:s=0\/s=1\/s=2\/s=3:=by simpa using hs
  have hn':inI l (aO (x,y) s).1 (aO (x,y) s).2=false:=by rw[<- jK];simpa using hn
  cases e;refine⟨s,by omega,?_,rfl⟩;rcases cs with rfl|rfl|rfl|rfl
  ·simp[aY,aM,ne,se,aO]at hn' ⊢;exact⟨hc',hn'⟩
  ·simp[aY,aM,ne,nw,aO]at hn' ⊢;exact⟨hc',hn'⟩
  ·simp[aY,aM,sw,nw,aO]at hn' ⊢;exact⟨hc',hn'⟩
  ·simp[aY,aM,se,sw,aO]at hn' ⊢;exact⟨hc',hn'⟩
 ·rintro⟨d,hd,w,rfl⟩;obtain⟨X,Y⟩:=p;have cd:d=0\/d=1\/d=2\/d=3:=by omega
  rcases cd with rfl|rfl|rfl|rfl
  ·simp[aY,ne,se]at w;refine⟨(X,Y),mD.mpr w.1,List.mem_map.mpr ⟨0,?_,by simp[aM]⟩⟩;rw[List.mem_filter];refine⟨by simp,?_⟩;show(!decide (((X,Y - 1):Pl)∈iW l))=true
   rw[jK,w.2];rfl
  ·simp[aY,nw,ne]at w;refine⟨(X - 1,Y),mD.mpr w.1,List.mem_map.mpr ⟨1,?_,?_⟩⟩
   ·rw[List.mem_filter];refine⟨by simp,?_⟩;show(!decide (((X - 1+1,Y):Pl)∈iW l))=true
    rw[jK,show X - 1+1=X by omega,w.2];rfl
   ·simp[aM]
  ·simp[aY,sw,nw]at w;refine⟨(X - 1,Y - 1),mD.mpr w.1,List.mem_map.mpr ⟨2,?_,?_⟩⟩
   ·rw[List.mem_filter];refine⟨by simp,?_⟩;show(!decide (((X - 1,Y - 1+1):Pl)∈iW l))=true
    rw[jK,show Y - 1+1=Y by omega,w.2];rfl
   ·simp[aM]
  ·simp[aY,se,sw]at w;refine⟨(X,Y - 1),mD.mpr w.1,List.mem_map.mpr ⟨3,?_,?_⟩⟩
   ·rw[List.mem_filter];refine⟨by simp,?_⟩;show(!decide (((X - 1,Y - 1):Pl)∈iW l))=true
    rw[jK,w.2];rfl
   ·simp[aM]
theorem JM{d e:Nat}(hd:d<4)(he:e<4)(h:hdg d=hdg e):d=e:=by unfold hdg at h;omega
theorem FD{l:Cells}{X Y:Int}{d:Nat}(hd:d<4)(h:aY l X Y d=true):0<=X/\0<=Y:=by
 have cd:d=0\/d=1\/d=2\/d=3:=by omega
 rcases cd with rfl|rfl|rfl|rfl
 ·simp[aY,ne]at h;have:=bR h.1;omega
 ·simp[aY,nw]at h;have:=bR h.1;omega
 ·simp[aY,sw]at h;have:=bR h.1;omega
 ·simp[aY,se]at h;have:=bR h.1;omega
theorem jF{l:Cells}(hp:pinched l=false){p:Pl}{h:Int}:(p,h)∈fR (iW l)↔∃q d,p=iP q/\outOf l q=some d/\h=hdg d:=by
 rw[tY];constructor
 ·rintro⟨d,hd,w,rfl⟩;obtain⟨X,Y⟩:=p;have:=FD hd w;refine⟨(X.toNat,Y.toNat),d,?_,yD hp hd ?_,rfl⟩
  ·simp[iP];omega
  ·rw[eS];simp only;rw[show((X.toNat:Nat):Int)=X by omega,show((Y.toNat:Nat):Int)=Y by omega];exact w
 ·rintro⟨q,d,rfl,ho,rfl⟩;obtain⟨hd,w⟩:=bD ho;rw[eS]at w;exact⟨d,hd,w,rfl⟩
theorem pK{l:Cells}(hp:pinched l=false)(p:Pl)(h:Int):aJ (d9 (iW l)) p=some h↔∃q d,p=iP q/\outOf l q=some d/\h=hdg d:=by
 unfold d9;rw[vW _ _ ?_ (by intro p _ v e;cases e) p h,jF hp]
 ·simp[j2]
 ·intro a ha b hb e;obtain⟨q,d,e1,o1,e2⟩:=(jF hp).mp ha;obtain⟨q',d',e1',o1',e2'⟩:=(jF hp).mp hb;have:q=q':=fX (by rw[<- e1,<- e1',e]);subst this;rw[o1]at o1';cases o1';rw[e2,e2']
theorem z4(cs:List Pl):((d9 cs).map (·.1)).Nodup:=qU _ _ (by simp)
theorem pJ{l:Cells}(hp:pinched l=false)(p:Pl):p∈(d9 (iW l)).map (·.1)↔∃q d,p=iP q/\outOf l q=some d:=by
 rw[<- aS];constructor
 ·intro h;cases e:aJ (d9 (iW l)) p with
  |none=>rw[e]at h;cases h
  |some v=>obtain⟨q,d,h1,h2,_⟩:=(pK hp p v).mp e;exact⟨q,d,h1,h2⟩
 ·rintro⟨q,d,h1,h2⟩;rw[(pK hp p (hdg d)).mpr ⟨q,d,h1,h2,rfl⟩];rfl
theorem qX(cs:List Pl):(fR cs).length<=4*cs.length:=by
 unfold fR;have:∀(l:List Pl),(l.flatMap (eQ cs)).length<=4*l.length:=by
  intro l;induction l with
  |nil=>simp
  |cons c r ih=>
   rw[List.flatMap_cons,List.length_append,List.length_cons];have:(eQ cs c).length<=4:=by unfold eQ;rw[List.length_map];exact Nat.le_trans (List.length_filter_le _ _) (by simp)
   omega
 exact this cs
theorem nN(cs:List Pl):(d9 cs).length<=4*cs.length:=by have h1:=gG (fR cs) [];have h2:=qX cs;unfold d9;simp at h1;omega
inductive mB (hd:Pl->Option Int):Pl->List (Pl×Int)->Pl->Prop where
 |nil (p:Pl):mB hd p [] p
 |cons {p q:Pl}{h:Int}{r:List (Pl×Int)}:hd p=some h->0<=h->h<4->mB hd (aO p h.toNat) r q->mB hd p ((p,h)::r) q
noncomputable def bN:Option Int->List (Pl×Int)->List Pl
 |_,[]=>[]
 |came,(p,h)::r=>if some h=came then bN (some h) r else p::bN (some h) r
def iF(x:Foot):Pl×Int:=(iP x.1,hdg x.2)
theorem FQ{l:Cells}{p:Point}{d:Nat}(h:outOf l p=some d):aO (iP p) (hdg d).toNat=iP (stepped p d):=by
 obtain⟨hd,_⟩:=bD h;obtain⟨b2,b3⟩:=j8 h;have cd:d=0\/d=1\/d=2\/d=3:=by omega
 rcases cd with rfl|rfl|rfl|rfl
 ·simp[aO,hdg,iP,stepped]
 ·simp[aO,hdg,iP,stepped]
 ·simp[aO,hdg,iP,stepped];have:=b2 rfl;omega
 ·simp[aO,hdg,iP,stepped];have:=b3 rfl;omega
theorem FA{l:Cells}(hp:pinched l=false){p q:Point}{f:List Foot}(h:Way l p f q):mB (aJ (d9 (iW l))) (iP p) (f.map iF) (iP q):=by
 induction h with
 |nil p=>exact .nil _
 | @cons p q d r ho _ ih=>
  rw[List.map_cons];refine .cons ((pK hp _ _).mpr ⟨p,d,rfl,ho,rfl⟩) ?_ ?_ ?_
  ·unfold hdg;omega
  ·unfold hdg;omega
  ·rw[FQ ho];exact ih
theorem m8:∀(r:List Foot)(d:Nat),d<4->(∀x∈r,x.2<4)->bN (some (hdg d)) (r.map iF)=iW (turns d r)
 |[],d,_,_=>rfl
 |x::r,d,hd,hr=>by
  have hx:=hr x (by simp);rw[List.map_cons];show(if some (hdg x.2)=some (hdg d)then bN (some (hdg x.2)) (r.map iF)else iP x.1::bN (some (hdg x.2)) (r.map iF))=iW (if x.2=d then turns x.2 r else x.1::turns x.2 r)
  rw[m8 r x.2 hx (fun y hy=>hr y (by simp[hy]))];by_cases e:x.2=d
  ·rw[if_pos (by rw[e]),if_pos e]
  ·rw[if_neg (fun z=>e (JM hx hd (Option.some.inj z))),if_neg e];rfl
def c7(l:Cells):List Point:=(pointsOf l).filter fun p=>(outOf l p).isSome
theorem dO(l:Cells):∀(pts seen:List Point),walksFrom l seen pts=walksFrom l seen (pts.filter fun p=>(outOf l p).isSome)
 |[],seen=>rfl
 |p::r,seen=>by
  cases ho:outOf l p with
  |none=>
   rw[List.filter_cons_of_neg (by simp[ho])];have e:walksFrom l seen (p::r)=walksFrom l seen r:=by
    show(if seen.contains p=true then _ else match outOf l p with|none=>_|some d=>_)=_
    rw[ho];split<;>rfl
   rw[e];exact dO l r seen
  |some d=>
   rw[List.filter_cons_of_pos (by simp[ho])];show(if seen.contains p=true then _ else match outOf l p with|none=>_|some d=>_)=(if seen.contains p=true then _ else match outOf l p with|none=>_|some d=>_)
   rw[ho,dO l r seen];dsimp only;rw[dO l r (seen++List.map (fun x=>x.fst) (follow l p (4*List.length l+4) p d))]
theorem fB.starts(l:Cells):fB l [] (c7 l):=by
 have g:=fB.start l;refine⟨g.oR,fun q d h=>?_,?_⟩
 ·rcases g.all q d h with z|z
  ·exact .inl z
  ·exact .inr (List.mem_filter.mpr ⟨z,by simp[h]⟩)
 ·exact g.row.sublist (List.filter_sublist ..)
theorem zP{a b:Point}(h:before a b=true):C0 (iP a) (iP b):=by rw[cP]at h;unfold C0 iP;simp only;omega
theorem xQ{a b:Pl}(h:C0 a b):g8 a b:=by unfold C0 at h;unfold g8;omega
theorem xY{xs ys:List Pl}(hp:xs.Perm ys)(h1:xs.Pairwise g8)(h2:ys.Pairwise g8):xs=ys:=
 hp.eq_of_pairwise (fun _ _ _ _ a b=>rV a b) h1 h2
theorem tS{l:Cells}(hp:pinched l=false){ys:List Pl}(h:ys.Perm ((d9 (iW l)).map (·.1)))(hs:ys.Pairwise g8):ys=iW (c7 l):=by
 have hr:(iW (c7 l)).Pairwise g8:=by unfold iW;rw[List.pairwise_map];exact(fB.starts l).row.imp fun h=>xQ (zP h)
 refine xY (h.trans ?_) hs hr;refine(List.perm_ext_iff_of_nodup (z4 _) ?_).mpr fun p=>?_
 ·unfold iW;exact d8 (w9 (fB.starts l).row) fun x _ y _ e=>fX e
 ·rw[pJ hp];constructor
  ·rintro⟨q,d,rfl,ho⟩;exact gQ.mpr (List.mem_filter.mpr ⟨gL ho,by simp[ho]⟩)
  ·intro hm;obtain⟨q,hq,rfl⟩:=List.mem_map.mp hm;have:=(List.mem_filter.mp hq).2;cases e:outOf l q with
   |none=>rw[e]at this;cases this
   |some d=>exact⟨q,d,rfl,e⟩
theorem FG{l:Cells}(hp:pinched l=false){seen r:List Point}{p:Point}{d:Nat}(g:fB l seen (p::r))(hs:p∉seen)(ho:outOf l p=some d):
  ∃f:List Foot,mB (aJ (d9 (iW l))) (iP p) (f.map iF) (iP p)/\f≠[]/\((f.map iF).map (·.1)).Nodup/\(∀y∈f.map (·.1),y∉seen)/\fB l (seen++f.map (·.1)) r/\
   walksFrom l seen (p::r)=cornersOf f::walksFrom l (seen++f.map (·.1)) r/\iW (cornersOf f)=bN none (f.map iF):=by
 obtain⟨R,fr,⟨r',er,ec⟩,ew,g2⟩:=g.step hp hs ho rfl;refine⟨_,FA hp R.way,R.ne,?_,fr,g2,?_,?_⟩
 ·have e:((follow l p (4*l.length+4) p d).map iF).map (·.1)=iW ((follow l p (4*l.length+4) p d).map (·.1)):=by simp[iW,iF,Function.comp_def]
  rw[e];exact d8 R.nd fun x _ y _ e=>fX e
 ·show(if seen.contains p=true then _ else match outOf l p with|none=>_|some d=>_)=_
  rw[if_neg (by simpa using hs),ho]
 ·rw[ec,er,List.map_cons];show iP p::iW (turns d r')=(if some (hdg d)=none then _ else iP p::bN (some (hdg d)) (r'.map iF))
  rw[if_neg (by simp),m8 r' d (bD ho).1];intro x hx;have:=R.way.out x (by rw[er];simp[hx]);exact(bD this).1
end RM
namespace RM
open Roof
noncomputable def aE:Nat->List (List T3)->List (T3×Int)
 |_,[]=>[]
 |k,N::r=>N.map (fun p=>(p,(k:Int)))++aE (k+1) r
theorem jQ:∀(a b:List (List T3))(k:Nat),aE k (a++b)=aE k a++aE (k+a.length) b
 |[],b,k=>by simp[aE]
 |N::a,b,k=>by
  rw[List.cons_append];show N.map (fun p=>(p,(k:Int)))++aE (k+1) (a++b)=(N.map (fun p=>(p,(k:Int)))++aE (k+1) a)++aE (k+(a.length+1)) b
  rw[jQ a b (k+1),List.append_assoc,show k+1+a.length=k+(a.length+1) by omega]
theorem bC:∀(Ns:List (List T3))(k:Nat),(aE k Ns).map (·.1)=Ns.flatten
 |[],k=>rfl
 |N::r,k=>by
  show(N.map (fun p=>(p,(k:Int)))++aE (k+1) r).map (·.1)=N++r.flatten
  rw[List.map_append,bC r (k+1),List.map_map];congr 1;simp[Function.comp_def]
theorem l9{κ β:Type}[DecidableEq κ](k:κ)(b:List (κ×β)):∀a:List (κ×β),aJ (a++b) k=if k∈a.map (·.1)then aJ a k else aJ b k
 |[]=>by simp
 |x::a=>by
  rw[List.cons_append,bW,bW,l9 k b a,List.map_cons];by_cases e:x.1=k
  ·rw[if_pos e,if_pos e,if_pos (by rw[List.mem_cons];exact .inl e.symm)]
  ·rw[if_neg e,if_neg e];by_cases h:k∈a.map (·.1)
   ·rw[if_pos h,if_pos (List.mem_cons_of_mem _ h)]
   ·rw[if_neg h,if_neg (by rw[List.mem_cons];rintro(z|z);exact e z.symm;exact h z)]
theorem pU{κ β:Type}[DecidableEq κ](v:β)(k:κ):∀N:List κ,aJ (N.map fun p=>(p,v)) k=if k∈N then some v else none
 |[]=>by simp[j2]
 |x::N=>by
  rw[List.map_cons,bW,pU v k N];by_cases e:x=k
  ·rw[if_pos e,if_pos (by simp[e])]
  ·rw[if_neg e];by_cases h:k∈N
   ·rw[if_pos h,if_pos (List.mem_cons_of_mem _ h)]
   ·rw[if_neg h,if_neg (by rw[List.mem_cons];rintro(z|z);exact e z.symm;exact h z)]
theorem iT(Ns:List (List T3))(N:List T3):aE 0 (Ns++[N])=aE 0 Ns++N.map (fun p=>(p,(Ns.length:Int))):=by rw[jQ];simp[aE]
theorem nF{Ns:List (List T3)}{N:List T3}(hd:∀p∈N,p∉Ns.flatten)(p:T3):aJ (aE 0 (Ns++[N])) p=if p∈N then some (Ns.length:Int)else aJ (aE 0 Ns) p:=by
 rw[iT,l9,pU,bC];by_cases h:p∈Ns.flatten
 ·rw[if_pos h,if_neg (fun z=>hd p z h)]
 ·rw[if_neg h];split
  ·rfl
  ·exact(lU.mpr (by rw[bC];exact h)).symm
theorem rB:∀(Ns:List (List T3))(j:Nat)(p:T3)(k:Int),Ns.flatten.Nodup->(aJ (aE j Ns) p=some k↔∃i N,Ns[i]? =some N/\p∈N/\k=((j+i:Nat):Int))
 |[],j,p,k,_=>by simp[aE,j2]
 |N::r,j,p,k,hn=>by
  rw[List.flatten_cons,List.nodup_append]at hn;show aJ (N.map (fun p=>(p,(j:Int)))++aE (j+1) r) p=some k↔ _
  rw[l9,pU];have e:(N.map fun p=>(p,(j:Int))).map (·.1)=N:=by simp[Function.comp_def]
  rw[e];by_cases h:p∈N
  ·rw[if_pos h,if_pos h];constructor
   ·intro q;cases q;exact⟨0,N,rfl,h,by simp⟩
   ·rintro⟨i,M,hi,hm,rfl⟩;cases i with
    |zero=>cases hi;simp
    |succ i=>exfalso;rw[List.getElem?_cons_succ]at hi;exact hn.2.2 p h p (List.mem_flatten.mpr ⟨M,List.mem_of_getElem? hi,hm⟩) rfl
  ·rw[if_neg h,rB r (j+1) p k hn.2.1];constructor
   ·rintro⟨i,M,hi,hm,rfl⟩;exact⟨i+1,M,by rw[List.getElem?_cons_succ];exact hi,hm,by congr 1;omega⟩
   ·rintro⟨i,M,hi,hm,rfl⟩;cases i with
    |zero=>cases hi;exact absurd hm h
    |succ i=>rw[List.getElem?_cons_succ]at hi;exact⟨i,M,hi,hm,by congr 1;omega⟩
structure lA(h:List Nat)(Ns:List (List T3))(lab:Array Nat):Prop where
 rel:lB h (aJ (aE 0 Ns)) lab
 nd:Ns.flatten.Nodup
 ne:∀N∈Ns,N≠[]
theorem lA.sub{h:List Nat}{Ns:List (List T3)}{lab:Array Nat}(R:lA h Ns lab):∀p∈Ns.flatten,p∈(trianglesOf h).map tP:=by intro p hp;apply Classical.byContradiction;intro q;have:=R.rel.out p q;rw[lU,bC]at this;exact this hp
theorem kL{α:Type}:∀{Ns:List (List α)},(∀N∈Ns,N≠[])->Ns.length<=Ns.flatten.length
 |[],_=>by simp
 |N::r,h=>by
  have h1:=kL (Ns:=r) fun M hM=>h M (by simp[hM])
  have h2:0<N.length:=List.length_pos_iff.mpr (h N (by simp));simp only[List.length_cons,List.flatten_cons,List.length_append];omega
theorem lA.few{h:List Nat}{Ns:List (List T3)}{lab:Array Nat}(R:lA h Ns lab):Ns.length<=(trianglesOf h).length:=by have h1:=kL R.ne;have h2:=bU R.nd R.sub;rw[List.length_map]at h2;omega
theorem lA.start{h:List Nat}(hh:∀r∈h,okR r):lA h [] (wL h):=⟨lB.start hh,by simp,by simp⟩
theorem lA.face{h:List Nat}(hh:∀r∈h,okR r){fac:Array Nat}{facT:T3->Option Int}{lab:Array Nat}{Ns:List (List T3)}(hf:∀t∈trianglesOf h,facT (tP t)=some (fac.getD t 4:Int))(hf0:∀p,p∉ (trianglesOf h).map tP->facT p=none)
  (hlen:(trianglesOf h).length<NONE) (R:lA h Ns lab) {t0:Nat} (h0:t0∈trianglesOf h) (hl:aJ (aE 0 Ns) (tP t0)=none) {N:List T3} (hN:∀p,p∈N↔Rch (okT facT (tP t0)) nbP (isN (aJ (aE 0 Ns))) (tP t0) p) (hnd:N.Nodup):
  lab.getD t0 0=NONE/\lA h (Ns++[N]) (fill fac Ns.length (4*(trianglesOf h).length+4) [t0] lab):=by
 have hl':lab.getD t0 0=NONE:=by have:=R.rel.ins t0 h0;rw[hl]at this;apply Classical.byContradiction;intro q;rw[if_neg q]at this;cases this
 have u0:¬isN (aJ (aE 0 Ns)) (tP t0):=by intro q;have q:(aJ (aE 0 Ns) (tP t0)).isSome=true:=q;rw[hl]at q;cases q
 have hd:∀p∈N,p∉Ns.flatten:=by
  intro p hp hm;have:=(((hN p).mp hp).ok' rfl u0).2;refine this ?_;show(aJ (aE 0 Ns) p).isSome=true
  rw[aS,bC];exact hm
 refine⟨hl',?_,?_,?_⟩
 ·exact R.rel.face hh hf hf0 h0 (Nat.lt_of_le_of_lt R.few hlen) hl' hN (nF hd)
 ·rw[List.flatten_append,List.nodup_append];refine⟨R.nd,by simpa using hnd,?_⟩;intro a ha b hb e;have hb':b∈N:=by simpa using hb
  exact hd b hb' (e▸ha)
 ·intro M hM;rcases List.mem_append.mp hM with hM|hM
  ·exact R.ne M hM
  ·have:M=N:=by simpa using hM
   subst this;intro e;have:tP t0∈M:=(hN _).mpr .refl;rw[e]at this;cases this
structure Numbering(h:List Nat)(i:Nat)(Ns:List (List T3)):Prop where
 ex:∃(lab:Array Nat)(firsts:List Nat),lA h Ns lab/\firsts.length=Ns.length/\
  facesFrom (nV h) (4*(trianglesOf h).length+4) (trianglesOf h) 0 [] (wL h)=facesFrom (nV h) (4*(trianglesOf h).length+4) ((trianglesOf h).drop i) Ns.length firsts lab
 done:(∀t∈(trianglesOf h).take i,(aJ (aE 0 Ns) (tP t)).isSome=true)/\(∀j,j<Ns.length->∃n t,n<i/\(trianglesOf h)[n]? =some t/\aJ (aE 0 Ns) (tP t)=some (j:Int))/\
  ∀(n t k:Nat),n<i->(trianglesOf h)[n]? =some t->aJ (aE 0 Ns) (tP t)=some (k:Int)->∀j,j<k->∃m u,m<n/\(trianglesOf h)[m]? =some u/\aJ (aE 0 Ns) (tP u)=some (j:Int)
theorem Numbering.start{h:List Nat}(hh:∀r∈h,okR r):Numbering h 0 []:=⟨⟨wL h,[],lA.start hh,rfl,rfl⟩,by simp,fun j hj=>by simp at hj,fun n t k hn=>by omega⟩
theorem drop_cons{α:Type}{l:List α}{i:Nat}{t:α}(h:l[i]? =some t):l.drop i=t::l.drop (i+1):=by obtain⟨hi,e⟩:=List.getElem?_eq_some_iff.mp h;rw[List.drop_eq_getElem_cons hi,e]
theorem take_snoc{α:Type}{l:List α}{i:Nat}{t:α}(h:l[i]? =some t):l.take (i+1)=l.take i++[t]:=by rw[List.take_add_one,h];rfl
theorem Numbering.skip{h:List Nat}{i:Nat}{Ns:List (List T3)}(R:Numbering h i Ns){t:Nat}(ht:(trianglesOf h)[i]? =some t)(hs:(aJ (aE 0 Ns) (tP t)).isSome=true):Numbering h (i+1) Ns:=by
 obtain⟨⟨lab,firsts,O,hl,e⟩,dn⟩:=R;have hm:t∈trianglesOf h:=List.mem_of_getElem? ht;have q:lab.getD t 0≠NONE:=by intro q;have:=O.rel.ins t hm;rw[if_pos q]at this;rw[this]at hs;cases hs
 refine⟨⟨lab,firsts,O,hl,?_⟩,fun u hu=>?_,fun j hj=>?_,fun n u k hn hu hk j hj=>?_⟩
 ·rw[e,drop_cons ht];show(if lab.getD t 0≠NONE then _ else _)=_
  rw[if_pos q]
 ·rw[take_snoc ht]at hu;rcases List.mem_append.mp hu with hu|hu
  ·exact dn.1 u hu
  ·have:u=t:=by simpa using hu
   subst this;exact hs
 ·obtain⟨n,u,a1,a2⟩:=dn.2.1 j hj;exact⟨n,u,by omega,a2⟩
 ·by_cases c:n<i
  ·exact dn.2.2 n u k c hu hk j hj
  ·have:n=i:=by omega
   subst this;obtain⟨m,N,b1,_,b3⟩:=(rB Ns 0 _ _ O.nd).mp hk;have:=(List.getElem?_eq_some_iff.mp b1).1;exact dn.2.1 j (by omega)
theorem Numbering.face{h:List Nat}(hh:∀r∈h,okR r){facT:T3->Option Int}(hf:∀t∈trianglesOf h,facT (tP t)=some ((nV h).getD t 4:Int))(hf0:∀p,p∉ (trianglesOf h).map tP->facT p=none)
  (hlen:(trianglesOf h).length<NONE) {i:Nat}{Ns:List (List T3)} (R:Numbering h i Ns) {t:Nat} (ht:(trianglesOf h)[i]? =some t) (hl:aJ (aE 0 Ns) (tP t)=none)
  {N:List T3} (hN:∀p,p∈N↔Rch (okT facT (tP t)) nbP (isN (aJ (aE 0 Ns))) (tP t) p) (hnd:N.Nodup):Numbering h (i+1) (Ns++[N]):=by
 obtain⟨⟨lab,firsts,O,hl2,e⟩,dn⟩:=R;have hm:t∈trianglesOf h:=List.mem_of_getElem? ht;obtain⟨q,O2⟩:=O.face hh hf hf0 hlen hm hl hN hnd;have grow:∀p,(aJ (aE 0 Ns) p).isSome=true->(aJ (aE 0 (Ns++[N])) p).isSome=true:=by intro p hp;rw[aS,bC]at hp ⊢;rw[List.flatten_append];exact List.mem_append_left _ hp
 have hd:∀p∈N,p∉Ns.flatten:=fun p hp hm=>by have z:=O2.nd;rw[List.flatten_append,List.nodup_append]at z;exact z.2.2 p hm p (by simpa using hp) rfl
 have old:∀p (k:Nat),aJ (aE 0 Ns) p=some (k:Int)->aJ (aE 0 (Ns++[N])) p=some (k:Int):=fun p k hk=>by
  rw[nF hd,if_neg]
  ·exact hk
  ·intro hp;refine hd p hp ?_;rw[<- bC Ns 0,<- aS,hk];rfl
 have htN:tP t∈N:=(hN _).mpr .refl;have new:aJ (aE 0 (Ns++[N])) (tP t)=some (Ns.length:Int):=by rw[nF hd,if_pos htN]
 refine⟨⟨_,t::firsts,O2,by simp[hl2],?_⟩,fun u hu=>?_,fun j hj=>?_,fun n u k hn hu hk j hj=>?_⟩
 rotate_left 2
 ·by_cases c:j<Ns.length
  ·obtain⟨n,u,a1,a2,a3⟩:=dn.2.1 j c;exact⟨n,u,by omega,a2,old _ _ a3⟩
  ·have:j=Ns.length:=by simp at hj;omega
   subst this;exact⟨i,t,by omega,ht,new⟩
 ·by_cases c:n<i
  ·have hs:=dn.1 u (List.mem_of_getElem? (l:=(trianglesOf h).take i) (i:=n) (by rw[List.getElem?_take_of_lt c];exact hu));have hk2:aJ (aE 0 Ns) (tP u)=some (k:Int):=by
    rw[nF hd,if_neg]at hk
    ·exact hk
    ·intro hp;refine hd _ hp ?_;rw[<- bC Ns 0,<- aS];exact hs
   obtain⟨m,v,a1,a2,a3⟩:=dn.2.2 n u k c hu hk2 j hj;exact⟨m,v,a1,a2,old _ _ a3⟩
  ·have:n=i:=by omega
   subst this;rw[ht]at hu;cases hu;rw[new]at hk;have:(Ns.length:Int)=(k:Int):=Option.some.inj hk;obtain⟨m,v,a1,a2,a3⟩:=dn.2.1 j (by omega);exact⟨m,v,a1,a2,old _ _ a3⟩
 ·rw[e,drop_cons ht];show(if lab.getD t 0≠NONE then _ else facesFrom _ _ _ (Ns.length+1) (t::firsts) (fill _ _ _ [t] lab))=_
  rw[if_neg (by simpa using q),List.length_append];rfl
 ·rw[take_snoc ht]at hu;rcases List.mem_append.mp hu with hu|hu
  ·exact grow _ (dn.1 u hu)
  ·have:u=t:=by simpa using hu
   subst this;rw[aS,bC,List.flatten_append];refine List.mem_append_right _ ?_;have:tP u∈N:=(hN _).mpr .refl;simpa using this
theorem Numbering.all{l:Cells}{Ns:List (List T3)}{i:Nat}(R:Numbering (halvesOf l) i Ns)(hi:(trianglesOf (halvesOf l)).length<=i):
  (∀t∈(topOf l).tris,aJ (aE 0 Ns) (tP t)=some ((topOf l).face t:Int))/\(topOf l).firsts.length=Ns.length/\(∀p,p∉ (topOf l).tris.map tP->aJ (aE 0 Ns) p=none)/\Ns.flatten.Nodup/\∀N∈Ns,N≠[]:=by
 obtain⟨⟨lab,firsts,O,hl,e⟩,dn⟩:=R;rw[List.drop_eq_nil_of_le hi]at e;have e1:facesFrom (nV (halvesOf l)) (4*(trianglesOf (halvesOf l)).length+4) (trianglesOf (halvesOf l)) 0 [] (wL (halvesOf l))=(lab,firsts.reverse):=e;have eT:(topOf l).lab=lab:=congrArg Prod.fst e1;have eF:(topOf l).firsts=firsts.reverse:=congrArg Prod.snd e1;refine⟨fun t ht=>?_,by rw[eF,List.length_reverse,hl],fun p hp=>O.rel.out p hp,O.nd,O.ne⟩;have hs:=dn.1 t (by rw[List.take_of_length_le hi];exact ht);have:=O.rel.ins t ht;rw[this]at hs ⊢;by_cases q:lab.getD t 0=NONE
 ·rw[if_pos q]at hs;cases hs
 ·rw[if_neg q];show _=some (((topOf l).lab.getD t 0:Nat):Int)
  rw[eT]
end RM
namespace RM
open Roof
noncomputable def fO(hs:List Pl):List T3:=hs.flatMap fun p=>[(p.1,p.2,0),(p.1,p.2,1),(p.1,p.2,2),(p.1,p.2,3)]
theorem jZ(h:List Nat):fO (h.map hP)=(trianglesOf h).map tP:=by
 unfold fO trianglesOf;induction h with
 |nil=>rfl
 |cons r h ih=>
  rw[List.map_cons,List.flatMap_cons,List.flatMap_cons,List.map_append,ih];congr 1;have e0:tP (4*r)=((hP r).1,(hP r).2,0):=by unfold tP hP;rw[show 4*r/4=r by omega,show 4*r%4=0 by omega];rfl
  have e1:tP (4*r+1)=((hP r).1,(hP r).2,1):=by unfold tP hP;rw[show(4*r+1)/4=r by omega,show(4*r+1)%4=1 by omega];rfl
  have e2:tP (4*r+2)=((hP r).1,(hP r).2,2):=by unfold tP hP;rw[show(4*r+2)/4=r by omega,show(4*r+2)%4=2 by omega];rfl
  have e3:tP (4*r+3)=((hP r).1,(hP r).2,3):=by unfold tP hP;rw[show(4*r+3)/4=r by omega,show(4*r+3)%4=3 by omega];rfl
  simp[e0,e1,e2,e3]
theorem j4(hs:List Pl):(fO hs).length=4*hs.length:=by
 unfold fO;induction hs with
 |nil=>rfl
 |cons p r ih=>rw[List.flatMap_cons,List.length_append,ih];simp only[List.length_cons,List.length_nil];omega
theorem iG(l:Cells):(halvesOf l).length=4*l.length:=by
 unfold halvesOf;rw[List.length_mergeSort];induction l with
 |nil=>rfl
 |cons p r ih=>rw[List.flatMap_cons,List.length_append,ih];simp only[List.length_cons,List.length_nil];omega
end RM
namespace RM
open Roof
section
variable {κ β:Type} [DecidableEq κ]
theorem gO(f:κ->β)(l:List κ):(l.map fun p=>(p,f p)).map (·.1)=l:=by rw[List.map_map];simp[Function.comp_def]
theorem j3(f:κ->β)(k:κ):∀l:List κ,aJ (l.map fun p=>(p,f p)) k=if k∈l then some (f k)else none
 |[]=>by simp[j2]
 |x::N=>by
  rw[List.map_cons,bW,j3 f k N];by_cases e:x=k
  ·rw[if_pos e,if_pos (by simp[e]),e]
  ·rw[if_neg e];by_cases h:k∈N
   ·rw[if_pos h,if_pos (List.mem_cons_of_mem _ h)]
   ·rw[if_neg h,if_neg (by rw[List.mem_cons];rintro(z|z);exact e z.symm;exact h z)]
theorem HX(f:κ->β){l:List κ}{k:κ}(v:β)(h:k∈l):cV (l.map fun p=>(p,f p)) k v=l.map fun p=>(p,if p=k then v else f p):=by unfold cV;rw[if_pos (rE.mpr (by rw[gO];exact h)),List.map_map];apply List.map_congr_left;intro x _;simp only[Function.comp];split<;>rfl
theorem vT:∀(L:List κ)(f:κ->β){l:List κ}(v:β),(∀p∈L,p∈l)->cK (l.map fun p=>(p,f p)) (L.map fun p=>(p,v))=l.map fun p=>(p,if p∈L then v else f p)
 |[],f,l,v,_=>by simp[cK]
 |k::L,f,l,v,h=>by
  rw[List.map_cons];show cK (cV (l.map fun p=>(p,f p)) k v) (L.map fun p=>(p,v))=_
  rw[HX f v (h k (by simp)),vT L (fun p=>if p=k then v else f p) v (fun p hp=>h p (by simp[hp]))];apply List.map_congr_left;intro x _;by_cases h1:x∈L
  ·simp[h1]
  ·by_cases h2:x=k
   ·simp[h1,h2]
   ·simp[h1,h2]
theorem pT:∀(ps l:List (κ×β)),(ps.map (·.1)).Nodup->(∀k∈ps.map (·.1),k∉l.map (·.1))->cK l ps=l++ps
 |[],l,_,_=>by simp[cK]
 |p::r,l,h,h2=>by
  rw[List.map_cons,List.nodup_cons]at h;show cK (cV l p.1 p.2) r=_
  rw[fT p.2 (h2 p.1 (by simp)),pT r _ h.2,List.append_assoc]
  ·rfl
  ·intro k hk hm;rw[List.map_append,List.mem_append]at hm;rcases hm with hm|hm
   ·exact h2 k (by rw[List.map_cons];exact List.mem_cons_of_mem _ hk) hm
   ·have:k=p.1:=by simpa using hm
    exact h.1 (this▸hk)
end
theorem EU{hs:List Pl}{p:Pl}(h:p∈hs):lX hs 1 p=0:=by
 show(if p∈aW hs 0 then((0:Nat):Int)else lX hs 0 p)=0
 rw[if_pos (show p∈aW hs 0 from h)];rfl
theorem mG(hs:List Pl):∀k,∀p∈aW hs k,p∈hs
 |0,_,h=>h
 |k+1,p,h=>mG hs k p (List.mem_filter.mp h).1
noncomputable def iI(hs:List Pl)(k:Nat):List (Pl×Int):=if k=0 then[]else hs.map fun p=>(p,lX hs k p)
theorem zK{hs:List Pl}(hn:hs.Nodup)(k:Nat):cK (iI hs k) ((aW hs k).map fun p=>(p,(k:Int)))=iI hs (k+1):=by
 cases k with
 |zero=>
  show cK [] (hs.map fun p=>(p,((0:Nat):Int)))=hs.map fun p=>(p,lX hs 1 p)
  rw[pT]
  ·rw[List.nil_append];apply List.map_congr_left;intro p hp;rw[EU hp];rfl
  ·rw[gO (fun _=>((0:Nat):Int))];exact hn
  ·simp
 |succ k=>
  show cK (hs.map fun p=>(p,lX hs (k+1) p)) _=hs.map fun p=>(p,lX hs (k+2) p)
  rw[vT (aW hs (k+1)) (fun p=>lX hs (k+1) p) ((k+1:Nat):Int) (mG hs _)];apply List.map_congr_left;intro p _;show _=(p,if p∈aW hs (k+1)then((k+1:Nat):Int)else lX hs (k+1) p)
  by_cases q:p∈aW hs (k+1)
  ·rw[if_pos q,if_pos q]
  ·rw[if_neg q,if_neg q]
theorem vK{hs:List Pl}{k:Nat}(e:aW hs k=[])(p:Pl):∀m,k<=m->lX hs m p=lX hs k p:=by
 have mW:∀m,k<=m->aW hs m=[]:=by
  intro m hm;induction m with
  |zero=>
       have:k=0:=by omega
       rw[<- this];exact e
  |succ m ih=>
   by_cases h:k<=m
   ·show(aW hs m).filter _=[]
    rw[ih h];rfl
   ·have:k=m+1:=by omega
    rw[<- this];exact e
 intro m hm;induction m with
 |zero=>
      have:k=0:=by omega
      rw[this]
 |succ m ih=>
  by_cases h:k<=m
  ·show(if p∈aW hs m then(m:Int)else lX hs m p)=_
   rw[mW m h,if_neg (by simp),ih h]
  ·have:k=m+1:=by omega
   rw[this]
def bS(h:List Nat):List (Pl×Int):=(h.map hP).map fun p=>(p,d5 h p)
theorem BL{h:List Nat}(hh:∀r∈h,okR r){k:Nat}(hk:0<k)(e:aW (h.map hP) k=[]):iI (h.map hP) k=bS h:=by
 unfold iI bS;rw[if_neg (by omega)];apply List.map_congr_left;intro p hp;unfold d5;rw[if_pos hp];have e64:aW (h.map hP) 64=[]:=by rw[dI hh,fH hh (Nat.le_refl 64)];rfl
 by_cases c:k<=64
 ·rw[vK e p 64 c]
 ·rw[vK e64 p k (by omega)]
theorem HN(h:List Nat)(p:Pl):(aJ (bS h) p).getD (-1)=d5 h p:=by
 unfold bS;rw[j3];by_cases q:p∈h.map hP
 ·rw[if_pos q];rfl
 ·rw[if_neg q];unfold d5;rw[if_neg q];rfl
def hgt(h:List Nat)(p:Pl):Int:=(heightAt (gridOf h) p.1.toNat p.2.toNat:Int)
theorem B6(h:List Nat)(c:Point):hgt h (iP c)=(heightAt (gridOf h) c.1 c.2:Int):=by unfold hgt iP;simp
theorem JK{h:List Nat}(hh:∀r∈h,okR r){r c:Nat}(hr:r∈h){m:Int}(hm:m∈dX h (aM (hP r) c))(hle:∀x∈dX h (aM (hP r) c),m<=x):m=hgt h (aM (hP r) c):=by rw[mL]at hm hle ⊢;rw[B6];exact EF hh (EZ (hh r hr)).1 hm hle
noncomputable def tD(h:List Nat)(t:T3):Int:=HK t.2.2.toNat (hgt h (aM (t.1,t.2.1) t.2.2.toNat)) (hgt h (aM (t.1,t.2.1) (t.2.2.toNat+1))) (d5 h (t.1,t.2.1))
theorem CO{h:List Nat}(hh:∀r∈h,okR r){t:Nat}(ht:t∈trianglesOf h):tD h (tP t)=((nV h).getD t 4:Int):=by
 have hr:=d4.mp ht;rw[ES hh,if_pos ht,<- JS ((wO hh).mpr hr)];unfold tD;have e1:((tP t).1,(tP t).2.1)=hP (t/4):=rfl;have e2:(tP t).2.2.toNat=t%4:=by unfold tP;dsimp only;omega
 rw[e1,e2,vL hh hr,mL,mL,B6,B6];rfl
def cW(h:List Nat):List (T3×Int):=(fO (h.map hP)).map fun t=>(t,tD h t)
theorem CN{h:List Nat}(hh:∀r∈h,okR r):∀t∈trianglesOf h,aJ (cW h) (tP t)=some ((nV h).getD t 4:Int):=by intro t ht;unfold cW;rw[j3,jZ,if_pos (List.mem_map.mpr ⟨t,ht,rfl⟩),CO hh ht]
theorem zG(h:List Nat):∀p,p∉ (trianglesOf h).map tP->aJ (cW h) p=none:=by intro p hp;unfold cW;rw[j3,jZ,if_neg hp]
end RM
namespace RM
open Roof
noncomputable def partsFrom(m:Int)(cur:List Int):List Int->List (List Int)
 |[]=>[cur]
 |v::r=>if v=m then cur::partsFrom m [] r else partsFrom m (cur++[v]) r
theorem fV(m:Int):∀(t cur:List Int),∃p ps,parts m t=p::ps/\partsFrom m cur t=(cur++p)::ps
 |[],cur=>⟨[],[],rfl,by simp[partsFrom]⟩
 |v::r,cur=>by
  by_cases e:v=m
  ·obtain⟨p,ps,h1,h2⟩:=fV m r [];refine⟨[],parts m r,?_,?_⟩
   ·simp[parts,e]
   ·simp only[partsFrom,if_pos e];rw[h2,h1];simp
  ·obtain⟨p,ps,h1,h2⟩:=fV m r (cur++[v]);refine⟨v::p,ps,?_,?_⟩
   ·simp[parts,e,h1]
   ·simp only[partsFrom,if_neg e];rw[h2];simp
theorem iB(m:Int)(t:List Int):partsFrom m [] t=parts m t:=by obtain⟨p,ps,h1,h2⟩:=fV m t [];rw[h2,h1];simp
theorem iC{m v:Int}{cur r:List Int}(e:v=m):partsFrom m cur (v::r)=cur::partsFrom m [] r:=by simp[partsFrom,e]
theorem gM{m v:Int}{cur r:List Int}(e:¬v=m):partsFrom m cur (v::r)=partsFrom m (cur++[v]) r:=by simp[partsFrom,e]
theorem p8(m:Int)(t:List Int):(parts m t).length<=t.length+1:=by
 have:∀(t cur:List Int),(partsFrom m cur t).length<=t.length+1:=by
  intro t;induction t with
  |nil=>intro cur;simp[partsFrom]
  |cons v r ih=>
   intro cur;by_cases e:v=m
   ·rw[iC e];have:=ih [];simp;omega
   ·rw[gM e];have:=ih (cur++[v]);simp;omega
 rw[<- iB];exact this t []
theorem iA{m:Int}{t p:List Int}(h:p∈parts m t):p.length<=t.length:=by
 have:∀(t cur:List Int),∀p∈partsFrom m cur t,p.length<=cur.length+t.length:=by
  intro t;induction t with
  |nil=>intro cur p hp;simp[partsFrom]at hp;subst hp;simp
  |cons v r ih=>
   intro cur p hp;by_cases e:v=m
   ·rw[iC e]at hp;rcases List.mem_cons.mp hp with rfl|hp
    ·simp
    ·have:=ih [] p hp;simp at this ⊢;omega
   ·rw[gM e]at hp;have:=ih _ p hp;simp at this ⊢;omega
 rw[<- iB]at h;simpa using this t [] p h
end RM
namespace RM
open Roof
section
variable {α β:Type}{f:α->Option β}
theorem DY:∀{l:List α}{zs:List β}{x:α}{z:β},l.mapM f=some zs->f x=some z->(l++[x]).mapM f=some (zs++[z]):=by
 intro l zs x z h1 h2;exact lM (by
  have h:=mapM_some h1;induction h with
  |nil=>exact .cons h2 .nil
  |cons r _ ih=>exact .cons r (ih (lM (by assumption))))
theorem pD{l:List α}{i:Nat}{zs:List β}{x:α}{z:β}(h:(l.take i).mapM f=some zs)(hx:l[i]? =some x)(hz:f x=some z):(l.take (i+1)).mapM f=some (zs++[z]):=by rw[take_snoc hx];exact DY h hz
theorem lY.mem{R:α->β->Prop}:∀{l:List α}{m:List β},lY R l m->∀x∈l,∃y,R x y
 |_,_,.nil,_,h=>by cases h
 |_,_,.cons r t,x,h=>by
  rcases List.mem_cons.mp h with rfl|h
  ·exact⟨_,r⟩
  ·exact lY.mem t x h
theorem lY.len{R:α->β->Prop}:∀{l:List α}{m:List β},lY R l m->l.length=m.length
 |_,_,.nil=>rfl
 |_,_,.cons _ t=>by simp[lY.len t]
theorem pE{l:List α}{x:α}(hx:x∈l)(hz:f x=none):l.mapM f=none:=by
 cases h:l.mapM f with
 |none=>rfl
 |some zs=>obtain⟨y,e⟩:=(mapM_some h).mem x hx;rw[hz]at e;cases e
theorem sO{l:List α}{zs:List β}(h:l.mapM f=some zs):zs.length=l.length:=((mapM_some h).len).symm
end
theorem zE{α β:Type}{f:β->α->Option β}{l:List α}{b:β}{x:α}:(l++[x]).foldlM f b=(l.foldlM f b).bind fun c=>f c x:=by
 rw[List.foldlM_append];show(l.foldlM f b>>=fun c=>[x].foldlM f c)=_
 congr 1;funext c;simp
theorem qQ{α β:Type}{f:β->α->Option β}{l:List α}{b c:β}{i:Nat}{x:α}(h:(l.take i).foldlM f b=some c)(hx:l[i]? =some x):(l.take (i+1)).foldlM f b=f c x:=by rw[take_snoc hx,zE,h];rfl
theorem zF{α β:Type}{f:β->α->Option β}{l:List α}{b c:β}{i:Nat}{x:α}(h:(l.take i).foldlM f b=some c)(hx:l[i]? =some x)(hn:f c x=none):l.foldlM f b=none:=by have e:l=l.take (i+1)++l.drop (i+1):=(List.take_append_drop ..).symm;rw[e,List.foldlM_append,qQ h hx,hn];rfl
end RM
namespace RM
open Roof
def fP(a b q:Pl):Prop:=a.1=b.1/\a.1=q.1/\min a.2 b.2<=q.2/\q.2<max a.2 b.2
def n6(n k:Nat):Nat:=if k=0 then n - 1 else k - 1
noncomputable def zD(w:List Pl)(k:Nat)(q:Pl):Prop:=∃a b,w[k]? =some a/\w[n6 w.length k]? =some b/\fP a b q
noncomputable def jJ(ws:List (List Pl))(i:Nat)(q:Pl):Prop:=∃w∈ws.take i,∃k,zD w k q
theorem CM(a b:Point)(x y:Nat):qP a b x y=true↔fP (iP b) (iP a) ((x:Int),(y:Int)):=by
 unfold qP fP iP;simp only[Bool.and_eq_true,beq_iff_eq,decide_eq_true_iff];have e1:(min (b.2:Int) (a.2:Int))=((min a.2 b.2:Nat):Int):=by omega
 have e2:(max (b.2:Int) (a.2:Int))=((max a.2 b.2:Nat):Int):=by omega
 rw[e1,e2];omega
theorem xO(w:Walk)(s:Point×Point):s∈sides w↔∃k,w[k]? =some s.2/\w[n6 w.length k]? =some s.1:=by
 unfold sides;rw[List.mem_iff_getElem?];have hz:∀(j:Nat),(w.zip (w.drop 1++w.take 1))[j]? =some s↔w[j]? =some s.1/\(w.drop 1++w.take 1)[j]? =some s.2:=by intro j;rw[List.getElem?_zip_eq_some]
 constructor
 ·rintro⟨j,h⟩;obtain⟨h1,h2⟩:=(hz j).mp h;have hj:j<w.length:=(List.getElem?_eq_some_iff.mp h1).1;by_cases c:j+1<w.length
  ·rw[List.getElem?_append_left (by rw[List.length_drop];omega),List.getElem?_drop]at h2;refine⟨j+1,by rw[Nat.add_comm];exact h2,?_⟩;unfold n6;rw[if_neg (by omega)];exact h1
  ·rw[List.getElem?_append_right (by rw[List.length_drop];omega),List.length_drop]at h2;have e:j - (w.length - 1)=0:=by omega
   rw[e,List.getElem?_take_of_lt (by omega)]at h2;refine⟨0,h2,?_⟩;unfold n6;rw[if_pos rfl,show w.length - 1=j by omega];exact h1
 ·rintro⟨k,h1,h2⟩;have hk:k<w.length:=(List.getElem?_eq_some_iff.mp h1).1;by_cases c:k=0
  ·subst c;refine⟨w.length - 1,(hz _).mpr ⟨h2,?_⟩⟩;rw[List.getElem?_append_right (by rw[List.length_drop];omega),List.length_drop,show w.length - 1 - (w.length - 1)=0 by omega,List.getElem?_take_of_lt (by omega)];exact h1
  ·refine⟨k - 1,(hz _).mpr ⟨?_,?_⟩⟩
   ·unfold n6 at h2;rw[if_neg c]at h2;exact h2
   ·rw[List.getElem?_append_left (by rw[List.length_drop];omega),List.getElem?_drop,show 1+(k - 1)=k by omega];exact h1
theorem vG(w:Walk)(x y:Nat):(∃k,zD (iW w) k ((x:Int),(y:Int)))↔∃s∈sides w,qP s.1 s.2 x y=true:=by
 have hl:(iW w).length=w.length:=List.length_map ..;have hg:∀(k:Nat)(a:Pl),(iW w)[k]? =some a↔∃p,w[k]? =some p/\a=iP p:=by intro k a;unfold iW;rw[List.getElem?_map];cases w[k]? <;>simp[eq_comm]
 constructor
 ·rintro⟨k,a,b,h1,h2,h3⟩;obtain⟨p,hp,rfl⟩:=(hg k a).mp h1;rw[hl]at h2;obtain⟨q,hq,rfl⟩:=(hg _ b).mp h2;exact⟨(q,p),(xO w (q,p)).mpr ⟨k,hp,hq⟩,(CM q p x y).mpr h3⟩
 ·rintro⟨s,hs,hf⟩;obtain⟨k,h1,h2⟩:=(xO w s).mp hs;exact⟨k,iP s.2,iP s.1,(hg k _).mpr ⟨_,h1,rfl⟩,by rw[hl];exact(hg _ _).mpr ⟨_,h2,rfl⟩,(CM s.1 s.2 x y).mp hf⟩
theorem BD(ws:List Walk)(x y:Nat):jJ (iWs ws) (iWs ws).length ((x:Int),(y:Int))↔dM ws x y=true:=by
 unfold jJ dM;rw[List.take_of_length_le (Nat.le_refl _),List.any_eq_true];constructor
 ·rintro⟨w,hw,hk⟩;obtain⟨v,hv,rfl⟩:=List.mem_map.mp hw;obtain⟨s,hs,hf⟩:=(vG v x y).mp hk;exact⟨v,hv,List.any_eq_true.mpr ⟨s,hs,hf⟩⟩
 ·rintro⟨v,hv,h⟩;obtain⟨s,hs,hf⟩:=List.any_eq_true.mp h;exact⟨iW v,List.mem_map.mpr ⟨v,hv,rfl⟩,(vG v x y).mpr ⟨s,hs,hf⟩⟩
noncomputable def m6(ws:List (List Pl))(i:Nat)(w:List Pl)(k:Nat)(q:Pl):Prop:=jJ ws i q\/∃j,j<k/\zD w j q
theorem BE(ws:List (List Pl))(i:Nat)(w:List Pl)(q:Pl):m6 ws i w 0 q↔jJ ws i q:=by
 unfold m6;constructor
 ·rintro(h|⟨j,h,_⟩)
  ·exact h
  ·omega
 ·exact .inl
theorem sZ(ws:List (List Pl))(i:Nat)(w:List Pl)(k:Nat)(q:Pl):m6 ws i w (k+1) q↔m6 ws i w k q\/zD w k q:=by
 unfold m6;constructor
 ·rintro(h|⟨j,h1,h2⟩)
  ·exact .inl (.inl h)
  ·by_cases e:j=k
   ·exact .inr (e▸h2)
   ·exact .inl (.inr ⟨j,by omega,h2⟩)
 ·rintro((h|⟨j,h1,h2⟩)|h)
  ·exact .inl h
  ·exact .inr ⟨j,by omega,h2⟩
  ·exact .inr ⟨k,by omega,h⟩
theorem EJ{ws:List (List Pl)}{i:Nat}{w:List Pl}(hw:ws[i]? =some w)(q:Pl):m6 ws i w w.length q↔jJ ws (i+1) q:=by
 unfold m6 jJ;rw[take_snoc hw];constructor
 ·rintro(⟨v,hv,h⟩|⟨j,_,h⟩)
  ·exact⟨v,List.mem_append_left _ hv,h⟩
  ·exact⟨w,by simp,j,h⟩
 ·rintro⟨v,hv,h⟩;rcases List.mem_append.mp hv with hv|hv
  ·exact .inl ⟨v,hv,h⟩
  ·have:v=w:=by simpa using hv
   subst this;obtain⟨k,h⟩:=h;obtain⟨a,b,h1,h2⟩:=id h;exact .inr ⟨k,(List.getElem?_eq_some_iff.mp h1).1,h⟩
noncomputable def box:List Pl:=(List.range 65).flatMap fun(x:Nat)=>(List.range 65).map fun(y:Nat)=>(((x:Int),(y:Int)):Pl)
theorem CY{q:Pl}(h1:0<=q.1)(h2:q.1<=64)(h3:0<=q.2)(h4:q.2<=64):q∈box:=by unfold box;refine List.mem_flatMap.mpr ⟨q.1.toNat,List.mem_range.mpr (by omega),List.mem_map.mpr ⟨q.2.toNat,List.mem_range.mpr (by omega),?_⟩⟩;obtain⟨a,b⟩:=q;simp at h1 h3 ⊢;omega
theorem JW:box.length=4225:=by decide+kernel
theorem sY{ws:List (List Pl)}(ho:∀w∈ws,∀p∈w,(0<=p.1/\p.1<=64)/\(0<=p.2/\p.2<=64)){w:List Pl}(hw:w∈ws){k:Nat}{q:Pl}(h:zD w k q):q∈box:=by obtain⟨a,b,h1,h2,h3,h4,h5,h6⟩:=h;have o1:=ho w hw a (List.mem_of_getElem? h1);have o2:=ho w hw b (List.mem_of_getElem? h2);exact CY (by omega) (by omega) (by omega) (by omega)
noncomputable def mC(F:Nat->Nat->Bool)(y n:Nat):Cells:=((List.range n).map fun x=>((x,y):Cell)).filter fun c=>bX F c.2 c.1
noncomputable def iQ(F:Nat->Nat->Bool)(n:Nat):Cells:=(List.range n).flatMap fun y=>mC F y 64
theorem DK(F:Nat->Nat->Bool):iQ F 64=aT F:=rfl
theorem lH(F:Nat->Nat->Bool)(y n:Nat):mC F y (n+1)=if bX F y n=true then mC F y n++[(n,y)]else mC F y n:=by
 unfold mC;rw[List.range_succ,List.map_append,List.filter_append];by_cases h:bX F y n=true
 ·rw[if_pos h];simp[h]
 ·rw[if_neg h];simp[h]
theorem rT(F:Nat->Nat->Bool)(n:Nat):iQ F (n+1)=iQ F n++mC F n 64:=by unfold iQ;rw[List.range_succ,List.flatMap_append];simp
theorem rW{F:Nat->Nat->Bool}{y n:Nat}{c:Cell}(h:c∈mC F y n):c.1<n/\c.2=y:=by unfold mC at h;obtain⟨h1,_⟩:=List.mem_filter.mp h;obtain⟨x,hx,rfl⟩:=List.mem_map.mp h1;exact⟨List.mem_range.mp hx,rfl⟩
theorem uL{F:Nat->Nat->Bool}{n:Nat}{c:Cell}(h:c∈iQ F n):c.2<n/\c.1<64:=by unfold iQ at h;obtain⟨y,hy,h⟩:=List.mem_flatMap.mp h;have:=rW h;have:=List.mem_range.mp hy;omega
theorem yW(F:Nat->Nat->Bool)(y x:Nat):bX F y x=xor (if x=0 then false else bX F y (x - 1)) (F x y):=by
 cases x with
 |zero=>simp[bX]
 |succ x=>simp[bX]
theorem rX(F:Nat->Nat->Bool)(y n:Nat):(mC F y n).length<=n:=by unfold mC;exact Nat.le_trans (List.length_filter_le _ _) (by simp)
theorem oU(F:Nat->Nat->Bool)(n:Nat):(iQ F n).length<=64*n:=by
 induction n with
 |zero=>simp[iQ]
 |succ n ih=>rw[rT,List.length_append];have:=rX F n 64;omega
end RM
namespace RM
open Roof
section
variable {κ β:Type} [DecidableEq κ]
noncomputable def Tbl(l:List (κ×β))(S:κ->Prop):Prop:=(l.map (·.1)).Nodup/\∀q,q∈l.map (·.1)↔S q
theorem Tbl.nil:Tbl ([]:List (κ×β)) fun _=>False:=⟨by simp,by simp⟩
theorem Tbl.put{l:List (κ×β)}{S:κ->Prop}(h:Tbl l S)(k:κ)(v:β):Tbl (cV l k v) fun q=>S q\/q=k:=by
 refine⟨jM h.1,fun q=>?_⟩;rw[vU];split
 ·rename_i hk;rw[h.2];constructor
  ·exact .inl
  ·rintro(z|z)
   ·exact z
   ·rw[z];exact(h.2 k).mp hk
 ·rw[List.mem_append,h.2];simp
theorem Tbl.iff{l:List (κ×β)}{S T:κ->Prop}(h:Tbl l S)(e:∀q,S q↔T q):Tbl l T:=⟨h.1,fun q=>(h.2 q).trans (e q)⟩
theorem Tbl.len{l:List (κ×β)}{S:κ->Prop}(h:Tbl l S){b:List κ}(hb:∀q,S q->q∈b):l.length<=b.length:=by
 have:=bU h.1 (b:=b) fun q hq=>hb q ((h.2 q).mp hq)
 rwa [List.length_map]at this
end
theorem J0{W:List Walk}(h:sL W):∀w∈iWs W,∀p∈w,(0<=p.1/\p.1<=64)/\(0<=p.2/\p.2<=64):=by intro w hw p hp;obtain⟨v,hv,rfl⟩:=List.mem_map.mp hw;obtain⟨q,hq,rfl⟩:=List.mem_map.mp hp;have:=h v hv q hq;unfold okP at this;unfold iP;simp only;omega
theorem EI{ws:List (List Pl)}(ho:∀w∈ws,∀p∈w,(0<=p.1/\p.1<=64)/\(0<=p.2/\p.2<=64)){w:List Pl}(hw:w∈ws){i k:Nat}{q:Pl}(h:m6 ws i w k q):q∈box:=by
 rcases h with⟨v,hv,k,h⟩|⟨j,_,h⟩
 ·exact sY ho (List.mem_of_mem_take hv) h
 ·exact sY ho hw h
theorem zC(ws:List (List Pl))(q:Pl):jJ ws 0 q↔False:=by simp[jJ]
end RM
namespace RM
open Roof
noncomputable def cO(cs:List Pl)(c:Pl)(j:Nat):List (Pl×Int):=(([0,1,2,3].take j).filter fun(s:Nat)=>!decide (aO c s∈cs)).map fun s=>(aM c s,hdg s)
theorem tI(cs:List Pl)(c:Pl):cO cs c 4=eQ cs c:=rfl
theorem qZ(cs:List Pl)(c:Pl){j:Nat}(hj:j<4):cO cs c (j+1)=cO cs c j++(if aO c j∈cs then[]else[(aM c j,hdg j)]):=by
 have e:([0,1,2,3]:List Nat).take (j+1)=[0,1,2,3].take j++[j]:=by
  have cs:j=0\/j=1\/j=2\/j=3:=by omega
  rcases cs with rfl|rfl|rfl|rfl<;>rfl
 unfold cO;rw[e,List.filter_append,List.map_append];congr 1;by_cases h:aO c j∈cs
 ·rw[if_pos h];simp[h]
 ·rw[if_neg h];simp[h]
theorem kX(cs:List Pl)(c:Pl)(j:Nat):(cO cs c j).length<=4:=by unfold cO;rw[List.length_map];refine Nat.le_trans (List.length_filter_le _ _) ?_;rw[List.length_take];simp;omega
def dE(cs:List Pl)(i:Nat):List (Pl×Int):=(cs.take i).flatMap (eQ cs)
theorem nO{cs:List Pl}{i:Nat}{c:Pl}(h:cs[i]? =some c):dE cs (i+1)=dE cs i++eQ cs c:=by unfold dE;rw[take_snoc h,List.flatMap_append];simp
theorem z6(cs:List Pl):cK [] (dE cs cs.length)=d9 cs:=by unfold dE d9 fR;rw[List.take_of_length_le (Nat.le_refl _)]
theorem z5(cs:List Pl)(i:Nat):(dE cs i).length<=4*i:=by
 induction i with
 |zero=>simp[dE]
 |succ i ih=>
  cases h:cs[i]? with
  |some c=>rw[nO h,List.length_append,<- tI];have:=kX cs c 4;omega
  |none=>
   have hl:cs.length<=i:=List.getElem?_eq_none_iff.mp h;have:dE cs (i+1)=dE cs i:=by unfold dE;rw[List.take_of_length_le (by omega),List.take_of_length_le hl]
   rw[this];omega
theorem tJ{κ β:Type}[DecidableEq κ](l a:List (κ×β))(k:κ)(v:β):cK l (a++[(k,v)])=cV (cK l a) k v:=by rw[x9];rfl
end RM
namespace RM
open Roof
structure f7(l:Cells)(seen:List Point)(i:Nat)(ws:List Walk):Prop where
 HE:fB l seen ((c7 l).drop i)
 eq:ws++walksFrom l seen ((c7 l).drop i)=walksOf l
 nd:seen.Nodup
 out:∀y∈seen,(outOf l y).isSome=true
theorem f7.start(l:Cells):f7 l [] 0 [] where
 HE:=fB.starts l
 eq:=by
  show walksFrom l [] (c7 l)=walksFrom l [] (pointsOf l)
  rw[dO l (pointsOf l)];rfl
 nd:=by simp
 out:=by simp
theorem f7.skip{l:Cells}{seen:List Point}{i:Nat}{ws:List Walk}(h:f7 l seen i ws){p:Point}(hi:(c7 l)[i]? =some p)(hs:p∈seen):f7 l seen (i+1) ws:=by
 have g:=h.HE;have e:=h.eq;rw[drop_cons hi]at g e;refine⟨g.skip (.inl hs),?_,h.nd,h.out⟩;rw[<- e];show _=ws++(if seen.contains p=true then _ else _)
 rw[if_pos (by simpa using hs)]
theorem f7.done{l:Cells}{seen:List Point}{ws:List Walk}(h:f7 l seen (c7 l).length ws):ws=walksOf l:=by have e:=h.eq;rw[List.drop_eq_nil_of_le (Nat.le_refl _)]at e;rw[<- e];simp[walksFrom]
theorem f7.len{l:Cells}(hp:pinched l=false){seen:List Point}{i:Nat}{ws:List Walk}(h:f7 l seen i ws):seen.length<=4*l.length:=by
 have h1:(iW seen).Nodup:=d8 h.nd fun x _ y _ e=>fX e
 have h2:=bU (b:=(d9 (iW l)).map (·.1)) h1 fun p hm=>by
  obtain⟨q,hq,rfl⟩:=List.mem_map.mp hm;have:=h.out q hq;cases e:outOf l q with
  |none=>rw[e]at this;cases this
  |some d=>exact(pJ hp _).mpr ⟨q,d,rfl,e⟩
 have h3:=nN (iW l);simp only[iW,List.length_map]at h2 h3;omega
theorem f7.next{l:Cells}(hp:pinched l=false){seen:List Point}{i:Nat}{ws:List Walk}(h:f7 l seen i ws){p:Point}(hi:(c7 l)[i]? =some p)(hs:p∉seen):
  ∃f:List (Pl×Int),mB (aJ (d9 (iW l))) (iP p) f (iP p)/\f≠[]/\(f.map (·.1)).Nodup/\(∀y∈f.map (·.1),y∉iW seen)/\∃(seen':List Point)(w:Walk),iW seen'=iW seen++f.map (·.1)/\iW w=bN none f/\f7 l seen' (i+1) (ws++[w]):=by
 have g:=h.HE;have e:=h.eq;rw[drop_cons hi]at g e;have hm:=List.mem_of_getElem? hi;have ho:=(List.mem_filter.mp hm).2;obtain⟨d,ho⟩:∃d,outOf l p=some d:=by
  cases q:outOf l p with
  |none=>rw[q]at ho;cases ho
  |some d=>exact⟨d,rfl⟩
 obtain⟨f,p1,p2,p3,p4,p5,p6,p7⟩:=FG hp g hs ho;have ek:(f.map iF).map (·.1)=iW (f.map (·.1)):=by simp[iW,iF,Function.comp_def]
 have nd2:(f.map (·.1)).Nodup:=by rw[ek]at p3;unfold iW at p3;exact List.Pairwise.of_map iP (fun a b hab z=>hab (by rw[z])) p3
 refine⟨f.map iF,p1,by intro z;exact p2 (by simpa using z),p3,?_,seen++f.map (·.1),cornersOf f,?_,p7,p5,?_,?_,?_⟩
 ·intro y hy;rw[ek]at hy;obtain⟨q,hq,rfl⟩:=List.mem_map.mp hy;intro z;exact p4 q hq (gQ.mp z)
 ·rw[ek];simp[iW]
 ·rw[<- e,p6];simp
 ·rw[List.nodup_append];exact⟨h.nd,nd2,fun a ha b hb z=>p4 b hb (z▸ha)⟩
 ·intro y hy;rcases List.mem_append.mp hy with hy|hy
  ·exact h.out y hy
  ·have hk:iP y∈(f.map iF).map (·.1):=by rw[ek];exact gQ.mpr hy
   have pa:∀{a b:Pl}{r:List (Pl×Int)},mB (aJ (d9 (iW l))) a r b->∀z∈r.map (·.1),(aJ (d9 (iW l)) z).isSome=true:=by
    intro a b r pr;induction pr with
    |nil p=>intro z hz;cases hz
    |cons h1 _ _ _ ih=>
     intro z hz;rcases List.mem_cons.mp hz with rfl|hz
     ·rw[h1];rfl
     ·exact ih z hz
   have:=pa p1 _ hk;rw[aS]at this;obtain⟨q,d',h1,h2⟩:=(pJ hp _).mp this;rw[fX h1,h2];rfl
end RM
namespace RM
open Roof
noncomputable def uP(c:Pl):List Pl:=[(2*c.1+0,2*c.2+0),(2*c.1+1,2*c.2+0),(2*c.1+0,2*c.2+1),(2*c.1+1,2*c.2+1)]
theorem xT{cs:List Pl}{i:Nat}{c:Pl}(h:cs[i]? =some c):fU (cs.take (i+1))=fU (cs.take i)++uP c:=by unfold fU;rw[take_snoc h,List.flatMap_append];simp[uP]
theorem A9(cs:List Pl):(fU cs).length=4*cs.length:=by
 unfold fU;induction cs with
 |nil=>rfl
 |cons c r ih=>rw[List.flatMap_cons,List.length_append,ih,List.length_cons];simp;omega
theorem DR(c:Pl){j:Nat}{q:Pl}(hq:([(0,0),(1,0),(0,1),(1,1)]:List Pl)[j]? =some q):(uP c).take (j+1)=(uP c).take j++[(2*c.1+q.1,2*c.2+q.2)]:=by
 have hj:j<4:=(List.getElem?_eq_some_iff.mp hq).1;have cs:j=0\/j=1\/j=2\/j=3:=by omega
 rcases cs with rfl|rfl|rfl|rfl<;>(cases hq;rfl)
theorem BS(p:Pl){j:Nat}{q:Pl}(hq:([(-1,-1),(0,-1),(1,-1),(-1,0),(1,0),(-1,1),(0,1),(1,1)]:List Pl)[j]? =some q):(f6 p)[j]? =some (p.1+q.1,p.2+q.2):=by
 have hj:j<8:=(List.getElem?_eq_some_iff.mp hq).1;have cs:j=0\/j=1\/j=2\/j=3\/j=4\/j=5\/j=6\/j=7:=by omega
 rcases cs with rfl|rfl|rfl|rfl|rfl|rfl|rfl|rfl<;>(cases hq;rfl)
end RM
namespace RM
open Roof
theorem JZ(h:List Nat)(p:Pl){j:Nat}{q:Pl}(hq:([(-1,-1),(0,-1),(-1,0),(0,0)]:List Pl)[j]? =some q):(dX h p)[j]? =some (d5 h (p.1+q.1,p.2+q.2)+1):=by
 have hj:j<4:=(List.getElem?_eq_some_iff.mp hq).1;have cs:j=0\/j=1\/j=2\/j=3:=by omega
 rcases cs with rfl|rfl|rfl|rfl<;>(cases hq;rfl)
structure F9(h:List Nat)(ht:List (Pl×Int)):Prop where
 val:∀q z,aJ ht q=some z->z=hgt h q
 all:∀x∈h,∀c,c<4->aJ ht (aM (hP x) c)=some (hgt h (aM (hP x) c))
structure gB(h:List Nat)(ht:List (Pl×Int))(i j:Nat):Prop where
 val:∀q z,aJ ht q=some z->z=hgt h q
 old:∀m x,m<i->h[m]? =some x->∀c,c<4->(aJ ht (aM (hP x) c)).isSome=true
 cur:∀x,h[i]? =some x->∀c,c<j->(aJ ht (aM (hP x) c)).isSome=true
 len:ht.length<=4*i+j
theorem gB.start(h:List Nat):gB h [] 0 0:=⟨fun q z e=>(by cases e),fun m x hm=>by omega,fun x _ c hc=>by omega,Nat.zero_le _⟩
theorem gB.keep{h:List Nat}{ht:List (Pl×Int)}{i j:Nat}(a:gB h ht i j){r:Nat}(hr:h[i]? =some r)(hs:(aJ ht (aM (hP r) j)).isSome=true):gB h ht i (j+1):=by
 refine⟨a.val,a.old,fun x hx c hc=>?_,by have:=a.len;omega⟩;by_cases e:c=j
 ·subst e;rw[hr]at hx;cases hx;exact hs
 ·exact a.cur x hx c (by omega)
theorem gB.put{h:List Nat}{ht:List (Pl×Int)}{i j:Nat}(a:gB h ht i j){r:Nat}(hr:h[i]? =some r):gB h (cV ht (aM (hP r) j) (hgt h (aM (hP r) j))) i (j+1):=by
 have mono:∀q,(aJ ht q).isSome=true->(aJ (cV ht (aM (hP r) j) (hgt h (aM (hP r) j))) q).isSome=true:=by
  intro q hq;rw[gU];split
  ·rfl
  ·exact hq
 refine⟨fun q z e=>?_,fun m x hm hx c hc=>mono _ (a.old m x hm hx c hc),fun x hx c hc=>?_,?_⟩
 ·rw[gU]at e;by_cases z':q=aM (hP r) j
  ·rw[if_pos z']at e;cases e;rw[z']
  ·rw[if_neg z']at e;exact a.val q z e
 ·by_cases e:c=j
  ·subst e;rw[hr]at hx;cases hx;rw[gU,if_pos rfl];rfl
  ·exact mono _ (a.cur x hx c (by omega))
 ·have:=l8 ht (aM (hP r) j) (hgt h (aM (hP r) j));have:=a.len;omega
theorem gB.next{h:List Nat}{ht:List (Pl×Int)}{i:Nat}(a:gB h ht i 4):gB h ht (i+1) 0:=by
 refine⟨a.val,fun m x hm hx c hc=>?_,by intro x _ c hc;omega,by have:=a.len;omega⟩;by_cases e:m=i
 ·subst e;exact a.cur x hx c hc
 ·exact a.old m x (by omega) hx c hc
theorem gB.done{h:List Nat}{ht:List (Pl×Int)}(a:gB h ht h.length 0):F9 h ht:=by
 refine⟨a.val,fun x hx c hc=>?_⟩;obtain⟨m,hm⟩:=List.mem_iff_getElem?.mp hx;have:=a.old m x (List.getElem?_eq_some_iff.mp hm).1 hm c hc;cases e:aJ ht (aM (hP x) c)with
 |none=>rw[e]at this;cases this
 |some z=>rw[a.val _ z e]
def vX(p:Pl):List T3:=[(p.1,p.2,0),(p.1,p.2,1),(p.1,p.2,2),(p.1,p.2,3)]
theorem A2{hs:List Pl}{i:Nat}{p:Pl}(h:hs[i]? =some p):fO (hs.take (i+1))=fO (hs.take i)++vX p:=by unfold fO;rw[take_snoc h,List.flatMap_append];simp[vX]
theorem DH(p:Pl){j:Nat}(hj:j<4):(vX p).take (j+1)=(vX p).take j++[(p.1,p.2,(j:Int))]:=by
 have cs:j=0\/j=1\/j=2\/j=3:=by omega
 rcases cs with rfl|rfl|rfl|rfl<;>rfl
theorem DE{hs:List Pl}{t:T3}(h:t∈fO hs):(t.1,t.2.1)∈hs:=by unfold fO at h;obtain⟨p,hp,h⟩:=List.mem_flatMap.mp h;simp at h;rcases h with rfl|rfl|rfl|rfl<;>exact hp
theorem DG{hs:List Pl}(hn:hs.Nodup){i j:Nat}{p:Pl}(h:hs[i]? =some p)(hj:j<4):(p.1,p.2,(j:Int))∉fO (hs.take i)++(vX p).take j:=by
 intro z;rcases List.mem_append.mp z with z|z
 ·have:=DE z;simp only at this;obtain⟨m,hm⟩:=List.mem_iff_getElem?.mp this;have hlt:m<i:=by have:=(List.getElem?_eq_some_iff.mp hm).1;rw[List.length_take]at this;omega
  rw[List.getElem?_take_of_lt hlt]at hm;have h1:=(List.getElem?_eq_some_iff.mp hm).1;have hpw:=List.pairwise_iff_getElem.mp hn m i h1 (List.getElem?_eq_some_iff.mp h).1 hlt;have e1:=(List.getElem?_eq_some_iff.mp hm).2;have e2:=(List.getElem?_eq_some_iff.mp h).2;exact hpw (e1.trans e2.symm)
 ·have cs:j=0\/j=1\/j=2\/j=3:=by omega
  rcases cs with rfl|rfl|rfl|rfl<;>simp[vX]at z
theorem DF(hs:List Pl)(i:Nat):(fO (hs.take i)).length<=4*hs.length:=by rw[j4,List.length_take];omega
end RM
namespace RM
open Roof
section
variable {α:Type}{ok:α->Prop}{nb:α->List α}{U:α->Prop}{t0:α}
theorem gH.iff{N N' W:List α}(h:gH ok nb U t0 N W)(e:∀x,x∈N'↔x∈N):gH ok nb U t0 N' W:=
 ⟨fun x hx=>h.new x ((e x).mp hx),h.wait,h.start.imp (e t0).mpr id,fun x hx u hu ou uu=>(h.oR x ((e x).mp hx) u hu ou uu).imp (e u).mpr id⟩
theorem gH.pop{N W:List α}{x:α}(h:gH ok nb U t0 N (W++[x]))(o0:ok t0)(u0:¬U t0)(hx:¬ok x\/U x\/x∈N):gH ok nb U t0 N W:=
 h.skip o0 u0 (x:=x) (fun y hy=>List.mem_append_left _ hy) (fun y hy=>by
  rcases List.mem_append.mp hy with q|q
  ·exact .inl q
  ·exact .inr (by simpa using q)) hx
theorem gH.push{N W:List α}{x:α}(h:gH ok nb U t0 N (W++[x]))(ox:ok x)(ux:¬U x):gH ok nb U t0 (N++[x]) (W++nb x):=by
 refine(h.take (x:=x) (W':=W++nb x) (by simp) ox ux (fun y hy=>?_) (fun y hy=>?_) fun u hu _ _=>List.mem_append_right _ hu).iff fun y=>by simp[or_comm]
 ·rcases List.mem_append.mp hy with q|q
  ·exact .inl (List.mem_append_left _ q)
  ·exact .inr q
 ·rcases List.mem_append.mp hy with q|q
  ·exact .inl (List.mem_append_left _ q)
  ·exact .inr (by simpa using q)
end
theorem EO{h:List Nat}{t:T3}{z:Int}(e:aJ (cW h) t=some z):0<=t.2.2/\t.2.2<4:=by
 have hm:t∈(trianglesOf h).map tP:=by apply Classical.byContradiction;intro q;rw[zG h t q]at e;cases e
 obtain⟨u,_,rfl⟩:=List.mem_map.mp hm;unfold tP;dsimp only;omega
theorem lQ(h:List Nat):(cW h).map (·.1)=(trianglesOf h).map tP:=by unfold cW;rw[gO,jZ]
theorem xM(h:List Nat):(trianglesOf h).length=4*h.length:=by have:=j4 (h.map hP);rw[jZ,List.length_map,List.length_map]at this;exact this
end RM
namespace RM
open Roof
theorem C9:∀(Ns:List (List T3))(j:Nat)(x:T3×Int),x∈aE j Ns->(j:Int)<=x.2
 |[],j,x,h=>by cases h
 |N::r,j,x,h=>by
  rcases List.mem_append.mp (show x∈N.map (fun p=>(p,(j:Int)))++aE (j+1) r from h)with h|h
  ·obtain⟨p,_,rfl⟩:=List.mem_map.mp h;exact Int.le_refl _
  ·have:=C9 r (j+1) x h;omega
theorem yG:∀(A B:List (List T3))(j:Nat),(∀N∈A,N≠[])->(∀N∈B,N≠[])->aE j A=aE j B->A=B
 |[],[],_,_,_,_=>rfl
 |[],N::r,j,_,hB,e=>by
  have e:([]:List (T3×Int))=N.map (fun p=>(p,(j:Int)))++aE (j+1) r:=e;have:=hB N (by simp);cases N with
  |nil=>exact absurd rfl this
  |cons _ _=>simp at e
 |N::r,[],j,hA,_,e=>by
  have e:N.map (fun p=>(p,(j:Int)))++aE (j+1) r=[]:=e;have:=hA N (by simp);cases N with
  |nil=>exact absurd rfl this
  |cons _ _=>simp at e
 |N::r,M::s,j,hA,hB,e=>by
  have e:N.map (fun p=>(p,(j:Int)))++aE (j+1) r=M.map (fun p=>(p,(j:Int)))++aE (j+1) s:=e;have none_of:∀q:List (List T3),(aE (j+1) q).filter (fun x=>decide (x.2=(j:Int)))=[]:=by intro q;rw[List.filter_eq_nil_iff];intro x hx;have:=C9 q (j+1) x hx;simp;omega
  have all_of:∀q:List T3,(q.map (fun p=>(p,(j:Int)))).filter (fun x=>decide (x.2=(j:Int)))=q.map (fun p=>(p,(j:Int))):=by intro q;rw[List.filter_eq_self];intro x hx;obtain⟨p,_,rfl⟩:=List.mem_map.mp hx;simp
  have e2:=congrArg (List.filter (fun x=>decide (x.2=(j:Int)))) e;rw[List.filter_append,List.filter_append,none_of,none_of,all_of,all_of,List.append_nil,List.append_nil]at e2;have eN:N=M:=by
   have:=congrArg (List.map Prod.fst) e2;rw[List.map_map,List.map_map]at this;have id1:∀q:List T3,q.map (Prod.fst∘fun p=>(p,(j:Int)))=q:=fun q=>List.map_id q
   rw[id1,id1]at this;exact this
  subst eN;have e3:=List.append_cancel_left e;rw[yG r s (j+1) (fun x hx=>hA x (by simp[hx])) (fun x hx=>hB x (by simp[hx])) e3]
theorem uZ:∀(Ns:List (List T3))(k i:Nat)(t:T3)(m:Int),(∀N∈Ns,N≠[])->(aE k Ns)[i]? =some (t,m)->(i=0/\m=(k:Int))\/(0<i/\∃t' m',(aE k Ns)[i - 1]? =some (t',m')/\(m=m'\/m=m'+1))
 |[],k,i,t,m,_,h=>by simp[aE]at h
 |N::r,k,i,t,m,hne,h=>by
  have h:(N.map (fun p=>(p,(k:Int)))++aE (k+1) r)[i]? =some (t,m):=h;show(i=0/\m=(k:Int))\/(0<i/\∃t' m',(N.map (fun p=>(p,(k:Int)))++aE (k+1) r)[i - 1]? =some (t',m')/\(m=m'\/m=m'+1))
  have hN:0<N.length:=List.length_pos_iff.mpr (hne N (by simp));have lN:(N.map (fun p=>(p,(k:Int)))).length=N.length:=by simp
  have inN:∀j,j<N.length->∃t',(N.map (fun p=>(p,(k:Int)))++aE (k+1) r)[j]? =some (t',(k:Int)):=by intro j hj;refine⟨N[j],?_⟩;rw[List.getElem?_append_left (by omega),List.getElem?_map,List.getElem?_eq_getElem hj];rfl
  by_cases c:i<N.length
  ·obtain⟨t',ht'⟩:=inN i c;rw[ht']at h;cases h;by_cases i0:i=0
   ·exact .inl ⟨i0,rfl⟩
   ·obtain⟨t2,ht2⟩:=inN (i - 1) (by omega);exact .inr ⟨by omega,t2,_,ht2,.inl rfl⟩
  ·rw[List.getElem?_append_right (by omega),lN]at h;rcases uZ r (k+1) (i - N.length) t m (fun x hx=>hne x (by simp[hx])) h with⟨e1,e2⟩|⟨e1,t',m',e2,e3⟩
   ·obtain⟨t2,ht2⟩:=inN (i - 1) (by omega);exact .inr ⟨by omega,t2,_,ht2,.inr (by omega)⟩
   ·refine .inr ⟨by omega,t',m',?_,e3⟩;rw[List.getElem?_append_right (by omega),lN,show i - 1 - N.length=i - N.length - 1 by omega];exact e2
structure pV(Ns:List (List T3))(i:Nat)(Fs:List (List T3)):Prop where
 eq:aE 0 Fs=(aE 0 Ns).take i
 ne:∀F∈Fs,F≠[]
theorem pV.start(Ns:List (List T3)):pV Ns 0 []:=⟨rfl,by simp⟩
theorem pV.done{Ns Fs:List (List T3)}(hne:∀N∈Ns,N≠[])(h:pV Ns (aE 0 Ns).length Fs):Fs=Ns:=by have e:=h.eq;rw[List.take_of_length_le (Nat.le_refl _)]at e;exact yG Fs Ns 0 h.ne hne e
theorem pV.step{Ns Fs:List (List T3)}(hne:∀N∈Ns,N≠[]){i:Nat}{t:T3}{m:Int}(h:pV Ns i Fs)(hi:(aE 0 Ns)[i]? =some (t,m)):
  (m=(Fs.length:Int)/\pV Ns (i+1) (Fs++[[]++[t]]))\/∃F L,Fs=F++[L]/\m=(F.length:Int)/\pV Ns (i+1) (F++[L++[t]]):=by
 have hil:=(List.getElem?_eq_some_iff.mp hi).1;have new:m=(Fs.length:Int)->pV Ns (i+1) (Fs++[[]++[t]]):=by
  intro em;refine⟨?_,fun F hF=>?_⟩
  ·rw[iT,h.eq,take_snoc hi,em];rfl
  ·rcases List.mem_append.mp hF with hF|hF
   ·exact h.ne F hF
   ·have:F=[t]:=by simpa using hF
    rw[this];simp
 rcases uZ Ns 0 i t m hne hi with⟨i0,m0⟩|⟨ip,t',m',hi',hm⟩
 ·subst i0;have hF:Fs=[]:=by
   cases Fs with
   |nil=>rfl
   |cons F r=>
    have e:=h.eq;have:=h.ne F (by simp);cases F with
    |nil=>exact absurd rfl this
    |cons _ _=>simp[aE]at e
  subst hF;exact .inl ⟨by rw[m0];rfl,new (by rw[m0];rfl)⟩
 ·have hne2:Fs≠[]:=by intro z;have e:=h.eq;rw[z]at e;have:=congrArg List.length e;rw[List.length_take]at this;simp[aE]at this;omega
  obtain⟨F,L,eF⟩:∃F L,Fs=F++[L]:=⟨Fs.dropLast,Fs.getLast hne2,(List.dropLast_concat_getLast hne2).symm⟩
  subst eF;have hL:L≠[]:=h.ne L (by simp);have e:=h.eq;rw[iT]at e;have el:(aE 0 F++L.map fun p=>(p,(F.length:Int))).length=i:=by rw[e,List.length_take];omega
  have hLp:0<L.length:=List.length_pos_iff.mpr hL;have elast:(aE 0 F++L.map fun p=>(p,(F.length:Int)))[i - 1]? =some (L[L.length - 1],(F.length:Int)):=by rw[List.length_append,List.length_map]at el;rw[List.getElem?_append_right (by omega),List.getElem?_map,show i - 1 - (aE 0 F).length=L.length - 1 by omega,List.getElem?_eq_getElem (by omega)];rfl
  rw[e,List.getElem?_take_of_lt (by omega),hi']at elast;cases elast;rcases hm with hm|hm
  ·refine .inr ⟨F,L,rfl,hm,?_,fun G hG=>?_⟩
   ·rw[iT,List.map_append,<- List.append_assoc,e,take_snoc hi,hm];rfl
   ·rcases List.mem_append.mp hG with hG|hG
    ·exact h.ne G (by simp[hG])
    ·have:G=L++[t]:=by simpa using hG
     rw[this];simp
  ·have em:m=((F++[L]).length:Int):=by rw[hm,List.length_append];simp
   exact .inl ⟨em,new em⟩
end RM
namespace RM
open Roof
section
variable {i j s:Int}{t u:List Int}
theorem AO{t:List Int}{f:Top->RoofB.Answer}(h:houseOf (RoofBNeutral.text t)=none):RoofB.ofTop (RoofBNeutral.text t) f=[-1]:=by unfold RoofB.ofTop;rw[h];rfl
theorem AM{t:List Int}{f:Top->RoofB.Answer}{l:Cells}(h:houseOf (RoofBNeutral.text t)=some l):RoofB.ofTop (RoofBNeutral.text t) f=f (topOf l):=by unfold RoofB.ofTop;rw[h]
end
theorem vJ{h:List Nat}{p:Pl}(m:p∈h.map hP):aJ (bS h) p=some (d5 h p):=by unfold bS;rw[j3,if_pos m]
theorem HJ{h:List Nat}{t:T3}(h0:0<=t.2.2)(h4:t.2.2<4):(aJ (cW h) t).isSome=true↔(t.1,t.2.1)∈h.map hP:=by
 rw[aS];unfold cW;rw[gO];unfold fO;rw[List.mem_flatMap];constructor
 ·rintro⟨p,hp,ht⟩;simp only[List.mem_cons,List.not_mem_nil,or_false]at ht;rcases ht with rfl|rfl|rfl|rfl<;>exact hp
 ·intro hp;refine⟨_,hp,?_⟩;have cs:t.2.2=0\/t.2.2=1\/t.2.2=2\/t.2.2=3:=by omega
  obtain⟨a,b,c⟩:=t;simp only at cs;rcases cs with rfl|rfl|rfl|rfl<;>simp
end RM
namespace RM
open Roof
theorem Numbering.kN{l:Cells}{Ns:List (List T3)}(R:Numbering (halvesOf l) (trianglesOf (halvesOf l)).length Ns){k:Nat}{N:List T3}(hk:Ns[k]? =some N)(p:T3):p∈N↔∃t∈(topOf l).tris,tP t=p/\(topOf l).face t=k:=by
 obtain⟨a1,_,a3,nd,_⟩:=R.all (Nat.le_refl _);constructor
 ·intro hp;have e:=(rB Ns 0 p ((0+k:Nat):Int) nd).mpr ⟨k,N,hk,hp,rfl⟩;by_cases q:p∈(topOf l).tris.map tP
  ·obtain⟨t,ht,rfl⟩:=List.mem_map.mp q;rw[a1 t ht]at e;exact⟨t,ht,rfl,by have:=Option.some.inj e;omega⟩
  ·rw[a3 p q]at e;cases e
 ·rintro⟨t,ht,rfl,hf⟩;obtain⟨i,N',h1,h2,h3⟩:=(rB Ns 0 (tP t) _ nd).mp (a1 t ht);have:i=k:=by omega
  subst this;rw[hk]at h1;cases h1;exact h2
theorem Numbering.side{l:Cells}{Ns:List (List T3)}(R:Numbering (halvesOf l) (trianglesOf (halvesOf l)).length Ns):∀N∈Ns,∀t∈N,0<=t.2.2/\t.2.2<4:=by
 intro N hN p hp;obtain⟨k,hk⟩:=List.mem_iff_getElem?.mp hN;obtain⟨t,ht,rfl,_⟩:=(R.kN hk p).mp hp;show 0<=((t%4:Nat):Int)/\((t%4:Nat):Int)<4
 omega
theorem yM{α:Type}:∀{Ns:List (List α)},(∀N∈Ns,N≠[])->Ns.length<=Ns.flatten.length
 |[],_=>Nat.le_refl _
 |N::r,h=>by
  have:=yM (Ns:=r) fun M hM=>h M (List.mem_cons_of_mem _ hM)
  have:=List.length_pos_iff.mpr (h N List.mem_cons_self);rw[List.flatten_cons,List.length_append,List.length_cons];omega
theorem GL{α:Type}:∀{Ns:List (List α)}{N:List α},N∈Ns->N.length<=Ns.flatten.length
 |M::r,N,h=>by
  rw[List.flatten_cons,List.length_append];rcases List.mem_cons.mp h with rfl|h
  ·omega
  ·have:=GL h;omega
theorem Numbering.small{l:Cells}{Ns:List (List T3)}(R:Numbering (halvesOf l) (trianglesOf (halvesOf l)).length Ns)(h256:l.length<=256):Ns.flatten.length<=4096/\Ns.length<=4096/\∀N∈Ns,N.length<=4096:=by
 obtain⟨lab,firsts,O,_,_⟩:=R.ex;have h2:=bU O.nd O.sub;have tl:=j4 ((halvesOf l).map hP);rw[jZ,List.length_map,List.length_map,iG]at tl;rw[List.length_map]at h2;have f:Ns.flatten.length<=4096:=by omega
 exact⟨f,Nat.le_trans (yM O.ne) f,fun N hN=>Nat.le_trans (GL hN) f⟩
end RM
namespace RM
open Roof
theorem A3{h:List Nat}{t:T3}(h0:0<=t.2.2)(h4:t.2.2<4):t∈fO (h.map hP)↔(t.1,t.2.1)∈h.map hP:=by rw[<- HJ h0 h4,aS];unfold cW;rw[gO]
theorem EN{h:List Nat}{t:T3}(h0:0<=t.2.2)(h4:t.2.2<4)(m:(t.1,t.2.1)∈h.map hP):aJ (cW h) t=some (tD h t):=by unfold cW;rw[j3,if_pos ((A3 h0 h4).mpr m)]
end RM
namespace RM
open Roof
section
variable {κ μ:Type} [DecidableEq κ] [DecidableEq μ]
def cZ(k:κ)(L:List κ):Nat:=L.countP fun x=>decide (x=k)
theorem bV(k x:κ)(L:List κ):cZ k (x::L)=cZ k L+if x=k then 1 else 0:=by unfold cZ;rw[List.countP_cons];by_cases c:x=k<;>simp[c]
theorem kR(k:κ)(A B:List κ):cZ k (A++B)=cZ k A+cZ k B:=List.countP_append ..
theorem tH(k x:κ):cZ k [x]=if x=k then 1 else 0:=by rw[bV];simp[cZ]
theorem kQ{k:κ}{L:List κ}:0<cZ k L↔k∈L:=by
 unfold cZ;rw[List.countP_pos_iff];constructor
 ·rintro⟨a,ha,e⟩;exact(of_decide_eq_true e)▸ha
 ·intro h;exact⟨k,h,decide_eq_true rfl⟩
theorem vN{k:κ}{L:List κ}(h:k∉L):cZ k L=0:=by have:=mt (kQ (k:=k) (L:=L)).mp h;omega
theorem hJ{k:κ}{g:κ->Bool}(h:g k=true):∀L:List κ,cZ k (L.filter g)=cZ k L
 |[]=>rfl
 |x::L=>by
  rw[List.filter_cons];by_cases c:x=k
  ·subst c;rw[if_pos h,bV,bV,hJ h L]
  ·by_cases q:g x=true
   ·rw[if_pos q,bV,bV,hJ h L]
   ·rw[if_neg q,bV,if_neg c,hJ h L];rfl
theorem F1{A B:List κ}(h:A.Perm B)(k:κ):cZ k A=cZ k B:=h.countP_eq _
structure c6(tab:List (κ×Int))(L:List κ):Prop where
 nd:(tab.map (·.1)).Nodup
 get:∀k,aJ tab k=if k∈L then some (cZ k L:Int)else none
theorem c6.start:c6 ([]:List (κ×Int)) []:=⟨List.nodup_nil,fun k=>by simp[aJ]⟩
theorem c6.step{tab:List (κ×Int)}{L:List κ}(C:c6 tab L)(k:κ):c6 (cV tab k ((aJ tab k).getD 0+1)) (L++[k]):=by
 refine⟨jM C.nd,fun j=>?_⟩;rw[gU];by_cases e:j=k
 ·subst e;rw[if_pos rfl,if_pos (by simp),C.get];by_cases h:j∈L
  ·rw[if_pos h,kR,tH,if_pos rfl];rfl
  ·rw[if_neg h,kR,tH,if_pos rfl,vN h];rfl
 ·rw[if_neg e,C.get];have:(j∈L++[k])↔j∈L:=by simp[e]
  by_cases h:j∈L
  ·rw[if_pos h,if_pos (this.mpr h),kR,tH,if_neg (fun z=>e z.symm)];simp
  ·rw[if_neg h,if_neg (fun z=>h (this.mp z))]
theorem JD{tab:List (κ×Int)}(nd:(tab.map (·.1)).Nodup):∀{k:κ}{v:Int},(k,v)∈tab↔aJ tab k=some v:=by
 induction tab with
 |nil=>intro k v;simp[aJ]
 |cons x r ih=>
  intro k v;rw[List.map_cons,List.nodup_cons]at nd;rw[bW,List.mem_cons];by_cases c:x.1=k
  ·rw[if_pos c];constructor
   ·rintro(e|e)
    ·rw[<- e]
    ·exact absurd (List.mem_map.mpr ⟨_,e,c.symm⟩) nd.1
   ·intro e;left;cases e;rw[<- c]
  ·rw[if_neg c,<- ih nd.2];constructor
   ·rintro(e|e)
    ·rw[<- e]at c;exact absurd rfl c
    ·exact e
   ·exact fun e=>.inr e
theorem c6.mem{tab:List (κ×Int)}{L:List κ}(C:c6 tab L){k:κ}{v:Int}:(k,v)∈tab↔k∈L/\v=(cZ k L:Int):=by
 rw[JD C.nd,C.get];by_cases h:k∈L
 ·rw[if_pos h];exact⟨fun e=>⟨h,(Option.some.inj e).symm⟩,fun e=>by rw[e.2]⟩
 ·rw[if_neg h];exact⟨fun e=>(by cases e),fun e=>absurd e.1 h⟩
theorem c6.keys{tab:List (κ×Int)}{L:List κ}(C:c6 tab L)(k:κ):k∈tab.map (·.1)↔k∈L:=by
 rw[<- aS,C.get];by_cases h:k∈L
 ·rw[if_pos h];simp[h]
 ·rw[if_neg h];simp[h]
theorem c6.len{tab:List (κ×Int)}{L:List κ}(C:c6 tab L):tab.length<=L.length:=by
 have:=bU C.nd fun k hk=>(C.keys k).mp hk
 rw[List.length_map]at this;exact this
noncomputable def wsum(f:κ->μ)(ps:List (κ×Int))(m:μ):Int:=((ps.filter fun p=>decide (f p.1=m)).map (·.2)).sum
theorem wsum_snoc(f:κ->μ)(ps:List (κ×Int))(p:κ×Int)(m:μ):wsum f (ps++[p]) m=wsum f ps m+if f p.1=m then p.2 else 0:=by unfold wsum;rw[List.filter_append,List.map_append,List.sum_append];by_cases c:f p.1=m<;>simp[c]
structure uD(f:κ->μ)(tab:List (μ×Int))(ps:List (κ×Int)):Prop where
 nd:(tab.map (·.1)).Nodup
 get:∀m,aJ tab m=if m∈ps.map (fun p=>f p.1)then some (wsum f ps m)else none
theorem uD.start(f:κ->μ):uD f [] []:=⟨List.nodup_nil,fun m=>by simp[aJ]⟩
theorem D6(f:κ->μ):∀{ps:List (κ×Int)}{m:μ},m∉ps.map (fun p=>f p.1)->wsum f ps m=0:=by
 intro ps m h;unfold wsum;have:ps.filter (fun p=>decide (f p.1=m))=[]:=by rw[List.filter_eq_nil_iff];intro p hp z;exact h (List.mem_map.mpr ⟨p,hp,of_decide_eq_true z⟩)
 rw[this];rfl
theorem uD.step{f:κ->μ}{tab:List (μ×Int)}{ps:List (κ×Int)}(C:uD f tab ps)(p:κ×Int):uD f (cV tab (f p.1) ((aJ tab (f p.1)).getD 0+p.2)) (ps++[p]):=by
 refine⟨jM C.nd,fun j=>?_⟩;rw[gU,wsum_snoc];by_cases e:j=f p.1
 ·subst e;rw[if_pos rfl,if_pos (by simp),if_pos rfl,C.get];by_cases h:f p.1∈ps.map (fun p=>f p.1)
  ·rw[if_pos h];rfl
  ·rw[if_neg h,D6 f h];rfl
 ·have e':¬f p.1=j:=fun z=>e z.symm
  rw[if_neg e,C.get];simp only[if_neg e',Int.add_zero];have:(j∈(ps++[p]).map (fun p=>f p.1))↔j∈ps.map (fun p=>f p.1):=by rw[List.map_append,List.mem_append];simp[e]
  by_cases h:j∈ps.map (fun p=>f p.1)
  ·rw[if_pos h,if_pos (this.mpr h)]
  ·rw[if_neg h,if_neg (fun z=>h (this.mp z))]
theorem oA(g:κ->Bool)(p:κ):∀L:List κ,L.countP g=(if g p=true then cZ p L else 0)+(L.filter fun x=>decide (x≠p)).countP g
 |[]=>by simp[cZ]
 |x::L=>by
  have ih:=oA g p L;rw[List.countP_cons,bV,List.filter_cons,ih];by_cases c:x=p
  ·subst c;simp only[ne_eq,not_true_eq_false,decide_false,Bool.false_eq_true,if_false,if_true];split<;>omega
  ·have c2:decide (x≠p)=true:=by simpa using c
   simp only[c2,c,if_false,if_true,List.countP_cons,Nat.add_zero];omega
theorem rG(f:κ->μ)(m:μ):∀{tab:List (κ×Int)}{L:List κ},c6 tab L->wsum f tab m=((L.countP fun x=>decide (f x=m):Nat):Int)
 |[],L,C=>by
  have:L=[]:=by
   cases L with
   |nil=>rfl
   |cons x r=>have:=C.get x;rw[if_pos List.mem_cons_self]at this;cases this
  subst this;rfl
 |(p,v)::r,L,C=>by
  have hv:v=(cZ p L:Int):=(C.mem.mp List.mem_cons_self).2;have nd:=C.nd;rw[List.map_cons,List.nodup_cons]at nd;have C2:c6 r (L.filter fun x=>decide (x≠p)):=by
   refine⟨nd.2,fun k=>?_⟩;by_cases c:k=p
   ·subst c;rw[if_neg (by simp)];cases e:aJ r k with
    |none=>rfl
    |some z=>exact absurd ((aS k r).mp (by rw[e];rfl)) nd.1
   ·have:=C.get k;rw[bW,if_neg (fun z=>c z.symm)]at this;rw[this];have hm:(k∈L.filter fun x=>decide (x≠p))↔k∈L:=by simp[c]
    by_cases h:k∈L
    ·rw[if_pos h,if_pos (hm.mpr h),hJ (by simpa using c)]
    ·rw[if_neg h,if_neg (fun z=>h (hm.mp z))]
  have ih:=rG f m C2;rw[oA _ p L];have e:wsum f ((p,v)::r) m=(if f p=m then v else 0)+wsum f r m:=by unfold wsum;rw[List.filter_cons];by_cases c:f p=m<;>simp[c]
  rw[e,ih,hv];by_cases c:f p=m<;>simp[c]
theorem uD.done{f:κ->μ}{tab:List (μ×Int)}{ps:List (κ×Int)}{L:List κ}(C:uD f tab ps)(D:c6 ps L):c6 tab (L.map f):=by
 refine⟨C.nd,fun m=>?_⟩;rw[C.get,rG f m D];have hm:(m∈ps.map (fun p=>f p.1))↔m∈L.map f:=by
  constructor
  ·intro h;obtain⟨p,hp,rfl⟩:=List.mem_map.mp h;exact List.mem_map.mpr ⟨p.1,(D.keys p.1).mp (List.mem_map.mpr ⟨p,hp,rfl⟩),rfl⟩
  ·intro h;obtain⟨k,hk,rfl⟩:=List.mem_map.mp h;obtain⟨p,hp,rfl⟩:=List.mem_map.mp ((D.keys k).mpr hk);exact List.mem_map.mpr ⟨p,hp,rfl⟩
 have hc:(L.countP fun x=>decide (f x=m))=cZ m (L.map f):=by unfold cZ;rw[List.countP_map];rfl
 by_cases h:m∈L.map f
 ·rw[if_pos h,if_pos (hm.mpr h),hc]
 ·rw[if_neg h,if_neg (fun z=>h (hm.mp z))]
end
end RM
namespace RM
open Roof
theorem gP{a b:Nat×Nat}:lessTile a b=true↔a.1<b.1\/(a.1=b.1/\a.2<=b.2):=by unfold lessTile;simp[Bool.or_eq_true,Bool.and_eq_true]
theorem E4{a b:Nat×Nat}(h:lessTile a b=true)(g:lessTile b a=true):a=b:=by rw[gP]at h g;exact Prod.ext (by omega) (by omega)
structure RE{κ:Type}[DecidableEq κ](tab:List (κ×Nat))(L:List κ):Prop where
 nd:(tab.map (·.1)).Nodup
 mem:∀x n,(x,n)∈tab↔x∈L/\n=cZ x L
 head:(tab.map (·.1)).head?=L.head?
theorem mK:∀(l:List (Nat×Nat)),l.Pairwise (fun a b=>lessTile a b=true)->RE (counted l) l
 |[],_=>⟨List.nodup_nil,fun x n=>by simp[counted],rfl⟩
 |x::r,hs=>by
  rw[List.pairwise_cons]at hs;have ih:=mK r hs.2;have e:counted (x::r)=match counted r with
   |(y,n)::l=>if x=y then(y,n+1)::l else(x,1)::(y,n)::l
   |[]=>[(x,1)]:=rfl
  rw[e];cases q:counted r with
  |nil=>
   rw[q]at ih;have hr:r=[]:=by
    cases r with
    |nil=>rfl
    |cons z r=>have:=ih.head;simp at this
   subst hr;refine⟨by simp,fun z n=>?_,rfl⟩;simp only[List.mem_singleton,Prod.mk.injEq];constructor
   ·rintro⟨rfl,rfl⟩;simp[bV,cZ]
   ·rintro⟨rfl,h⟩;exact⟨rfl,by simpa[bV,cZ]using h⟩
  |cons yn l=>
   obtain⟨y,n⟩:=yn;rw[q]at ih;obtain⟨r',hr⟩:∃r',r=y::r':=by
    cases r with
    |nil=>have:=ih.head;simp at this
    |cons z r'=>have:=ih.head;simp at this;exact⟨r',by rw[this]⟩
   have hn:n=cZ y r:=((ih.mem y n).mp List.mem_cons_self).2;have nd:=ih.nd;rw[List.map_cons,List.nodup_cons]at nd;have inl:∀z k,(z,k)∈l->z≠y:=fun z k h e=>nd.1 (List.mem_map.mpr ⟨(z,k),h,e⟩)
   by_cases c:x=y
   ·subst c;simp only[if_true];refine⟨by rw[List.map_cons,List.nodup_cons];exact nd,fun z k=>?_,rfl⟩;by_cases cz:z=x
    ·subst cz;rw[List.mem_cons,bV,if_pos rfl,<- hn];constructor
     ·rintro(h|h)
      ·cases h;exact⟨List.mem_cons_self,rfl⟩
      ·exact absurd rfl (inl z k h)
     ·rintro⟨_,rfl⟩;exact .inl rfl
    ·have m1:=ih.mem z k;rw[List.mem_cons]at m1 ⊢;rw[List.mem_cons,bV,if_neg (fun e=>cz e.symm),Nat.add_zero];have n1:¬((z,k)=(x,n)):=fun e=>cz (Prod.mk.inj e).1
     have n2:¬((z,k)=(x,n+1)):=fun e=>cz (Prod.mk.inj e).1
     simp only[n1,n2,cz,false_or]at m1 ⊢;exact m1
   ·have xr:x∉r:=fun h=>by
     have h1:=hs.1 y (by rw[hr];exact List.mem_cons_self);rw[hr]at h hs;rcases List.mem_cons.mp h with h|h
     ·exact c h
     ·exact c (E4 h1 ((List.pairwise_cons.mp hs.2).1 x h))
    simp only[c,if_false];refine⟨?_,fun z k=>?_,rfl⟩
    ·rw[List.map_cons,List.nodup_cons];refine⟨fun h=>?_,ih.nd⟩;obtain⟨⟨z,k⟩,hz,e⟩:=List.mem_map.mp h;have e:z=x:=e;exact xr (e▸ ((ih.mem z k).mp hz).1)
    ·rw[List.mem_cons,ih.mem z k];by_cases cz:z=x
     ·subst cz;rw[bV,if_pos rfl,vN xr];constructor
      ·rintro(h|h)
       ·cases h;exact⟨List.mem_cons_self,rfl⟩
       ·exact absurd h.1 xr
      ·rintro⟨_,rfl⟩;exact .inl rfl
     ·rw[List.mem_cons,bV,if_neg (fun e=>cz e.symm),Nat.add_zero];have n1:¬((z,k)=(x,1)):=fun e=>cz (Prod.mk.inj e).1
      simp only[n1,cz,false_or]
theorem oS{α:Type}[DecidableEq α]{A B:List α}(ha:A.Nodup)(hb:B.Nodup)(h:∀x,x∈A↔x∈B):A.length=B.length:=
 Nat.le_antisymm (bU ha fun x hx=>(h x).mp hx) (bU hb fun x hx=>(h x).mpr hx)
theorem iD{α β:Type}:∀{l:List (α×β)},(l.map (·.1)).Nodup->l.Nodup
 |[],_=>List.nodup_nil
 |x::l,h=>by rw[List.map_cons,List.nodup_cons]at h;rw[List.nodup_cons];exact⟨fun m=>h.1 (List.mem_map.mpr ⟨x,m,rfl⟩),iD h.2⟩
theorem iJ{κ μ:Type}[DecidableEq κ][DecidableEq μ]{f:κ->μ}(inj:∀{x y},f x=f y->x=y)(x:κ):∀L:List κ,cZ (f x) (L.map f)=cZ x L
 |[]=>rfl
 |y::L=>by
  rw[List.map_cons,bV,bV,iJ inj x L];by_cases c:y=x
  ·rw[if_pos c,if_pos (by rw[c])]
  ·rw[if_neg c,if_neg (fun e=>c (inj e))]
theorem JI{x y:Nat×Nat}(e:iP x=iP y):x=y:=by unfold iP at e;exact Prod.ext (by have:=congrArg Prod.fst e;simp at this;omega) (by have:=congrArg Prod.snd e;simp at this;omega)
theorem DI{κ μ:Type}[DecidableEq κ][DecidableEq μ]{f:κ->μ}(inj:∀{x y},f x=f y->x=y){tab:List (μ×Int)}{tn:List (κ×Nat)}{L M:List κ}(C:c6 tab (L.map f))(N:RE tn M)(hp:∀x,cZ x M=cZ x L):
  tab.length=tn.length/\∀v:Nat,(tab.map (·.2)).count (v:Int)=tn.countP (fun x=>x.2==v):=by
 have ml:∀x,x∈M↔x∈L:=fun x=>by rw[<- kQ,<- kQ,hp]
 have same:∀z,z∈tab↔z∈tn.map fun x=>(f x.1,(x.2:Int)):=by
  rintro⟨k,v⟩;rw[C.mem];constructor
  ·rintro⟨h,rfl⟩;obtain⟨x,hx,rfl⟩:=List.mem_map.mp h;exact List.mem_map.mpr ⟨(x,cZ x L),(N.mem x _).mpr ⟨(ml x).mpr hx,(hp x).symm⟩,by rw[iJ inj]⟩
  ·intro h;obtain⟨⟨x,n⟩,hx,e⟩:=List.mem_map.mp h;obtain⟨h1,h2⟩:=(N.mem x n).mp hx;cases e;refine⟨List.mem_map.mpr ⟨x,(ml x).mp h1,rfl⟩,?_⟩;show(n:Int)=((cZ (f x) (L.map f):Nat):Int)
   rw[iJ inj,h2,hp]
 have ndT:=iD C.nd;have ndN:(tn.map fun x=>(f x.1,(x.2:Int))).Nodup:=by
  apply iD;rw[List.map_map];have:((fun x:μ×Int=>x.1)∘fun x:κ×Nat=>(f x.1,(x.2:Int)))=f∘ (·.1):=rfl;rw[this,<- List.map_map];exact d8 N.nd fun a _ b _ e=>inj e
 refine⟨?_,fun v=>?_⟩
 ·have:=oS ndT ndN same;rw[List.length_map]at this;exact this
 ·rw[List.count_eq_countP,List.countP_map,List.countP_eq_length_filter];have h2:tn.countP (fun x=>x.2==v)=(tn.map fun x=>(f x.1,(x.2:Int))).countP (fun z=>z.2==(v:Int)):=by
   rw[List.countP_map];congr 1;funext x;show(x.2==v)=((x.2:Int)==(v:Int))
   rw[Bool.eq_iff_iff,beq_iff_eq,beq_iff_eq];omega
  rw[h2,List.countP_eq_length_filter];refine oS (ndT.filter _) (ndN.filter _) fun z=>?_
  rw[List.mem_filter,List.mem_filter,same z];rfl
theorem vC{α:Type}(g:α->Bool):∀l:List α,l.length=l.countP g+l.countP fun x=>!g x
 |[]=>rfl
 |x::l=>by rw[List.length_cons,List.countP_cons,List.countP_cons,vC g l];cases g x<;>simp<;>omega
theorem FK{tab:List (Pl×Int)}{T:Top}{z:Size}{k:Nat}(C:c6 tab (((T.trisOf k).map (T.tile z)).map iP)):
  RoofB.told [(tally z (T.tiles z k)).1,(tally z (T.tiles z k)).2]=[((tab.map (·.2)).count (4*((z.wide:Int)*(z.high:Int))):Int),(tab.length:Int) - ((tab.map (·.2)).count (4*((z.wide:Int)*(z.high:Int))):Int)]:=by
 have srt:(((T.trisOf k).map (T.tile z)).mergeSort lessTile).Pairwise (fun a b=>lessTile a b=true):=by
  apply List.pairwise_mergeSort
  ·intro a b c h g;rw[gP]at h g ⊢;omega
  ·intro a b;rw[Bool.or_eq_true,gP,gP];omega
 have N:=mK _ srt;have hp:∀x,cZ x (((T.trisOf k).map (T.tile z)).mergeSort lessTile)=cZ x ((T.trisOf k).map (T.tile z)):=fun x=>F1 (List.mergeSort_perm _ _) x
 obtain⟨e1,e2⟩:=DI (f:=iP) (fun{x y} e=>JI e) C N hp;have e3:=e2 (4*(z.wide*z.high));have ev:((4*(z.wide*z.high):Nat):Int)=4*((z.wide:Int)*(z.high:Int)):=by push_cast;rfl
 rw[ev]at e3;have e4:T.tiles z k=counted (((T.trisOf k).map (T.tile z)).mergeSort lessTile):=rfl;rw[<- e4]at e1 e3;have e5:(T.tiles z k).length=(tally z (T.tiles z k)).1+(tally z (T.tiles z k)).2:=vC (fun x:(Nat×Nat)×Nat=>x.2==4*(z.wide*z.high)) (T.tiles z k);have e6:(tally z (T.tiles z k)).1=(T.tiles z k).countP (fun x=>x.2==4*(z.wide*z.high)):=rfl;rw[<- e6]at e3;generalize (tally z (T.tiles z k)).1=a at e3 e5 ⊢;generalize (tally z (T.tiles z k)).2=b at e5 ⊢;unfold RoofB.told;simp only[List.map_cons,List.map_nil];rw[e3,e1,e5];congr 2;omega
end RM
namespace RM
open Roof
noncomputable def dY(w h:Int):Bool:=decide (2<=w)&& (decide (w<=64)&& (decide (w%2=0)&& (decide (1<=h)&& decide (h<=64))))
noncomputable def b8(h:List Nat)(t:T3):Pl:=(d5 h (t.1,t.2.1),if tD h t%2=0 then t.1 else t.2.1)
def cH(w h:Int)(p:Pl):Pl:=(p.1/h,(p.2+w/2*(p.1/h%2))/w)
theorem rS{w h:Int}(w0:0<=w)(h0:0<=h):dY w h=(RoofB.sizeOf w.toNat h.toNat).ok:=by unfold dY RoofB.sizeOf Size.ok;rw[Bool.eq_iff_iff];simp only[Bool.and_eq_true,decide_eq_true_eq,beq_iff_eq];omega
theorem vY{l:Cells}(hl:∀c∈l,c.1<64/\c.2<64){w h:Int}(s:dY w h=true){t:Nat}(ht:t∈(topOf l).tris):cH w h (b8 (halvesOf l) (tP t))=iP ((topOf l).tile (RoofB.sizeOf w.toNat h.toNat) t):=by
 have hr:t/4∈halvesOf l:=d4.mp ht;have hv:0<(gridOf (halvesOf l)).val (t/4):=(wO (dU hl)).mpr hr;unfold dY at s;simp only[Bool.and_eq_true,decide_eq_true_eq]at s;obtain⟨s1,s2,s3,s4,s5⟩:=s;obtain⟨w',rfl⟩:=Int.eq_ofNat_of_zero_le (show 0<=w by omega);obtain⟨h',rfl⟩:=Int.eq_ofNat_of_zero_le (show 0<=h by omega);have e1:((tP t).1,(tP t).2.1)=hP (t/4):=rfl;unfold b8;rw[e1,vL (dU hl) hr,CO (dU hl) ht];have ef:(topOf l).faces t=(nV (halvesOf l)).getD t 4:=rfl;have et:(topOf l).tile (RoofB.sizeOf (w':Int).toNat (h':Int).toNat) t=(((gridOf (halvesOf l)).val (t/4) - 1)/h',((if(topOf l).faces t%2=0 then iOf (t/4)else jOf (t/4))+if((gridOf (halvesOf l)).val (t/4) - 1)/h'%2=0 then 0 else w'/2)/w'):=rfl;rw[et,<- ef];generalize (topOf l).faces t=fc;obtain⟨v,hv'⟩:∃v,(gridOf (halvesOf l)).val (t/4)=v+1:=⟨(gridOf (halvesOf l)).val (t/4) - 1,by omega⟩
 rw[hv'];have e2:(((v+1:Nat):Int) - 1)=(v:Int):=by omega
 have e3:v+1 - 1=v:=by omega
 rw[e2,e3];have al:(if(fc:Int)%2=0 then(tP t).1 else(tP t).2.1)=((if fc%2=0 then iOf (t/4)else jOf (t/4):Nat):Int):=by
  by_cases c:fc%2=0
  ·rw[if_pos c,if_pos (by omega)];rfl
  ·rw[if_neg c,if_neg (by omega)];rfl
 unfold cH iP;simp only;rw[al];generalize (if fc%2=0 then iOf (t/4)else jOf (t/4))=a;have d1:(v:Int)/(h':Int)=((v/h':Nat):Int):=by simp
 have d2:(w':Int)/2=((w'/2:Nat):Int):=by simp
 rw[d1,d2];generalize v/h'=q;generalize w'/2=u;refine Prod.ext rfl ?_;show((a:Int)+(u:Int)*((q:Int)%2))/(w':Int)=(((a+if q%2=0 then 0 else u)/w':Nat):Int)
 have:(a:Int)+(u:Int)*((q:Int)%2)=((a+if q%2=0 then 0 else u:Nat):Int):=by
  by_cases c:q%2=0
  ·rw[if_pos c,show(q:Int)%2=0 by omega];simp
  ·rw[if_neg c,show(q:Int)%2=1 by omega];simp
 rw[this];simp
section
variable {κ:Type} [DecidableEq κ]
theorem c6.congr{tab:List (κ×Int)}{L M:List κ}(C:c6 tab L)(h:∀k,cZ k L=cZ k M):c6 tab M:=by
 refine⟨C.nd,fun k=>?_⟩;have hm:k∈L↔k∈M:=by rw[<- kQ,<- kQ,h]
 rw[C.get,h];by_cases c:k∈L
 ·rw[if_pos c,if_pos (hm.mp c)]
 ·rw[if_neg c,if_neg (fun z=>c (hm.mpr z))]
theorem u9{α:Type}[DecidableEq α]{A B:List α}(ha:A.Nodup)(hb:B.Nodup)(h:∀x,x∈A↔x∈B)(g:α->κ)(k:κ):cZ k (A.map g)=cZ k (B.map g):=by
 unfold cZ;rw[List.countP_map,List.countP_map,List.countP_eq_length_filter,List.countP_eq_length_filter];refine oS (ha.filter _) (hb.filter _) fun z=>?_
 rw[List.mem_filter,List.mem_filter,h z]
end
theorem IG{l:Cells}(hl:∀c∈l,c.1<64/\c.2<64){a b:Nat}(ha:a∈(topOf l).tris)(hb:b∈(topOf l).tris)(e:tP a=tP b):a=b:=by have h1:=pM (dU hl _ (d4.mp ha)) (dU hl _ (d4.mp hb)) (show hP (a/4)=hP (b/4)from Prod.ext (show(tP a).1=(tP b).1 by rw[e]) (show(tP a).2.1=(tP b).2.1 by rw[e]));have h2:((a%4:Nat):Int)=((b%4:Nat):Int):=congrArg (fun z=>z.2.2) e;omega
theorem pZ:∀{h:List Nat},h.Nodup->(trianglesOf h).Nodup
 |[],_=>List.nodup_nil
 |r::h,nd=>by
  rw[List.nodup_cons]at nd;have e:trianglesOf (r::h)=[4*r,4*r+1,4*r+2,4*r+3]++trianglesOf h:=rfl;rw[e,List.nodup_append];refine⟨by simp,pZ nd.2,fun a ha b hb e=>?_⟩;subst e;have h1:=d4.mp hb;have h2:a/4=r:=by simp only[List.mem_cons,List.not_mem_nil,or_false]at ha;omega
  exact nd.1 (h2▸h1)
theorem BF{l:Cells}(hn:l.Nodup)(hl:∀c∈l,c.1<64/\c.2<64){Ns:List (List T3)}(R:Numbering (halvesOf l) (trianglesOf (halvesOf l)).length Ns){k:Nat}{N:List T3}(hk:Ns[k]? =some N){w h:Int}(s:dY w h=true){tab:List (Pl×Int)}
  (C:c6 tab ((N.map (b8 (halvesOf l))).map (cH w h))):c6 tab ((((topOf l).trisOf k).map ((topOf l).tile (RoofB.sizeOf w.toNat h.toNat))).map iP):=by
 have sub:∀t∈(topOf l).trisOf k,t∈(topOf l).tris:=fun t ht=>(List.mem_filter.mp ht).1
 have e:(((topOf l).trisOf k).map ((topOf l).tile (RoofB.sizeOf w.toNat h.toNat))).map iP=(((topOf l).trisOf k).map tP).map (fun p=>cH w h (b8 (halvesOf l) p)):=by rw[List.map_map,List.map_map];apply List.map_congr_left;intro t ht;exact(vY hl s (sub t ht)).symm
 rw[e];rw[List.map_map]at C;refine C.congr fun m=>u9 ?_ ?_ (fun p=>?_) _ m
 ·exact(List.sublist_flatten_of_mem (List.mem_of_getElem? hk)).nodup (R.all (Nat.le_refl _)).2.2.2.1
 ·refine d8 ?_ fun a ha b hb e=>IG hl (sub a ha) (sub b hb) e
  exact(pZ ((fM hn hl).imp fun{a b} h=>by omega)).filter _
 ·rw[R.kN hk p,List.mem_map];constructor
  ·rintro⟨t,ht,rfl,hf⟩;exact⟨t,List.mem_filter.mpr ⟨ht,by rw[hf];simp⟩,rfl⟩
  ·rintro⟨t,ht,rfl⟩;obtain⟨h1,h2⟩:=List.mem_filter.mp ht;exact⟨t,h1,rfl,by simpa using h2⟩
theorem Numbering.half{l:Cells}{Ns:List (List T3)}(R:Numbering (halvesOf l) (trianglesOf (halvesOf l)).length Ns):∀N∈Ns,∀t∈N,(t.1,t.2.1)∈(halvesOf l).map hP:=by intro N hN p hp;obtain⟨k,hk⟩:=List.mem_iff_getElem?.mp hN;obtain⟨t,ht,rfl,_⟩:=(R.kN hk p).mp hp;exact List.mem_map.mpr ⟨t/4,d4.mp ht,rfl⟩
end RM
namespace RM
open Roof
theorem foldl_max:∀(l:List Nat)(a:Nat),a<=l.foldl max a/\(∀x∈l,x<=l.foldl max a)/\(l.foldl max a=a\/l.foldl max a∈l)
 |[],a=>⟨Nat.le_refl _,fun x h=>by simp at h,.inl rfl⟩
 |y::l,a=>by
  obtain⟨h1,h2,h3⟩:=foldl_max l (max a y);show a<=l.foldl max (max a y)/\(∀x∈y::l,x<=l.foldl max (max a y))/\(l.foldl max (max a y)=a\/l.foldl max (max a y)∈y::l)
  refine⟨by omega,fun x hx=>?_,?_⟩
  ·rcases List.mem_cons.mp hx with rfl|hx
   ·omega
   ·exact h2 x hx
  ·rcases h3 with h3|h3
   ·rw[h3];by_cases c:a<=y
    ·right;rw[Nat.max_eq_right c];exact List.mem_cons_self
    ·left;omega
   ·exact .inr (List.mem_cons_of_mem _ h3)
theorem BM{l:Cells}(hn:l.Nodup)(hl:∀c∈l,c.1<64/\c.2<64){Ns:List (List T3)}(R:Numbering (halvesOf l) (trianglesOf (halvesOf l)).length Ns){k:Nat}{N:List T3}(hk:Ns[k]? =some N){w h:Int}(s:dY w h=true){m:Int}
  (hm:∃t∈N,(b8 (halvesOf l) t).1=m) (hle:∀t∈N,(b8 (halvesOf l) t).1<=m):(((topOf l).courses (RoofB.sizeOf w.toNat h.toNat) k:Nat):Int)=m/h+1:=by
 have hpos:0<h:=by unfold dY at s;simp only[Bool.and_eq_true,decide_eq_true_eq]at s;omega
 have srt:((((topOf l).trisOf k).map ((topOf l).tile (RoofB.sizeOf w.toNat h.toNat))).mergeSort lessTile).Pairwise (fun a b=>lessTile a b=true):=by
  apply List.pairwise_mergeSort
  ·intro a b c h g;rw[gP]at h g ⊢;omega
  ·intro a b;rw[Bool.or_eq_true,gP,gP];omega
 have cn:=mK _ srt;have key:∀x n,(x,n)∈(topOf l).tiles (RoofB.sizeOf w.toNat h.toNat) k->∃t∈N,(x.1:Int)=(b8 (halvesOf l) t).1/h:=by intro x n hx;have h1:=((cn.mem x n).mp hx).1;rw[List.mem_mergeSort]at h1;obtain⟨t,ht,rfl⟩:=List.mem_map.mp h1;obtain⟨ht1,ht2⟩:=List.mem_filter.mp ht;refine⟨tP t,(R.kN hk _).mpr ⟨t,ht1,rfl,by simpa using ht2⟩,?_⟩;have:=congrArg Prod.fst (vY hl s ht1);exact this.symm
 have yek:∀t∈N,∃x n,(x,n)∈(topOf l).tiles (RoofB.sizeOf w.toNat h.toNat) k/\(x.1:Int)=(b8 (halvesOf l) t).1/h:=by
  intro p hp;obtain⟨t,ht,rfl,hf⟩:=(R.kN hk p).mp hp;refine⟨(topOf l).tile (RoofB.sizeOf w.toNat h.toNat) t,_,(cn.mem _ _).mpr ⟨?_,rfl⟩,?_⟩
  ·rw[List.mem_mergeSort];exact List.mem_map.mpr ⟨t,List.mem_filter.mpr ⟨ht,by rw[hf];simp⟩,rfl⟩
  ·exact(congrArg Prod.fst (vY hl s ht)).symm
 obtain⟨f1,f2,f3⟩:=foldl_max (((topOf l).tiles (RoofB.sizeOf w.toNat h.toNat) k).map fun x=>x.1.1+1) 0;have e:(topOf l).courses (RoofB.sizeOf w.toNat h.toNat) k=(((topOf l).tiles (RoofB.sizeOf w.toNat h.toNat) k).map fun x=>x.1.1+1).foldl max 0:=rfl;rw[<- e]at f1 f2 f3;obtain⟨t0,ht0,e0⟩:=hm;obtain⟨x0,n0,hx0,ex0⟩:=yek t0 ht0;have u1:=f2 (x0.1+1) (List.mem_map.mpr ⟨(x0,n0),hx0,rfl⟩);rw[e0]at ex0;rcases f3 with f3|f3
 ·omega
 ·obtain⟨⟨x,n⟩,hx,ex⟩:=List.mem_map.mp f3;obtain⟨t,ht,et⟩:=key x n hx;have ex:x.1+1=(topOf l).courses (RoofB.sizeOf w.toNat h.toNat) k:=ex;have:=Int.ediv_le_ediv hpos (hle t ht);omega
end RM
namespace RM
open Roof
theorem BZ(f:Nat->Nat)(g:Nat->Int):∀l:List Nat,(∀k∈l,((f k:Nat):Int)=g k)->(((l.map f).sum:Nat):Int)=(l.map g).sum
 |[],_=>rfl
 |k::l,h=>by
  rw[List.map_cons,List.sum_cons,List.map_cons,List.sum_cons,<- h k List.mem_cons_self,<- BZ f g l fun x hx=>h x (List.mem_cons_of_mem _ hx)]
  push_cast
  rfl
theorem uO{α:Type}{l:List α}{g:Nat->α}(h:∀k x,l[k]? =some x->g k=x):(List.range l.length).map g=l:=by
 apply List.ext_getElem?;intro k;rw[List.getElem?_map];by_cases c:k<l.length
 ·rw[List.getElem?_range c,List.getElem?_eq_getElem c];exact congrArg some (h k _ (List.getElem?_eq_getElem c))
 ·rw[List.getElem?_eq_none (by rw[List.length_range];omega),List.getElem?_eq_none (by omega)];rfl
theorem J9{m:Int}{l:List Nat}(f:Nat->Nat){cs:List Int}(e:l.map (fun k=>((f k:Nat):Int))=cs)(hm:m∈cs)(hle:∀y∈cs,y<=m):(((l.map f).foldl max 0:Nat):Int)=m:=by
 obtain⟨h1,h2,h3⟩:=foldl_max (l.map f) 0;subst e;obtain⟨k,hk,rfl⟩:=List.mem_map.mp hm;have a:=h2 (f k) (List.mem_map.mpr ⟨k,hk,rfl⟩);rcases h3 with h3|h3
 ·omega
 ·obtain⟨j,hj,e⟩:=List.mem_map.mp h3;have b:=hle _ (List.mem_map.mpr ⟨j,hj,rfl⟩);omega
noncomputable def oM(n:Int)(tab:List (Pl×Int)):Int×Int:=(((tab.map (·.2)).count n:Int),(tab.length:Int) - ((tab.map (·.2)).count n:Int))
section
variable {l:Cells}{Ns:List (List T3)}{w h:Int}{tabs:List (List (Pl×Int))}
theorem ER(hn:l.Nodup)(hl:∀c∈l,c.1<64/\c.2<64)(R:Numbering (halvesOf l) (trianglesOf (halvesOf l)).length Ns)(w0:0<=w)(h0:0<=h)(s:dY w h=true){k:Nat}{N:List T3}(hk:Ns[k]? =some N){tab:List (Pl×Int)}
  (C:c6 tab ((N.map (b8 (halvesOf l))).map (cH w h))):(((tally (RoofB.sizeOf w.toNat h.toNat) ((topOf l).tiles (RoofB.sizeOf w.toNat h.toNat) k)).1:Nat):Int)=(oM (4*w*h) tab).1/\(((tally (RoofB.sizeOf w.toNat h.toNat) ((topOf l).tiles (RoofB.sizeOf w.toNat h.toNat) k)).2:Nat):Int)=(oM (4*w*h) tab).2:=by
 have e:=FK (BF hn hl R hk s C);have ev:4*(((RoofB.sizeOf w.toNat h.toNat).wide:Int)*((RoofB.sizeOf w.toNat h.toNat).high:Int))=4*w*h:=by
  show 4*((w.toNat:Int)*(h.toNat:Int))=_
  rw[Int.toNat_of_nonneg w0,Int.toNat_of_nonneg h0,Int.mul_assoc]
 rw[ev]at e;have e1:=(List.cons.inj e).1;have e2:=(List.cons.inj (List.cons.inj e).2).1;exact⟨e1,e2⟩
theorem DL(hn:l.Nodup)(hl:∀c∈l,c.1<64/\c.2<64)(R:Numbering (halvesOf l) (trianglesOf (halvesOf l)).length Ns)(w0:0<=w)(h0:0<=h)(s:dY w h=true)(ht:tabs.length=Ns.length)
  (C:∀(k:Nat) tab N,tabs[k]? =some tab->Ns[k]? =some N->c6 tab ((N.map (b8 (halvesOf l))).map (cH w h))):
  ((((topOf l).roofTiles (RoofB.sizeOf w.toNat h.toNat)).1:Nat):Int)=(tabs.map fun x=>(oM (4*w*h) x).1).sum/\((((topOf l).roofTiles (RoofB.sizeOf w.toNat h.toNat)).2:Nat):Int)=(tabs.map fun x=>(oM (4*w*h) x).2).sum:=by
 have key:∀k tab,tabs[k]? =some tab->_:=fun k tab hk=>by have hlt:=(List.getElem?_eq_some_iff.mp hk).1;have hN:Ns[k]? =some (Ns[k]'(by omega)):=List.getElem?_eq_getElem (by omega);exact ER hn hl R w0 h0 s hN (C k tab _ hk hN)
 have fl:=(R.all (Nat.le_refl _)).2.1;have gen:∀(f:Nat×Nat->Nat)(g:Int×Int->Int),(∀k tab,tabs[k]? =some tab->((f (tally (RoofB.sizeOf w.toNat h.toNat) ((topOf l).tiles (RoofB.sizeOf w.toNat h.toNat) k)):Nat):Int)=g (oM (4*w*h) tab))->((((((List.range (topOf l).firsts.length).map fun(k:Nat)=>tally (RoofB.sizeOf w.toNat h.toNat) ((topOf l).tiles (RoofB.sizeOf w.toNat h.toNat) k)).map f).sum:Nat)):Int)=(tabs.map fun x=>g (oM (4*w*h) x)).sum:=by
  intro f g q;rw[List.map_map,fl,<- ht];refine(BZ _ (fun k=>((f (tally (RoofB.sizeOf w.toNat h.toNat) ((topOf l).tiles (RoofB.sizeOf w.toNat h.toNat) k)):Nat):Int)) _ (fun _ _=>rfl)).trans ?_;congr 1;have:=uO (l:=tabs.map fun x=>g (oM (4*w*h) x)) (g:=fun k=>((f (tally (RoofB.sizeOf w.toNat h.toNat) ((topOf l).tiles (RoofB.sizeOf w.toNat h.toNat) k)):Nat):Int)) fun k x hx=>by
   rw[List.getElem?_map]at hx;cases e:tabs[k]? with
   |none=>rw[e]at hx;cases hx
   |some tab=>rw[e]at hx;cases hx;exact q k tab e
  rw[List.length_map]at this;exact this
 exact⟨gen (·.1) (·.1) fun k tab hk=>(key k tab hk).1,gen (·.2) (·.2) fun k tab hk=>(key k tab hk).2⟩
theorem wF(hn:l.Nodup)(hl:∀c∈l,c.1<64/\c.2<64)(R:Numbering (halvesOf l) (trianglesOf (halvesOf l)).length Ns)(s:dY w h=true){cs:List Int}(hc:cs.length=Ns.length)
  (C:∀(k:Nat) c N,cs[k]? =some c->Ns[k]? =some N->∃m,(∃t∈N,(b8 (halvesOf l) t).1=m)/\(∀t∈N,(b8 (halvesOf l) t).1<=m)/\c=m/h+1) {m:Int} (hm:m∈cs) (hle:∀y∈cs,y<=m):
  ((((List.range (topOf l).firsts.length).map ((topOf l).courses (RoofB.sizeOf w.toNat h.toNat))).foldl max 0:Nat):Int)=m:=by
 refine J9 _ ?_ hm hle;rw[(R.all (Nat.le_refl _)).2.1,<- hc];refine uO fun k c hk=>?_
 have hlt:=(List.getElem?_eq_some_iff.mp hk).1;have hN:Ns[k]? =some (Ns[k]'(by omega)):=List.getElem?_eq_getElem (by omega);obtain⟨m,h1,h2,h3⟩:=C k c _ hk hN;rw[h3];exact BM hn hl R hN s h1 h2
end
theorem BG(w h:Int)(t:List Int):RoofBNeutral.f [[8,w,h],t]=if(RoofB.sizeOf w.toNat h.toNat).ok=false then RoofB.RANGE else RoofB.ofTop (RoofBNeutral.text t) fun T=>RoofB.told [(T.roofTiles (RoofB.sizeOf w.toNat h.toNat)).1,(T.roofTiles (RoofB.sizeOf w.toNat h.toNat)).2,((List.range T.firsts.length).map (T.courses (RoofB.sizeOf w.toNat h.toNat))).foldl max 0]:=rfl
section
variable {w h:Int}{t:List Int}
theorem A8(w0:0<=w)(h0:0<=h)(s:dY w h=false):RoofBNeutral.f [[8,w,h],t]=[-3]:=by rw[BG,if_pos (by rw[<- rS w0 h0];exact s)];rfl
theorem wD(w0:0<=w)(h0:0<=h)(s:dY w h=true)(e:houseOf (RoofBNeutral.text t)=none):RoofBNeutral.f [[8,w,h],t]=[-1]:=by rw[BG,if_neg (by rw[<- rS w0 h0,s];decide),AO e]
theorem DM(w0:0<=w)(h0:0<=h)(s:dY w h=true){l:Cells}(e:houseOf (RoofBNeutral.text t)=some l){x y m:Int}(e1:((((topOf l).roofTiles (RoofB.sizeOf w.toNat h.toNat)).1:Nat):Int)=x)(e2:((((topOf l).roofTiles (RoofB.sizeOf w.toNat h.toNat)).2:Nat):Int)=y)
  (e3:((((List.range (topOf l).firsts.length).map ((topOf l).courses (RoofB.sizeOf w.toNat h.toNat))).foldl max 0:Nat):Int)=m):RoofBNeutral.f [[8,w,h],t]=[x,y,m]:=by
 rw[BG,if_neg (by rw[<- rS w0 h0,s];decide),AM e,<- e1,<- e2,<- e3];rfl
end
end RM
namespace L3
open PySem PySem.Spec PyProof.Rows L2
structure aQ(P:Program)(w:World)(K:W.Frag)(mg:Str->Option Value)(base:Heap)(CX:CXT)(k:Nat)(x:Str)(ps:List Str)(sp:Sp):Prop where
 ex:∃f fd,bK P w K mg base CX k f fd ps sp/\mg x=some (.ref f)/\W.keepIn K (.ref f)=true/\Binds K fd ps []
section
variable {X:Cx}{CX:CXT}{k:Nat}{ps:List Str}{sp:Sp}{E:XK}{x:Str}{p pos:Pos}{e:Expr}{es:List Expr}{t:TA}
theorem aU(D:aQ X.prog X.w X.K X.mg X.base CX k x ps sp)(hr:cQ k X.A)(hx:Passes CX X E)(hg:Gl X x)(ha:PA X (e::es) t)(hdb:(x==("__debug__" : Str))=false:=by decide)
  (hst:starEach (e::es) X.env=(false,eval e X.env)::starEach es X.env:=by rfl) (hpl:(backTo pos (starEach es X.env)).any (·.1)=false:=by rfl):PE X (.Call (.Name x p) (e::es) [] pos) (BX sp [] E t):=by
 obtain⟨f,fd,F,hm,hk,hb⟩:=D.ex;exact IY F hr hg hm hk hb .nil hx ha hdb hst hpl
end
theorem a9.rd{H H':Hp}{a:Addr}{u:HO}(e:a9 H H')(h:Rd H a u):Rd H' a u:=by
 rcases h with h|⟨o,h⟩
 ·exact .inl (e _ _ h)
 ·exact .inr ⟨o,e _ _ h⟩
theorem a9.upd{H:Hp}{p:Addr}{o:HO}(h:H p=none):a9 H (upd H p o):=fun b u e=>by rw[aA (aH e h)];exact e
noncomputable def T2(H:Hp)(v:V)(p:Int×Int):Prop:=∃a,v=.ref a/\H a=some (.tup [.int p.1,.int p.2])
noncomputable def C2(K:W.Frag)(H:Hp)(v:V)(p:Int×Int):Prop:=∃a,v=.ref a/\SqT K H a [.int p.1,.int p.2]
noncomputable def T3(H:Hp)(v:V)(p:Int×Int×Int):Prop:=∃a,v=.ref a/\H a=some (.tup [.int p.1,.int p.2.1,.int p.2.2])
theorem T2.mono{H H':Hp}{v:V}{p:Int×Int}(e:a9 H H')(h:T2 H v p):T2 H' v p:=let⟨a,h1,h2⟩:=h;⟨a,h1,e _ _ h2⟩
theorem T3.mono{H H':Hp}{v:V}{p:Int×Int×Int}(e:a9 H H')(h:T3 H v p):T3 H' v p:=let⟨a,h1,h2⟩:=h;⟨a,h1,e _ _ h2⟩
theorem T2.c{K:W.Frag}{H:Hp}{v:V}{p:Int×Int}(h:T2 H v p):C2 K H v p:=let⟨a,h1,h2⟩:=h;⟨a,h1,SqT.of h2⟩
end L3
namespace L3
open PySem PySem.Spec PyProof.Rows L2
def jE:Option HO->Bool
 |none=>false
 |some (.frz _ _)=>false
 |some _=>true
noncomputable def GP(h:Heap)(H:Hp)(fs:List Addr):List Addr:=(List.range h.objs.size).filter fun a=>jE (H a)||fs.contains a
def g9(h:Heap)(H:Hp)(fs:List Addr):Heap:=W.hideAll h (GP h H fs)
theorem gK{h:Heap}{H:Hp}{fs:List Addr}{b:Addr}{o:Obj}(e:h.get? b=some o)(n:jE (H b)=false)(hb:b∉fs):(g9 h H fs).get? b=some o:=
 W.hideAll_get _ e fun hm=>by have q:=(List.mem_filter.mp hm).2;rw[n,Bool.false_or]at q;exact hb (by simpa using q)
theorem yF{h:Heap}{H:Hp}{fs:List Addr}{b:Addr}{o:Obj}(e:(g9 h H fs).get? b=some o):h.get? b=some o/\jE (H b)=false/\b∉fs:=by
 have e':h.get? b=some o:=W.of_hideAll (GP h H fs) e;refine⟨e',?_⟩;by_cases q:b∈GP h H fs
 ·have z:(g9 h H fs).get? b=none:=W.hideAll_none _ q;rw[z]at e;cases e
 ·have hn:¬((jE (H b)||fs.contains b)=true):=fun z=>q (List.mem_filter.mpr ⟨List.mem_range.mpr (Heap.lt_size e'),z⟩)
  rw[Bool.or_eq_true]at hn;refine⟨?_,fun z=>hn (.inr (by simpa using z))⟩;cases z:jE (H b)with
  |false=>rfl
  |true=>exact absurd (.inl z) hn
structure Fly(outer:List Env)(ex:List Addr)(H:Hp)(s:Shared)(ae C:Addr)(s':Shared):Prop where
 fl:∃a0,Heap.FlyingW (g9 s.heap H (frs outer++ex)) outer ae (.ref C) a0 s'.heap
 slot:∀b∈frs outer,∀o,s.heap.get? b=some o->∃sl,s'.heap.get? b=some {o with slots:=sl}
 os:s'.os=s.os
 bare:AllBare s'.gens
noncomputable def CXf:CXT:=fun outer H s E e s'=>∃ae C,e=.ref ae/\Fly outer [] H s ae C s'/\E (.ref C) none H
section
variable {X:Cx}{pins:List (Addr×Obj)}{σ:L2.St}{H:Hp}{s:Shared}
theorem stays(I:Inv X pins σ H s)(hok0:HOk X.prog X.w X.H_0 X.s_0.heap){ex:List Addr}(hex:∀b∈X.ex,b∈ex){b:Addr}{o:Obj}(e:(g9 X.s_0.heap X.H_0 (X.fs++ex)).get? b=some o):
  s.heap.get? b=some o/\jE (H b)=false/\b∉frs X.stack/\b∉ex:=by
 obtain⟨e1,n,hb'⟩:=yF e;have hb:b∉X.fs:=fun z=>hb' (List.mem_append_left _ z)
 have hx:b∉ex:=fun z=>hb' (List.mem_append_right _ z)
 have hst:b∉frs X.stack:=fun z=>by
  rcases List.mem_cons.mp (I.rP b z)with q|q
  ·exact absurd (Heap.lt_size e1) (Nat.not_lt.mpr (q▸I.ok.above))
  ·exact hb q
 have hx':b∉X.ex:=fun z=>hx (hex b z)
 cases q:X.H_0 b with
 |none=>refine⟨I.base.keep b o e1 q hb hx',?_,hst,hx⟩;rw[I.base.free b o e1 q hx'];rfl
 |some u=>
  rw[q]at n;cases u with
  |frz ob u=>have z:=I.base.nR b ob u q;obtain⟨e2,_⟩:=hok0 b _ q;obtain⟨e3,_⟩:=I.hok b _ z;rw[e1]at e2;cases e2;exact⟨e3,by rw[z];rfl,hst,hx⟩
  |_=>cases n
theorem jS{h base base':Heap}:∀{l:List Env},h.FunFrames base l->(∀b∈frs l,base'.get? b=none)->h.FunFrames base' l
 |[],_,_=>trivial
 |env::r,⟨hk,⟨L,o,hf,hn,ho,hd⟩,hr⟩,k=>by
  have e:frs (env::r)=L::frs r:=by unfold frs;rw[List.filterMap_cons,hf]
  rw[e]at k;exact⟨hk,⟨L,o,hf,k L (by simp),ho,hd⟩,jS hr fun b hb=>k b (by simp[hb])⟩
theorem BB(I:Inv X pins σ H s)(hok0:HOk X.prog X.w X.H_0 X.s_0.heap){ex:List Addr}(hex:∀b∈X.ex,b∈ex):s.heap.FunFrames (g9 X.s_0.heap X.H_0 (X.fs++ex)) X.stack:=
 jS I.stack fun b hb=>by
  cases q:(g9 X.s_0.heap X.H_0 (X.fs++ex)).get? b with
  |none=>rfl
  |some o=>exact absurd hb (stays I hok0 hex q).2.2.1
theorem k7(I:Inv X pins σ H s){b:Addr}(hb:b∈X.fs)(hx:b∉X.ex){o:Obj}(e:X.s_0.heap.get? b=some o):∃sl,s.heap.get? b=some {o with slots:=sl}:=I.base.slot b o e (I.ok.frf b hb) hb hx
end
section
variable {P:Program}{w:World}{K:W.Frag}{mg:Str->Option Value}{base:Heap}{N:List Str}{qual:Str}{scope:Scope}{f:Addr}{cd:Value}{A:Around}{outer:List Env}{s:Shared}{H:Hp}{E:XK}
 {pins:List (Addr×Obj)}{σ:L2.St}{H1:Hp}{s1:Shared}
noncomputable abbrev cxF(P:Program)(w:World)(K:W.Frag)(mg:Str->Option Value)(base:Heap)(N:List Str)(qual:Str)(scope:Scope)(f:Addr)(cd:Value)(A:Around)(outer:List Env)(s:Shared)(H:Hp)(E:XK):Cx:=u6 CXf P w K mg base N qual scope f cd A outer s H E
theorem nJ(l:List Addr):l++[]=l:=List.append_nil l
theorem G0(hok0:HOk P w H s.heap)(I:Inv (cxF P w K mg base N qual scope f cd A outer s H E) pins σ H1 s1){h':Heap}{e C:Addr}{as:List Value}(hx:Heap.MadeExcOf s1.heap h' e (.ref C) as)(hE:E (.ref C) none H):
  (cxF P w K mg base N qual scope f cd A outer s H E).xe (.ref e) {s1 with heap:=h'}:=by
 have st:∀b o,(g9 s.heap H (frs outer++[])).get? b=some o->s1.heap.get? b=some o:=fun b o q=>(stays I hok0 (ex:=[]) (fun _ z=>z) q).1
 refine wpAny_leaves_madeW (base:=g9 s.heap H (frs outer++[])) (h:=s1.heap) (L:=s.heap.objs.size) (outer:=outer) I.ok.frames rfl st (BB I hok0 (fun _ z=>z)) hx fun h2 t fl tup hn up=>?_
 refine⟨e,C,rfl,⟨⟨_,fl⟩,fun b hb o q=>?_,I.os,I.bare⟩,hE⟩;obtain⟨sl,q1⟩:=k7 I hb (by intro z;exact nomatch z) q;have fr:=(I.stack.mem (b:=b) (show b∈frs (_::outer) by
  unfold frs;rw[List.filterMap_cons];exact List.mem_cons_of_mem _ hb)).2
 obtain⟨o2,q2,nf⟩:=fr;rw[q1]at q2;cases q2;obtain⟨sl2,q3⟩:=up b _ (hx.keeps b _ q1) nf;exact⟨sl2,q3⟩
theorem y8(hok0:HOk P w H s.heap):Passes CXf (cxF P w K mg base N qual scope f cd A outer s H E) (fun c _ _=>E c none H):=by
 intro pins σ H1 s1 e s' I h;obtain⟨ae,C,rfl,⟨⟨a0,fl⟩,sl,os,bare⟩,hE⟩:=h;have fl2:Heap.FlyingW (g9 s.heap H (frs outer++[])) (cxF P w K mg base N qual scope f cd A outer s H E).stack ae (.ref C) a0 s'.heap:=
  W.flyingW_base (fun b o q=>by
   obtain⟨z1,z2,z3,_⟩:=stays I hok0 (ex:=[]) (fun _ z=>z) q;exact gK z1 z2 (by rw[nJ];exact z3)) fl
 refine wpAny_leaves_onW (L:=s.heap.objs.size) (outer:=outer) I.ok.frames rfl fl2 fun h2 fl3 up=>?_
 refine⟨ae,C,rfl,⟨⟨_,fl3⟩,fun b hb o q=>?_,os.trans I.os,bare⟩,hE⟩;have hbs:b∈frs (cxF P w K mg base N qual scope f cd A outer s H E).stack:=by
  show b∈frs (_::outer)
  unfold frs;rw[List.filterMap_cons];exact List.mem_cons_of_mem _ hb
 obtain⟨sl1,q1⟩:=k7 I hb (by intro z;exact nomatch z) q;obtain⟨sl2,q2⟩:=sl b hbs _ q1;obtain⟨o3,q3,nf⟩:=(fl.2.2.1.mem (b:=b) hbs).2;rw[q2]at q3;cases q3;obtain⟨sl3,q4⟩:=up b _ q2 nf;exact⟨sl3,q4⟩
theorem dR(hok0:HOk P w H s.heap){x:Str}{C:Addr}{B newId initId:String}{bm:List Value}{np cpos pos:Pos}(FB:ExcBaseFacts B newId initId bm)(O:OwnCls x C bm newId mg base)
  (hg:Gl (cxF P w K mg base N qual scope f cd A outer s H E) x) (hd:(x==("__debug__" : Str))=false:=by decide):
  PS (cxF P w K mg base N qual scope f cd A outer s H E) (.Raise (some (.Call (.Name x np) [] [] cpos)) none pos) (fun _ _ _=>E (.ref C) none H):=by
 intro pins s1 σ H1 D I h;obtain⟨tl,N,nm,q,bs,hdct,sn,sub,ab,col,dd,k0,k1,k2,k3,k5,mN,hC,hN,hni,T⟩:=O.obj;refine wpAny_Raise_call_subT (C:=C) (nm:=nm) (q:=q) (N:=N) (bs:=bs) (bm:=tl) (hdct:=hdct) (sn:=sn) (sub:=sub) (ab:=ab) (col:=col) (dd:=dd) (k0:=k0) (k1:=k1) (k2:=k2) (k3:=k3) (k5:=k5)
  FB (mN:=mN) (T.hasType FB.hasBase) (I.ok.hd rfl) rfl hni (jC I hg O.bound ⟨rfl,?_⟩ hd)
 exact evalArgs_empty ⟨rfl,Nat.zero_le _,I.bk _ _ hC,hN.keeps I.bk,T.keeps I.bk,fun h' e hx=>G0 hok0 I hx h⟩
end
section
variable {P:Program}{w:World}{K:W.Frag}{mg:Str->Option Value}{base:Heap}
theorem HG{CX:CXT}{k:Nat}{f:Addr}{name qual:Str}{params:Arguments}{body:List Stmt}{scope:Scope}{dV kV doc pm cdv ct oc:Value}{an od:Option Addr}
  {osl:Array (Option Value)}{N ps:List Str}{sp:Sp} (lk:K.lookup f=some ⟨oc,od,.func (W.fnOf name qual params body scope dV kV doc pm an cdv ct),osl⟩) (hcd:W.codeIn K cdv qual=true) (S:aK N ps scope)
  (len:∀vs H Q E,sp vs H Q E->vs.length=ps.length)
  (hbody:∀(A:Around)(outer:List Env)(s:Shared)(H:Hp)(vs:List V)(Q:VK)(E:XK),cQ k (A.deeper (envOfC qual scope s.heap.objs.size f cdv))->HOk P w H s.heap->sp vs H Q E ->
   ∃t,PSs (u6 CX P w K mg base N qual scope f cdv A outer s H E) body t/\t {nx:=fun _ H'=>Q .non H',rt:=Q} (start N vs) H):
  bK P w K mg base CX (k+1) f (W.fnOf name qual params body scope dV kV doc pm an cdv ct) ps sp:=by
 refine⟨len,fun A outer s H args us vs Q E hr e0 hb r hsp=>?_⟩;have hl:=len _ _ _ _ hsp;have KX:K.In s.heap:=e0.mod.kin.keeps fun b o e=>(e0.bs b o e).1
 have lim:s.heap.NoLimit:=e0.mod.nolimit.keeps fun b o e=>(e0.bs b o e).1
 have hkind:∀y∈ps.zip us,scope.names.lookup y.1=some .local\/(scope.names.lookup y.1=some .cell/\((cellsFrom (s.heap.objs.size+1) scope.names []).lookup y.1).isSome=true):=fun⟨n,v⟩ hy=>by
  rcases S.par n (List.of_mem_zip hy).1 with q|q
  ·exact .inl q
  ·exact .inr ⟨q,W.cellsFrom_some _ _ _ (.inl q)⟩
 refine codeAny_call_function hr.depth (KX _ _ lk) rfl S.co S.gen rfl (W.codeRec_of KX hcd) (hb _ _ _ _ ?_);refine wpAny_newFunctionEnv_cells S.kind hkind fun env he s1 x=>?_
 subst he;refine⟨lim.keeps x.toInCall.keep,codeAny_func ?_⟩;obtain⟨t,ht,hq⟩:=hbody A outer s H vs Q E (hr.deeper _) e0.hok hsp;have I:Inv (u6 CX P w K mg base N qual scope f cdv A outer s H E) [] (start N vs) H s1:=pI S hr.hd e0 hl r x;refine wpAny_mono (ht [] s1 (start N vs) H _ I hq) (fun fl s' hs=>?_) fun e s' hs=>hs
 have fin:∀{σ':L2.St}{H':Hp}{v:V}{u:Value},Inv (u6 CX P w K mg base N qual scope f cdv A outer s H E) [] σ' H' s'->RelV v u->Q v H'->CE outer P w H s Q u s':=
  fun{σ' H' v u} J rv q=>⟨v,H',J.os,J.bare,J.base,J.hok,rv,q⟩
 cases fl with
 |ret u=>obtain⟨v,σ',H',J,rv,q⟩:=hs;exact fin J rv q
 |next=>obtain⟨σ',H',J,q⟩:=hs;exact fin (v:=V.non) (u:=Value.none) J rfl q
 |brk=>obtain⟨_,_,_,q⟩:=hs;exact False.elim q
 |cont=>obtain⟨_,_,_,q⟩:=hs;exact False.elim q
theorem okX{x qual:Str}{st:Stmt}{f:Addr}{fd:FuncData}{N ps:List Str}{k:Nat}{sp:Sp}(F:Fun K x qual st f fd)(S:aK N ps (aG st))(len:∀vs H Q E,sp vs H Q E->vs.length=ps.length)
  (hbody:∀(cdv:Value)(A:Around)(outer:List Env)(s:Shared)(H:Hp)(vs:List V)(Q:VK)(E:XK),cQ k (A.deeper (envOfC qual (aG st) s.heap.objs.size f cdv))->HOk P w H s.heap->sp vs H Q E ->
   ∃t,PSs (cxF P w K mg base N qual (aG st) f cdv A outer s H E) (eZ st) t/\t {nx:=fun _ H'=>Q .non H',rt:=Q} (start N vs) H):bK P w K mg base CXf (k+1) f fd ps sp:=by
 obtain⟨oc,od,kV,doc,pm,an,cdv,ct,osl,rfl,lk,hcd⟩:=F.ex;exact HG lk hcd S len fun A outer s H vs Q E hr hk hsp=>hbody cdv A outer s H vs Q E hr hk hsp
end
end L3
namespace L3
open PySem PySem.Spec PyProof.Rows L2
section
variable {X:Cx}{x:Str}{pos:Pos}
def r6(mg:Str->Option Value)(x:Str)(n:Int):Prop:=∃t,mg x=some (.int n t)
theorem cX{n:Int}(h:r6 X.mg x n)(hg:Gl X x)(hd:(x==("__debug__" : Str))=false:=by decide):PE X (.Name x pos) (tC (.int n)):=by obtain⟨t,h⟩:=h;exact C7 (v:=.int n) hg h ⟨t,rfl⟩ hd
theorem fK{a:Addr}(h:X.mg x=some (.ref a))(hg:Gl X x)(hd:(x==("__debug__" : Str))=false:=by decide):PE X (.Name x pos) (tC (.ref a)):=C7 (v:=.ref a) hg h rfl hd
end
noncomputable def CT2(K:W.Frag)(a:Addr)(ps:List (Int×Int)):Prop:=∃xs,(∀H,SqT K H a xs)/\Paired (fun v p=>∀H,C2 K H v p) xs ps
theorem pairs_at{α β:Type}{R:α->β->Prop}:∀{l:List α}{m:List β},Paired R l m->∀{i:Nat}{a:α},l[i]? =some a->∃b,m[i]? =some b/\R a b
 |_,_,.nil,_,_,h=>by simp at h
 |_,_,.cons r _,0,_,h=>by simp at h;subst h;exact⟨_,rfl,r⟩
 |_,_,.cons _ t,i+1,a,h=>by obtain⟨b,h1,h2⟩:=pairs_at t (i:=i) (a:=a) (by simpa using h);exact⟨b,by simpa using h1,h2⟩
theorem iS{α β:Type}{R:α->β->Prop}:∀{l:List α}{m:List β},Paired R l m->∀{i:Nat}{b:β},m[i]? =some b->∃a,l[i]? =some a/\R a b
 |_,_,.nil,_,_,h=>by simp at h
 |_,_,.cons r _,0,_,h=>by simp at h;subst h;exact⟨_,rfl,r⟩
 |_,_,.cons _ t,i+1,b,h=>by obtain⟨a,h1,h2⟩:=iS t (i:=i) (b:=b) (by simpa using h);exact⟨a,by simpa using h1,h2⟩
theorem pairs_len{α β:Type}{R:α->β->Prop}:∀{l:List α}{m:List β},Paired R l m->l.length=m.length
 |_,_,.nil=>rfl
 |_,_,.cons _ t=>by simp[pairs_len t]
theorem bA{α β:Type}{R:α->β->Prop}{a:α}{b:β}(r:R a b):∀{l:List α}{m:List β},Paired R l m->Paired R (l++[a]) (m++[b])
 |_,_,.nil=>.cons r .nil
 |_,_,.cons q t=>.cons q (bA r t)
theorem aI{α β:Type}{R S:α->β->Prop}(f:∀a b,R a b->S a b):∀{l:List α}{m:List β},Paired R l m->Paired S l m
 |_,_,.nil=>.nil
 |_,_,.cons r t=>.cons (f _ _ r) (aI f t)
theorem bQ{xs:List V}{z:Int}{v:V}(h0:0<=z)(h:xs[z.toNat]? =some v):atI xs z=some v:=at_of (j:=z.toNat) (Int.toNat_of_nonneg h0).symm h
end L3
namespace L3
open PySem PySem.Spec PyProof.Rows L2
abbrev PI:=Int×Int
abbrev PI3:=Int×Int×Int
noncomputable def LI(H:Hp)(v:V)(ns:List Int):Prop:=∃a,v=.ref a/\H a=some (.lst (ns.map V.int))
noncomputable def LLI(H:Hp)(a:Addr)(rows:List (List Int)):Prop:=∃xs,H a=some (.lst xs)/\Paired (LI H) xs rows
noncomputable def LT(H:Hp)(v:V)(ps:List PI):Prop:=∃a xs,v=.ref a/\H a=some (.lst xs)/\Paired (T2 H) xs ps
noncomputable def LLT(H:Hp)(v:V)(ws:List (List PI)):Prop:=∃a xs,v=.ref a/\H a=some (.lst xs)/\Paired (LT H) xs ws
theorem LI.mono{H H':Hp}{v:V}{ns:List Int}(e:a9 H H')(h:LI H v ns):LI H' v ns:=let⟨a,h1,h2⟩:=h;⟨a,h1,e _ _ h2⟩
theorem LT.mono{H H':Hp}{v:V}{ps:List PI}(e:a9 H H')(h:LT H v ps):LT H' v ps:=let⟨a,xs,h1,h2,h3⟩:=h;⟨a,xs,h1,e _ _ h2,aI (fun _ _ q=>q.mono e) h3⟩
theorem LLT.mono{H H':Hp}{v:V}{ws:List (List PI)}(e:a9 H H')(h:LLT H v ws):LLT H' v ws:=let⟨a,xs,h1,h2,h3⟩:=h;⟨a,xs,h1,e _ _ h2,aI (fun _ _ q=>q.mono e) h3⟩
def k2(p:PI):List Key:=[.inl p.1,.inl p.2]
def k3(p:PI3):List Key:=[.inl p.1,.inl p.2.1,.inl p.2.2]
theorem AY{p q:PI}(h:k2 p=k2 q):p=q:=by obtain⟨a,b⟩:=p;obtain⟨c,d⟩:=q;simp[k2]at h;rw[h.1,h.2]
theorem GQ{p q:PI3}(h:k3 p=k3 q):p=q:=by obtain⟨a,b,e⟩:=p;obtain⟨c,d,f⟩:=q;simp[k3]at h;rw[h.1,h.2.1,h.2.2]
section
variable {κ:Type} [DecidableEq κ] {kf:κ->List Key} (hk:∀p q,kf p=kf q->p=q)
noncomputable def kvF(kf:κ->List Key)(kvs:List (κ×V)):List (List Key×V):=kvs.map fun x=>(kf x.1,x.2)
include hk in
theorem FH(kvs:List (κ×V))(k:κ):rK (kvF kf kvs) (kf k)=RM.aJ kvs k:=by
 unfold kvF;induction kvs with
 |nil=>rfl
 |cons x r ih=>
  rw[List.map_cons,RM.bW];by_cases e:x.1=k
  ·rw[if_pos e,mT (by rw[e])]
  ·rw[if_neg e,mU (fun z=>e (hk _ _ z)),ih]
include hk in
theorem AA(kvs:List (κ×V))(k:κ)(v:V):putK (kvF kf kvs) (kf k) v=kvF kf (RM.cV kvs k v):=by
 unfold putK RM.cV kvF;have e1:((kvs.map fun x=>(kf x.1,x.2)).any fun kv=>decide (kv.1=kf k))=kvs.any fun x=>decide (x.1=k):=by
  rw[List.any_map];congr 1;funext x;simp only[Function.comp];by_cases e:x.1=k
  ·simp[e]
  ·have e':¬kf x.1=kf k:=fun z=>e (hk _ _ z)
   simp[e,e']
 rw[e1];split
 ·rw[List.map_map,List.map_map];apply List.map_congr_left;intro x _;simp only[Function.comp];by_cases e:x.1=k
  ·simp[e]
  ·have e':¬kf x.1=kf k:=fun z=>e (hk _ _ z)
   simp[e,e']
 ·simp
end
theorem eM{κ:Type}{kf:κ->List Key}(kvs:List (κ×V)):(kvF kf kvs).length=kvs.length:=by simp[kvF]
def D2(H:Hp)(a:Addr)(kvs:List (PI×V)):Prop:=H a=some (.dT (kvF k2 kvs))
def R2(H:Hp)(a:Addr)(kvs:List (PI×V)):Prop:=Rd H a (.dT (kvF k2 kvs))
def D3(H:Hp)(a:Addr)(kvs:List (PI3×V)):Prop:=H a=some (.dT (kvF k3 kvs))
def R3(H:Hp)(a:Addr)(kvs:List (PI3×V)):Prop:=Rd H a (.dT (kvF k3 kvs))
theorem D2.rd{H:Hp}{a:Addr}{kvs:List (PI×V)}(h:D2 H a kvs):R2 H a kvs:=.inl h
theorem D3.rd{H:Hp}{a:Addr}{kvs:List (PI3×V)}(h:D3 H a kvs):R3 H a kvs:=.inl h
theorem R2.mono{H H':Hp}{a:Addr}{kvs:List (PI×V)}(e:a9 H H')(h:R2 H a kvs):R2 H' a kvs:=a9.rd e h
theorem R3.mono{H H':Hp}{a:Addr}{kvs:List (PI3×V)}(e:a9 H H')(h:R3 H a kvs):R3 H' a kvs:=a9.rd e h
theorem R2.get{H:Hp}{a:Addr}{kvs:List (PI×V)}(h:R2 H a kvs){b:Addr}{p:PI}(hb:H b=some (.tup [.int p.1,.int p.2])):lF H a (.ref b) (RM.aJ kvs p):=
 .inr ⟨_,k2 p,b,h,rfl,hb,(FH (fun _ _=>AY) kvs p).symm⟩
theorem R3.get{H:Hp}{a:Addr}{kvs:List (PI3×V)}(h:R3 H a kvs){b:Addr}{p:PI3}(hb:H b=some (.tup [.int p.1,.int p.2.1,.int p.2.2])):lF H a (.ref b) (RM.aJ kvs p):=
 .inr ⟨_,k3 p,b,h,rfl,hb,(FH (fun _ _=>GQ) kvs p).symm⟩
theorem D2.put{H:Hp}{a:Addr}{kvs:List (PI×V)}(h:D2 H a kvs){b:Addr}{p:PI}(hb:H b=some (.tup [.int p.1,.int p.2]))(v:V)(hl:kvs.length<sizeLine):K4 H a (.ref b) v (upd H a (.dT (kvF k2 (RM.cV kvs p v)))):=
 .inr ⟨_,k2 p,b,h,rfl,hb,by rw[eM];exact hl,by rw[AA (fun _ _=>AY)]⟩
theorem D3.put{H:Hp}{a:Addr}{kvs:List (PI3×V)}(h:D3 H a kvs){b:Addr}{p:PI3}(hb:H b=some (.tup [.int p.1,.int p.2.1,.int p.2.2]))(v:V)(hl:kvs.length<sizeLine):K4 H a (.ref b) v (upd H a (.dT (kvF k3 (RM.cV kvs p v)))):=
 .inr ⟨_,k3 p,b,h,rfl,hb,by rw[eM];exact hl,by rw[AA (fun _ _=>GQ)]⟩
theorem a9.put{H0 H:Hp}{a:Addr}{o:HO}(e:a9 H0 H)(h:H0 a=none):a9 H0 (L2.upd H a o):=fun b u q=>by rw[aA (aH q h)];exact e b u q
end L3
namespace L3
open PySem PySem.Spec PyProof.Rows L2
theorem qO{h h' base:Heap}:∀{l:List Env},h.FunFrames base l->(∀b∈frs l,∀o,h.get? b=some o->(∀vs,o.data≠ .fields vs)->∃o',h'.get? b=some o'/\o'.data=o.data)->h'.FunFrames base l
 |[],_,_=>trivial
 |env::r,⟨hk,⟨L,o,hf,hn,ho,hd⟩,hr⟩,k=>by
  have e:frs (env::r)=L::frs r:=by unfold frs;rw[List.filterMap_cons,hf]
  rw[e]at k;obtain⟨o',h1,h2⟩:=k L (by simp) o ho hd;exact⟨hk,⟨L,o',hf,hn,h1,fun vs=>h2▸hd vs⟩,qO hr fun b hb=>k b (by simp[hb])⟩
theorem AX{M:Model}{A:Around}{E:Value->Shared->Prop}{s:Shared}{base:Heap}{env:Env}{outer:List Env}{L e:Addr}{cls a0 fl:Value}{Q:Unit->Shared->Prop}
  (hfr:A.frames=some (env::outer)) (hf:env.frame=some L) (hkb:base.StaysIn s.heap) (hen:base.get? e=none) (hl:s.heap.FunFrames base (env::outer)) (ht:s.heap.TracedAtW base e cls a0 fl)
  (hQ:∀h',Heap.FlyingW base outer e cls a0 h'->s.heap.UpToSlots h'->Q () {s with heap:=h'}):wpAny M A (leaving env (.ref e)) Q E s:=by
 by_cases hfl:fl=rawInt L
 ·subst hfl;unfold leaving;refine wpAny_bind (wpAny_noteFrame_againW hf ht (wpAny_landsW (l:=env::outer) ⟨hkb,hen,hl,ht⟩ fun h' fl' up=>?_));obtain⟨k1,k2,⟨_,_,k3⟩,k4⟩:=fl';exact hQ h' ⟨k1,k2,k3,k4⟩ up
 ·obtain⟨oe,vs,T,oT,ts,he,⟨hcls,h0⟩,hd,h1,hnT,hTe,hT,hdT,h3⟩:=ht;subst hcls;have sz:3<ts.size:=(Array.getElem?_eq_some_iff.mp h3).1;have away:∀b,b≠T->(s.heap.update T (Obj.mapFields (·.setIfInBounds 3 Value.none))).get? b=s.heap.get? b:=fun b hb=>Heap.get?_update_other _ _ hb.symm
  have apart:∀b o,s.heap.get? b=some o->(∀ws,o.data≠ .fields ws)->b≠T:=fun b o hb nf z=>nf ts (by rw[z,hT]at hb;cases hb;exact hdT)
  unfold leaving noteFrame;simp only[hf];refine wpAny_bind (wpAny_bind (wpAny_field he hd h1 ?_));rw[if_pos (by simp:(Value.ref T !=Value.none)=true)];refine wpAny_bind (wpAny_field hT hdT h3 ?_);rw[if_neg (by simpa using hfl)];refine wpAny_bind (wpAny_setField hT hdT sz (wpAny_newEntryW hfr ?fr hf ((away e hTe.symm).trans he) ?st hen hd (Array.getElem?_eq_some_iff.mp h1).1 h0 fun h' left=>?fin));case fr=>exact hl.of_keeps fun b o hb nf=>⟨o,(away b (apart b o hb nf)).trans hb,rfl⟩
  case st=>exact fun b o hb=>(away b fun z=>by rw[z,hnT]at hb;cases hb).trans (hkb b o hb)
  case fin=>obtain⟨k1,⟨_,_,k2⟩,k3,k4⟩:=left;exact hQ h' ⟨k1,hen,k2,k3⟩ fun b o hb nf=>k4 b o ((away b (apart b o hb nf)).trans hb) nf
noncomputable abbrev uA(X:Cx)(s:Shared)(H:Hp)(scope:Scope)(cenv:Env)(fp:List Addr)(EC:Addr->Prop):Cx:=
 (X.blk s H scope cenv fp).qV fun e s'=>∃ae C,e=.ref ae/\Fly X.stack fp H s ae C s'/\EC C/\∃m,s'.heap.Ns cenv.locals m
section
variable {P:Program}{w:World}{K:W.Frag}{mg:Str->Option Value}{base:Heap}{N:List Str}{qual:Str}{scope0:Scope}{f:Addr}{cd:Value}{A:Around}{outer:List Env}{s0:Shared}{H0:Hp}{E:XK}
theorem GA{X:Cx}{s:Shared}{H:Hp}{scope:Scope}{cenv:Env}{fp:List Addr}(hk:HOk X.prog X.w H s.heap){E':Value->Prop}:Passes CXf (uA X s H scope cenv fp fun C=>E' (.ref C)) (fun c _ _=>E' c):=by
 intro pins σ H1 s1 e s' I h;obtain⟨ae,C,rfl,⟨⟨a0,fl⟩,slot,os,bare⟩,hE⟩:=h;have fl2:Heap.FlyingW (g9 s.heap H (frs X.stack++fp)) X.stack ae (.ref C) a0 s'.heap:=
  W.flyingW_base (fun b o q=>by
   obtain⟨z1,z2,z3,_⟩:=stays I hk (ex:=fp) (fun _ z=>z) q;exact gK z1 z2 (by rw[nJ];exact z3)) fl
 refine⟨ae,C,rfl,⟨⟨a0,fl2⟩,fun b hb o q=>?_,os.trans I.os,bare⟩,hE,?_⟩
 ·obtain⟨sl1,q1⟩:=k7 I (show b∈frs X.stack from hb) (fun z=>I.ok.BH b z hb) q;obtain⟨sl2,q2⟩:=slot b hb _ q1;exact⟨sl2,q2⟩
 ·obtain⟨m,⟨oL,es,ep,hoL,hdL,r⟩,_⟩:=I.loc;have hnf:cenv.locals∉frs X.stack:=fun z=>by obtain⟨_,o,ho,_⟩:=I.ok.kJ.mem (b:=cenv.locals) z;exact absurd (Heap.lt_size ho) (Nat.not_lt.mpr I.ok.above)
  have hid:jE (H1 cenv.locals)=false:=by have z:H1 cenv.locals=none:=I.free;rw[z];rfl
  exact⟨m,oL,es,ep,fl.1 _ _ (gK hoL hid (by rw[nJ];exact hnf)),hdL,r⟩
theorem GG(hok0:HOk P w H0 s0.heap){pins:List (Addr×Obj)}{σ:L2.St}{H3:Hp}{s3:Shared}{fp:List Addr}{scope:Scope}{cl:List (Str×Addr)}{use:Option (Value->Sem Unit)}{Qf:Value->Shared->Prop}{acc e:Value}{s':Shared}
  (I3:Inv (cxF P w K mg base N qual scope0 f cd A outer s0 H0 E) pins σ H3 s3) (hfp:∀b∈fp,mQ (cxF P w K mg base N qual scope0 f cd A outer s0 H0 E) pins H3 b)
  (hx:∃ae C,e=.ref ae/\Fly (cxF P w K mg base N qual scope0 f cd A outer s0 H0 E).stack fp H3 s3 ae C s'/\E (.ref C) none H0/\∃m,s'.heap.Ns s3.heap.objs.size m):
  notedBy (model P w) (cxF P w K mg base N qual scope0 f cd A outer s0 H0 E).A (compEnvC scope cl s3.heap.objs.size (cxF P w K mg base N qual scope0 f cd A outer s0 H0 E).env)
   (fun e s'=>compPost (model P w) (cxF P w K mg base N qual scope0 f cd A outer s0 H0 E).A (cxF P w K mg base N qual scope0 f cd A outer s0 H0 E).xe use Qf acc s3.heap.objs.size (.error e) s') e s':=by
 obtain⟨ae,C,rfl,⟨⟨a0,fl⟩,slot,os,bare⟩,hE,m,hn⟩:=hx;have low:∀b o,(g9 s0.heap H0 (frs outer++[])).get? b=some o->b<s0.heap.objs.size:=fun b o q=>Heap.lt_size (yF q).1
 have fl2:Heap.FlyingW (g9 s0.heap H0 (frs outer++[])) (cxF P w K mg base N qual scope0 f cd A outer s0 H0 E).stack ae (.ref C) a0 s'.heap:=
  W.flyingW_base (fun b o q=>by
   obtain⟨z1,z2,z3,_⟩:=stays I3 hok0 (ex:=[]) (fun _ z=>z) q;refine gK z1 z2 fun z=>(List.mem_append.mp z).elim z3 fun z=>?_
   rcases(hfp b z).2.2.2.1 with y|y
   ·exact nomatch y
   ·exact absurd (low b o q) (Nat.not_lt.mpr y)) fl
 show wpAny (model P w) _ (noteFrame (.ref ae) (cxF P w K mg base N qual scope0 f cd A outer s0 H0 E).env) _ _ _
 refine wpAny_looks_onW (L:=s0.heap.objs.size) (outer:=outer) I3.ok.frames rfl fl2 fun h1 held up1=>?_
 have goal:∃m,h1.Ns s3.heap.objs.size m/\∀h',Heap.SameBut s3.heap.objs.size h1 h'->∀cenv:Env,cenv.locals=s3.heap.objs.size ->
   wpAny (model P w) (cxF P w K mg base N qual scope0 f cd A outer s0 H0 E).A (PySem.passOn "comprehension.variables-let-go" (.ref ae) cenv:Sem Value) (fun _ _=>False) (cxF P w K mg base N qual scope0 f cd A outer s0 H0 E).xe {s' with heap:=h'}:=by
  have hn1:=up1.ns hn;refine⟨m,hn1,fun h2 sb cenv _=>?_⟩;obtain⟨oL,es,ep,hoL,hdL,_⟩:=hn1;obtain⟨f1,f2,f3,oe,vs,T,oT,ts,he,hc,hd,h1',hnT,hTe,hT,hdT,h3⟩:=held;have nC:∀b o,h1.get? b=some o->(∃ws,o.data=.fields ws)->b≠s3.heap.objs.size:=fun b o q ⟨ws,z⟩ y=>by rw[y,hoL]at q;cases q;rw[hdL]at z;cases z
  have he2:h2.get? ae=some oe:=(sb.2 ae (nC ae oe he ⟨vs,hd⟩)).trans he;have hT2:h2.get? T=some oT:=(sb.2 T (nC T oT hT ⟨ts,hdT⟩)).trans hT;have sz:3<ts.size:=(Array.getElem?_eq_some_iff.mp h3).1;unfold PySem.passOn setFlight;refine wpAny_bind (wpAny_field he2 hd h1' ?_);rw[if_neg (by simp:¬((Value.ref T==Value.none)=true))];refine wpAny_bind (wpAny_bind (wpAny_field he2 hd h1' ?_));rw[if_pos (by simp:(Value.ref T !=Value.none)=true)];refine wpAny_setField hT2 hdT sz (wpAny_throw ?_);have away:∀b,b≠T->(h2.update T (Obj.mapFields (·.setIfInBounds 3 (cenv.frame.elim Value.none fun f=>rawInt f)))).get? b=h2.get? b:=fun b hb=>Heap.get?_update_other _ _ hb.symm
  have fr:∀b∈frs (cxF P w K mg base N qual scope0 f cd A outer s0 H0 E).stack,b≠s3.heap.objs.size:=fun b hb=>by obtain⟨_,o,q,_⟩:=I3.stack.mem (b:=b) hb;exact Nat.ne_of_lt (Heap.lt_size q)
  have nT:∀b o,h1.get? b=some o->(∀ws,o.data≠ .fields ws)->b≠T:=fun b o q nf y=>nf ts (by rw[y,hT]at q;cases q;exact hdT)
  refine AX (base:=g9 s0.heap H0 (frs outer++[])) (L:=s0.heap.objs.size) (outer:=outer) (cls:=.ref C) (a0:=a0) (fl:=cenv.frame.elim Value.none fun f=>rawInt f) I3.ok.frames rfl ?st f2 ?fr ?tr fun h4 fl4 up4=>?fin
  case st=>intro b o q;have l1:=low b o q;have l2:b≠s3.heap.objs.size:=Nat.ne_of_lt (Nat.lt_of_lt_of_le l1 I3.sz);rw[away b fun z=>by rw[z,hnT]at q;cases q];exact(sb.2 b l2).trans (f1 b o q)
  case fr=>exact qO f3 fun b hb o q nf=>⟨o,(away b (nT b o q nf)).trans ((sb.2 b (fr b hb)).trans q),rfl⟩
  case tr=>exact⟨oe,vs,T,_,_,(away ae hTe.symm).trans he2,hc,hd,h1',hnT,hTe,Heap.get?_update_self _ hT2 (Obj.isFreed_of_fields (Obj.data_mapFields hdT _)),Obj.data_mapFields hdT _,by simp[sz]⟩
  case fin=>
   refine⟨ae,C,rfl,⟨⟨_,fl4⟩,fun b hb o q=>?_,os.trans I3.os,bare⟩,hE⟩;have hbs:b∈frs (cxF P w K mg base N qual scope0 f cd A outer s0 H0 E).stack:=by
    show b∈frs (_::outer)
    unfold frs;rw[List.filterMap_cons];exact List.mem_cons_of_mem _ hb
   obtain⟨sl1,q1⟩:=k7 I3 hb (by intro z;exact nomatch z) q;obtain⟨sl2,q2⟩:=slot b hbs _ q1;obtain⟨o3,q3,nf⟩:=(fl.2.2.1.mem (b:=b) hbs).2;rw[q2]at q3;cases q3;obtain⟨sl3,q4⟩:=up1 b _ q2 nf;have q5:=(away b (nT b _ q4 nf)).trans ((sb.2 b (fr b hbs)).trans q4);obtain⟨sl4,q6⟩:=up4 b _ q5 nf;exact⟨sl4,q6⟩
 cases use<;>exact goal
end
end L3
namespace L3
open PySem PySem.Spec PyProof.Rows L2
section
variable {P:Program}{w:World}{K:W.Frag}{mg:Str->Option Value}{base:Heap}{N:List Str}{qual:Str}{scope0:Scope}{f:Addr}{cd:Value}{A:Around}{outer:List Env}{s0:Shared}{H0:Hp}{E:XK}
theorem yO{X:Cx}(hX:X=cxF P w K mg base N qual scope0 f cd A outer s0 H0 E)(hok0:HOk P w H0 s0.heap){pins:List (Addr×Obj)}{s:Shared}{σ:L2.St}{H:Hp}{Q:VK}{elt tg iter:Expr}{scope:Scope}{own:List (Str×Nat)}{pos pos':Pos}{wi:TI}{g:TG}{te:TE}{use:Option (Value->Sem Unit)}{Qf:Value->Shared->Prop}
  (hN:X.N.Nodup) (I:Inv X pins σ H s) (hi:L2.PI X tg iter wi) (ok:oJ X.N X.env.scope scope own)
  (hg:∀(s:Shared)(H:Hp)(C:Addr)(cl:List (Str×Addr))(fp:List Addr),PG (uA X s H scope (compEnvC scope cl C X.env) fp fun C=>E (.ref C) none H0) tg g)
  (he:∀(s:Shared)(H:Hp)(C:Addr)(cl:List (Str×Addr))(fp:List Addr),HOk X.prog X.w H s.heap->PE (uA X s H scope (compEnvC scope cl C X.env) fp fun C=>E (.ref C) none H0) elt te) (hs:∀x,foldedSetIterable iter X.env x=pure x)
  (h:tLc wi g FN te (own.map (·.2)) σ H Q)
  (hRR:∀D C s' m H',Inv X pins σ H' s'->Q (.ref D) H'->s'.heap.Ns C m->mQ X pins H' C->compPost (model X.prog X.w) X.A X.xe use Qf (.ref D) C (.ok .next) s'):
  wpAny (model X.prog X.w) X.A (comprehension (.ListComp elt [⟨tg,iter,[],0⟩] scope pos) scope X.env pos' (newList []) false (eval iter X.env) use) Qf X.xe s:=by
 have hfree:∀y∈scope.names,y.2=.free->∃c,X.env.cells.lookup y.1=some c:=fun y hy e=>by
  rcases ok.free y hy e with k|k
  ·exact I.ok.has _ (.inl k)
  ·exact I.ok.has _ (.inr k)
 refine wpAny_comprehension_free (use:=use) rfl hs (mM hfree) ok.kind (fun y hy e=>by rw[ok.uniq y hy,e])
  (thn (hi pins s σ H _ I h) fun xv s1 hx=>thn hx fun itv s2 h2=>?_)
 obtain⟨it,fp,tn,J,H2,e,I2,T,st2,f2,q⟩:=h2;subst e;refine wpAny_newObj_type (qI ?_) (by show 0<=sizeLine;decide);generalize hD:s2.heap.objs.size=D;have hDn:H2 D=none:=I2.hok.fresh (Nat.le_of_eq hD);obtain⟨W,⟨m0,w0⟩,turn⟩:=q D hDn;generalize hs3:({s2 with heap:=s2.heap.push {cls:=.type "list",data:=.seq ([]:List Value).toArray}}:Shared)=s3;have I3:Inv X pins σ (upd H2 D (.lst [])) s3:=by rw[<- hs3];refine I2.laid (t':=s2.toks) (fun b o e=>Heap.get?_push_of_some _ e) (Nat.le_of_eq hD) ⟨Nat.zero_le _,[],0,.nil,?_⟩;rw[<- hD];exact Heap.get?_push_size _ rfl
 have h3:s3.heap=s2.heap.push {cls:=.type "list",data:=.seq ([]:List Value).toArray}:=by rw[<- hs3]
 have sz:∀b∈fp,b<s2.heap.objs.size:=fun b hb=>by obtain⟨o,e,_⟩:=T.obj _ _ st2 b hb;exact Heap.lt_size e
 have f3:∀b∈fp,mQ X pins (upd H2 D (.lst [])) b/\b<s3.heap.objs.size:=fun b hb=>by have hlt:=sz b hb;refine⟨⟨?_,(f2 b hb).2⟩,by rw[h3,Heap.size_push];exact Nat.lt_succ_of_lt hlt⟩;rw[aA (by rw[<- hD];exact Nat.ne_of_lt hlt)];exact(f2 b hb).1
 have st3:tn 0 s3.heap:=T.keep _ _ _ st2 fun b _ o e=>by rw[h3];exact Heap.get?_push_of_some _ e
 have I4':=qS I3 ok hN f3;have pg:=hg s3 (upd H2 D (.lst [])) s3.heap.objs.size (cellsFrom (s3.heap.objs.size+1) scope.names (bH X.env.cells scope.names [])) fp;have pe:=he s3 (upd H2 D (.lst [])) s3.heap.objs.size (cellsFrom (s3.heap.objs.size+1) scope.names (bH X.env.cells scope.names [])) fp I3.hok;show codeAny _ _ (.compStart (.ListComp elt [⟨tg,iter,[],0⟩] scope pos) 0 (.ref it) (.ref D) (compEnvC scope (cellsFrom (s3.heap.objs.size+1) scope.names (bH X.env.cells scope.names [])) s3.heap.objs.size X.env)) (compPost (model X.prog X.w) X.A X.xe use Qf (.ref D) s3.heap.objs.size) {s3 with heap:=pushCells (s3.heap.push {cls:=.type "dict",data:=.dict #[]}) scope.names}
 have nfp:∀b∈fp,(upd H2 D (.lst [])) b=none:=fun b hb=>(f3 b hb).1.1
 generalize hcl:cellsFrom (s3.heap.objs.size+1) scope.names (bH X.env.cells scope.names [])=cl at I4' pg pe ⊢;have noted:∀e s',(uA X s3 (upd H2 D (.lst [])) scope (compEnvC scope cl s3.heap.objs.size X.env) fp fun C=>E (.ref C) none H0).xe e s' ->
   notedBy (model X.prog X.w) X.A (compEnvC scope cl s3.heap.objs.size X.env) (fun e s'=>compPost (model X.prog X.w) X.A X.xe use Qf (.ref D) s3.heap.objs.size (.error e) s') e s':=fun e s' hx=>by
  subst hX;exact GG hok0 I3 (fun b hb=>(f3 b hb).1) hx
 generalize hce:compEnvC scope cl s3.heap.objs.size X.env=ce at I4' pg pe noted ⊢;have cL:ce.locals=s3.heap.objs.size:=by subst hce;rfl
 have I4:Inv (uA X s3 (upd H2 D (.lst [])) scope ce fp fun C=>E (.ref C) none H0) [] (wipe σ (own.map (·.2))) (upd H2 D (.lst [])) {s3 with heap:=pushCells (s3.heap.push {cls:=.type "dict",data:=.dict #[]}) scope.names}:=I4'.qV _;generalize hH3:upd H2 D (.lst [])=H3 at I3 I4 pg pe w0 nfp f3 noted;generalize hs4:({s3 with heap:=pushCells (s3.heap.push {cls:=.type "dict",data:=.dict #[]}) scope.names}:Shared)=s4 at I4 ⊢;have st4:tn 0 s4.heap:=T.keep _ _ _ st3 fun b _ o e=>by rw[<- hs4];exact pushCells_keeps _ _ _ _ (Heap.get?_push_of_some _ e)
 generalize hB:uA X s3 H3 scope ce fp (fun C=>E (.ref C) none H0)=B at I4 pg pe noted;have calm:B.calm=true:=by subst hB hX;rfl
 have stat:∀{σ':L2.St}{H':Hp}{s':Shared},Inv B [] σ' H' s'->(∀b∈fp,H' b=none)->∀b∈fp,mQ B [] H' b:=fun{σ' H' s'} I' hn b hb=>by subst hB;exact⟨hn b hb,(I'.ok.exf b hb).1,I'.ok.BH b hb,.inl hb,fun x c e=>(I'.ok.exf b hb).2 x c e,fun p hp=>absurd (show p∈([]:List (Addr×Obj))++[]from hp) (by simp)⟩
 have eP:B.prog=X.prog:=by subst hB;rfl
 have eW:B.w=X.w:=by subst hB;rfl
 have eK:B.K=X.K:=by subst hB;rfl
 have eA:B.A=X.A:=by subst hB;rfl
 have loop:codeAny (model X.prog X.w) X.A (.compLoop (.ListComp elt [⟨tg,iter,[],0⟩] scope pos) 0 (.ref it) (.ref D) ce) (compPost (model X.prog X.w) X.A X.xe use Qf (.ref D) s3.heap.objs.size) s4:=by
  refine oB (fun n s'=>∃i H',Inv B [] (wipe σ (own.map (·.2))) H' s'/\tn i s'.heap/\(∀b∈fp,H' b=none)/\W i n H') ?_ m0 ⟨0,H3,I4,st4,nfp,w0⟩;rintro n s5 ⟨i,H5,I5,st5,n5,w5⟩;rcases turn i n H5 w5 with⟨stop,qq⟩|⟨go,Nx,hNx,step⟩
  ·have td:=T.done B eP eW eK calm i [] s5 _ H5 (fun _ _=>False) I5 (stat I5 n5) st5 stop;rw[eA]at td;refine vZ td fun r s6 ⟨hr,I6⟩=>?_
   subst hr;have I7:Inv X pins σ H5 s6:=by subst hB;exact I3.CW (ch:=fp) I6.os I6.base I6.hok I6.bare fun b hb=>⟨(f3 b hb).1.2.2.2.1,(f3 b hb).1.2.1,(f3 b hb).1.2.2.2.2.1,(f3 b hb).1.2.2.2.2.2⟩
   have nC:H5 s3.heap.objs.size=none:=by subst hB;have z:H5 ce.locals=none:=I6.free;rw[cL]at z;exact z
   obtain⟨m,hn⟩:∃m,s6.heap.Ns s3.heap.objs.size m:=by subst hB;obtain⟨m,hn,_⟩:=I6.loc;have hn:s6.heap.Ns ce.locals m:=hn;rw[cL]at hn;exact⟨m,hn⟩
   exact hRR D s3.heap.objs.size s6 m H5 I7 qq hn (I3.BC (Nat.le_refl _) nC)
  ·have ti:=T.item B eP eW eK calm i [] s5 _ H5 (fun _ _=>False) I5 (stat I5 n5) st5 go;rw[eA]at ti;refine vZ ti fun r s6 ⟨u,hr,h6⟩=>?_
   subst hr;refine vZ h6 fun _ s7 ⟨x,H7,I7,r7,y7,st7,n7⟩=>?_
   have I7':=I7.pinned (stat I7 n7) (T.obj _ _ st7);have pg':=pg _ s7 _ H7 x u _ I7' r7 (step x H7 y7);rw[eP,eW,eA]at pg';have ee:B.env=ce:=by subst hB;rfl
   rw[ee]at pg';refine wpAny_mono pg' (fun _ s8 ⟨σ8,H8,I8,hw8,q8⟩=>?_) noted;have fin:∀{s':Shared}{H':Hp},Inv B ([]++oY fp s7.heap) σ8 H' s'->Nx H'->∃m,m<n/\∃i H',Inv B [] (wipe σ (own.map (·.2))) H' s'/\tn i s'.heap/\(∀b∈fp,H' b=none)/\W i m H':=fun{s' H'} I' nx=>by
    obtain⟨m',hm,w'⟩:=hNx H' nx;have pin':∀b∈fp,∀o,s7.heap.get? b=some o->s'.heap.get? b=some o/\H' b=none:=fun b hb o e=>
     let z:=I'.pin (b,o) (List.mem_append_right _ (List.mem_append_right _ (jB hb e)))
     ⟨z.1,z.2.1⟩
    have hl:(wipe σ (own.map (·.2))).length=σ8.length:=by rw[<- hw8,gW]
    refine⟨m',hm,i+1,H',(I'.jX (pins:=[])).weak hl (fun j v e=>?_),T.keep _ _ _ st7 fun b hb o e=>(pin' b hb o e).1,fun b hb=>?_,w'⟩
    ·rw[<- hw8]at e;exact(lG e).1
    ·obtain⟨o,e,_⟩:=T.obj _ _ st7 b hb;exact(pin' b hb o e).2
   refine wpAny_pure ?_;have q8:(if true=true then te σ8 H8 fun y H4=>∃acc,H4 D=some (.lst acc)/\acc.length<sizeLine/\Nx (upd H4 D (.lst (acc++[y])))else Nx H8):=q8;simp only[if_true]at q8 ⊢;have pe':=pe _ s8 σ8 H8 _ I8 q8;rw[eP,eW,eA,ee]at pe';refine wpAny_mono pe' (fun z s10 ⟨yv,H10,I10,r10,acc,hD10,hz10,nx⟩=>?_) noted;have ap:=HY (E:=notedBy (model X.prog X.w) X.A ce fun e s'=>compPost (model X.prog X.w) X.A X.xe use Qf (.ref D) s3.heap.objs.size (.error e) s') (Q:=fun _ s₅=>∃m,m<n/\∃i H',Inv B [] (wipe σ (own.map (·.2))) H' s₅/\tn i s₅.heap/\(∀b∈fp,H' b=none)/\W i m H') I10 hD10 hz10 r10 fun s11 I11=>fin I11 nx
   rw[eP,eW,eA]at ap;exact ap
 exact codeAny_compStart_list loop (T.self X.A 0 _ _ _ st4 loop)
theorem L8(hok0:HOk P w H0 s0.heap){elt tg iter:Expr}{scope:Scope}{own:List (Str×Nat)}{pos:Pos}{wi:TI}{g:TG}{te:TE}(hc:(cxF P w K mg base N qual scope0 f cd A outer s0 H0 E).calm=true)(hN:N.Nodup)
  (hi:L2.PI (cxF P w K mg base N qual scope0 f cd A outer s0 H0 E) tg iter wi) (ok:oJ N scope0 scope own)
  (hg:∀(s:Shared)(H:Hp)(C:Addr)(cl:List (Str×Addr))(fp:List Addr),PG (uA (cxF P w K mg base N qual scope0 f cd A outer s0 H0 E) s H scope (compEnvC scope cl C (cxF P w K mg base N qual scope0 f cd A outer s0 H0 E).env) fp fun C=>E (.ref C) none H0) tg g)
  (he:∀(s:Shared)(H:Hp)(C:Addr)(cl:List (Str×Addr))(fp:List Addr),HOk P w H s.heap->PE (uA (cxF P w K mg base N qual scope0 f cd A outer s0 H0 E) s H scope (compEnvC scope cl C (cxF P w K mg base N qual scope0 f cd A outer s0 H0 E).env) fp fun C=>E (.ref C) none H0) elt te)
  (hs:∀x,foldedSetIterable iter (cxF P w K mg base N qual scope0 f cd A outer s0 H0 E).env x=pure x:=by intro _;rfl):
  PE (cxF P w K mg base N qual scope0 f cd A outer s0 H0 E) (.ListComp elt [⟨tg,iter,[],0⟩] scope pos) (tLc wi g FN te (own.map (·.2))):=by
 intro pins s σ H Q I h;rw[eval_ListComp];refine yO rfl hok0 hN I hi ok hg he hs h fun D C s' m H' I' q hn f=>⟨m,hn,fun h'' sb=>?_⟩
 obtain⟨f0,f1,f2,f3,f4,f5⟩:=f;exact⟨.ref D,H',I'.turned (t':=s'.toks) (fun b o hb e=>(sb.2 b hb).trans e) f0 f1 f3 f4 f5,rfl,q⟩
theorem uR(hok0:HOk P w H0 s0.heap){i:Nat}{y:Str}{py:Pos}{elt tg iter:Expr}{scope:Scope}{own:List (Str×Nat)}{pos spos:Pos}{wi:TI}{g:TG}{te:TE}(hc:(cxF P w K mg base N qual scope0 f cd A outer s0 H0 E).calm=true)(hN:N.Nodup)(hy:N[i]? =some y)(hyl:scope0.names.lookup y=some .local)
  (hsw:swapsWith (.ListComp elt [⟨tg,iter,[],0⟩] scope pos) (some (.Name y py)) spos.line (cxF P w K mg base N qual scope0 f cd A outer s0 H0 E).env=pure true)
  (hi:L2.PI (cxF P w K mg base N qual scope0 f cd A outer s0 H0 E) tg iter wi) (ok:oJ N scope0 scope own)
  (hg:∀(s:Shared)(H:Hp)(C:Addr)(cl:List (Str×Addr))(fp:List Addr),PG (uA (cxF P w K mg base N qual scope0 f cd A outer s0 H0 E) s H scope (compEnvC scope cl C (cxF P w K mg base N qual scope0 f cd A outer s0 H0 E).env) fp fun C=>E (.ref C) none H0) tg g)
  (he:∀(s:Shared)(H:Hp)(C:Addr)(cl:List (Str×Addr))(fp:List Addr),HOk P w H s.heap->PE (uA (cxF P w K mg base N qual scope0 f cd A outer s0 H0 E) s H scope (compEnvC scope cl C (cxF P w K mg base N qual scope0 f cd A outer s0 H0 E).env) fp fun C=>E (.ref C) none H0) elt te)
  (hs:∀x,foldedSetIterable iter (cxF P w K mg base N qual scope0 f cd A outer s0 H0 E).env x=pure x:=by intro _;rfl):
  PS (cxF P w K mg base N qual scope0 f cd A outer s0 H0 E) (.Assign [.Name y py] (.ListComp elt [⟨tg,iter,[],0⟩] scope pos) spos) (DJ (tLc wi g FN te (own.map (·.2))) (kI i)):=by
 generalize hX:cxF P w K mg base N qual scope0 f cd A outer s0 H0 E=X at*;have hN':X.N.Nodup:=by subst hX;exact hN
 have hy':X.N[i]? =some y:=by subst hX;exact hy
 have hyl':X.env.scope.names.lookup y=some .local:=by subst hX;exact hyl
 have ok':oJ X.N X.env.scope scope own:=by subst hX;exact ok
 intro pins s σ H D I h;rw[exec_Assign_Name_used _ _ _ _ hsw];refine wpAny_bind (wpAny_standAt (wpAny_bind ?_));show wpAny _ X.A (do let _<- comprehension (.ListComp elt [⟨tg,iter,[],0⟩] scope pos) scope X.env (firstIterPos [⟨tg,iter,[],0⟩] pos) (newList []) false (eval iter X.env) (some (assign (.Name y py) X.env))) _ _ s
 have h:tLc wi g FN te (own.map (·.2)) σ H (fun x H1=>kI i x σ H1 D.nx):=h;refine wpAny_bind (thn (yO (Qf:=fun _ s'=>SP X pins D .next s') hX.symm hok0 hN' I hi ok' hg (fun s H C cl fp hk=>he s H C cl fp (by subst hX;exact hk)) hs h fun L C s' m H' I' q hn f=>?_) fun _ s' hq=>wpAny_pure (wpAny_pure hq));show wpAny _ _ (assign (.Name y py) X.env (.ref L)) _ _ _
 refine wpAny_assign_Name (oP (v:=V.ref L) I' hN' hy' (.inl hyl') rfl (fun s2 I2 ⟨a,sb,ha⟩=>?_) (.inr hyl'));obtain⟨f0,f1,f2,f3,f4,f5⟩:=f;have haC:C≠a:=by
  rcases ha with z|z
  ·rw[z];exact f1
  ·exact fun e=>f4 y a z e.symm
 refine⟨m,hn.sameBut sb haC,fun h3 sb3=>?_⟩;exact⟨_,H',I2.turned (t':=s2.toks) (fun b o hb e=>(sb3.2 b hb).trans e) f0 f1 f3 f4 f5,q⟩
end
end L3
namespace L3
open PySem PySem.Spec PyProof.Rows L2
theorem T2.upd{H:Hp}{v:V}{p:Int×Int}{D:Addr}{xs:List V}{o:HO}(h:T2 H v p)(hD:H D=some (.lst xs)):T2 (L2.upd H D o) v p:=by obtain⟨a,e,q⟩:=h;exact⟨a,e,by rw[aA (fC q hD (by intro z;cases z))];exact q⟩
theorem T3.upd{H:Hp}{v:V}{p:Int×Int×Int}{D:Addr}{xs:List V}{o:HO}(h:T3 H v p)(hD:H D=some (.lst xs)):T3 (L2.upd H D o) v p:=by obtain⟨a,e,q⟩:=h;exact⟨a,e,by rw[aA (fC q hD (by intro z;cases z))];exact q⟩
theorem LT.upd{H:Hp}{b D:Addr}{zs:List PI}{xs:List V}{o:HO}(h:LT H (.ref b) zs)(hD:H D=some (.lst xs))(n:b≠D):LT (L2.upd H D o) (.ref b) zs:=by obtain⟨a,ys,e,q,pr⟩:=h;cases e;exact⟨b,ys,rfl,by rw[aA n];exact q,aI (fun _ _ z=>z.upd hD) pr⟩
theorem LLI.apart{H:Hp}{p:Addr}{xs:List V}(hp:H p=some (.lst xs)){v:V}(hv:v∈xs){row:List Int}(h:LI H v row):∃b,v=.ref b/\b≠p/\H b=some (.lst (row.map V.int)):=by obtain⟨b,rfl,q⟩:=h;refine⟨b,rfl,fun z=>?_,q⟩;rw[z,hp]at q;have q:=HO.lst.inj (Option.some.inj q);rw[q]at hv;obtain⟨n,_,e⟩:=List.mem_map.mp hv;cases e
theorem eX{α β:Type}{R:α->β->Prop}:∀{l:List α}{m:List β},Paired R l m->Paired R l.dropLast m.dropLast
 |_,_,.nil=>.nil
 |_,_,.cons _ .nil=>.nil
 |_,_,.cons r (.cons q t)=>.cons r (eX (.cons q t))
theorem lK{α β:Type}{R:α->β->Prop}:∀{l:List α}{m:List β},Paired R l m->Paired (fun a b=>a∈l/\b∈m/\R a b) l m
 |_,_,.nil=>.nil
 |_,_,.cons r t=>.cons ⟨by simp,by simp,r⟩ (aI (fun _ _ ⟨h1,h2,h3⟩=>⟨List.mem_cons_of_mem _ h1,List.mem_cons_of_mem _ h2,h3⟩) (lK t))
theorem nL{α:Type}{a:α}:∀{l:List α},a∈l.dropLast->a∈l
 |[],h=>by cases h
 |[_],h=>by cases h
 |x::y::r,h=>by
  rcases List.mem_cons.mp h with rfl|h
  ·simp
  ·exact List.mem_cons_of_mem _ (nL h)
end L3
namespace L3
open PySem PySem.Spec PyProof.Rows L2
theorem HF{K:W.Frag}{a:Addr}{xs:List V}{g:TG}{tb:TS}{D:Ends}{σ:L2.St}{H:Hp}(Pv:Nat->L2.St->Hp->Prop)(h0:Pv 0 σ H)(hl:∀i σ H,i<=xs.length->Pv i σ H->SqL K H a xs)
  (hs:∀i x σ H T,xs[i]? =some x->Pv i σ H->H T=none->g (.ref T) σ (upd H T (.tup [.int (i:Nat),x])) fun σ2 H2=>tb {D with nx:=Pv (i+1),ct:=Pv (i+1),bk:=D.nx} σ2 H2) (hd:∀σ H,Pv xs.length σ H->D.nx σ H):
  ∃W:Nat->Nat->L2.St->Hp->Prop,(∃m,W 0 m σ H)/\∀i m σ H,W i m σ H ->
   ((Ite K a).stop i H/\D.nx σ H)\/((Ite K a).go i H/\∃N:L2.St->Hp->Prop,(∀σ' H',N σ' H'->∃m',m'<m/\W (i+1) m' σ' H')/\∀x H',(Ite K a).yld i H x H'->g x σ H' fun σ2 H2=>tb {D with nx:=N,ct:=N,bk:=D.nx} σ2 H2):=by
 refine⟨fun i m σ H=>m=xs.length - i/\i<=xs.length/\Pv i σ H,⟨xs.length,by simp,Nat.zero_le _,h0⟩,?_⟩;rintro i m σ H ⟨rfl,hi,p⟩;have q:=hl i σ H hi p;by_cases hlt:i<xs.length
 ·refine .inr ⟨⟨xs,xs[i],q,by simp[hlt]⟩,Pv (i+1),fun σ' H' p'=>⟨xs.length - (i+1),by omega,rfl,hlt,p'⟩,fun x H' y=>?_⟩;obtain⟨T,z,rfl,hT,rfl,y⟩:=y;exact hs i z σ H T (y xs q) p hT
 ·have e:i=xs.length:=by omega
  subst e;exact .inl ⟨⟨xs,q,Nat.le_refl _⟩,hd σ H p⟩
theorem nS{d:Addr}{od:Obj}{kvs:List (List Key×V)}{g:TG}{tb:TS}{D:Ends}{σ:L2.St}{H:Hp}(Pv:Nat->L2.St->Hp->Prop)(h0:Pv 0 σ H)(hl:∀i σ H,Pv i σ H->H d=some (.frz od (.dT kvs)))
  (hs:∀i k v q σ H,kvs[i]? =some (k,v)->H q=some (.tup (k.map kV))->Pv i σ H->g (.ref q) σ H fun σ2 H2=>tb {D with nx:=Pv (i+1),ct:=Pv (i+1),bk:=D.nx} σ2 H2) (hd:∀σ H,Pv kvs.length σ H->D.nx σ H):
  ∃W:Nat->Nat->L2.St->Hp->Prop,(∃m,W 0 m σ H)/\∀i m σ H,W i m σ H ->
   ((zT d od kvs).stop i H/\D.nx σ H)\/((zT d od kvs).go i H/\∃N:L2.St->Hp->Prop,(∀σ' H',N σ' H'->∃m',m'<m/\W (i+1) m' σ' H')/\∀x H',(zT d od kvs).yld i H x H'->g x σ H' fun σ2 H2=>tb {D with nx:=N,ct:=N,bk:=D.nx} σ2 H2):=by
 refine⟨fun i m σ H=>m=kvs.length - i/\i<=kvs.length/\Pv i σ H,⟨kvs.length,by simp,Nat.zero_le _,h0⟩,?_⟩;rintro i m σ H ⟨rfl,hi,p⟩;have q:=hl i σ H p;by_cases hlt:i<kvs.length
 ·refine .inr ⟨⟨q,hlt⟩,Pv (i+1),fun σ' H' p'=>⟨kvs.length - (i+1),by omega,rfl,hlt,p'⟩,fun x H' y=>?_⟩;obtain⟨rfl,k,v,b,hk,rfl,hb⟩:=y;exact hs i k v b σ H' hk hb p
 ·have e:i=kvs.length:=by omega
  subst e;exact .inl ⟨⟨q,Nat.le_refl _⟩,hd σ H p⟩
theorem CC{d:Addr}{od:Obj}{kvs:List (List Key×V)}{g:TG}{tt:TT}{te:TE}{vs:List Nat}{σ:L2.St}{H1:Hp}{D:Addr}{Qd:Hp->Prop}(Pv:Nat->Hp->Prop)(h0:Pv 0 (upd H1 D (.lst [])))(hl:∀i H,Pv i H->H d=some (.frz od (.dT kvs)))
  (hs:∀i k v q H,kvs[i]? =some (k,v)->H q=some (.tup (k.map kV))->Pv i H->g (.ref q) (wipe σ vs) H fun σ2 H2=>wipe σ2 vs=wipe σ vs/\tt σ2 H2 fun b H3=>
   if b=true then te σ2 H3 fun y H4=>∃acc,H4 D=some (.lst acc)/\acc.length<sizeLine/\Pv (i+1) (upd H4 D (.lst (acc++[y])))else Pv (i+1) H3) (hd:∀H,Pv kvs.length H->Qd H):
  ∃W:Nat->Nat->Hp->Prop,(∃m,W 0 m (upd H1 D (.lst [])))/\∀i m H,W i m H ->
   ((zT d od kvs).stop i H/\Qd H)\/((zT d od kvs).go i H/\∃Nx:Hp->Prop,(∀H',Nx H'->∃m',m'<m/\W (i+1) m' H')/\∀x H',(zT d od kvs).yld i H x H'->g x (wipe σ vs) H' fun σ2 H2=>wipe σ2 vs=wipe σ vs/\tt σ2 H2 fun b H3=>
    if b=true then te σ2 H3 fun y H4=>∃acc,H4 D=some (.lst acc)/\acc.length<sizeLine/\Nx (upd H4 D (.lst (acc++[y])))else Nx H3):=by
 refine⟨fun i m H=>m=kvs.length - i/\i<=kvs.length/\Pv i H,⟨kvs.length,by simp,Nat.zero_le _,h0⟩,?_⟩;rintro i m H ⟨rfl,hi,p⟩;have q:=hl i H p;by_cases hlt:i<kvs.length
 ·refine .inr ⟨⟨q,hlt⟩,Pv (i+1),fun H' p'=>⟨kvs.length - (i+1),by omega,rfl,hlt,p'⟩,fun x H' y=>?_⟩;obtain⟨rfl,k,v,b,hk,rfl,hb⟩:=y;exact hs i k v b H' hk hb p
 ·have e:i=kvs.length:=by omega
  subst e;exact .inl ⟨⟨q,Nat.le_refl _⟩,hd H p⟩
theorem a9.unlock{H H2:Hp}{d:Addr}{od:Obj}{u:HO}(h:H d=some u)(e:a9 (L2.upd H d (.frz od u)) H2):a9 H (L2.upd H2 d u):=fun b o q=>by
 by_cases hb:b=d
 ·subst hb;rw[a7];rw[h]at q;exact q
 ·rw[aA hb];exact e b o (by rw[aA hb];exact q)
theorem T2.qW{H:Hp}{v:V}{p:Int×Int}{D:Addr}{u o:HO}(h:T2 H v p)(hD:H D=some u)(hu:∀xs,u≠ .tup xs):T2 (L2.upd H D o) v p:=by obtain⟨a,e,q⟩:=h;exact⟨a,e,by rw[aA (fC q hD (fun z=>hu _ z.symm))];exact q⟩
theorem T3.qW{H:Hp}{v:V}{p:Int×Int×Int}{D:Addr}{u o:HO}(h:T3 H v p)(hD:H D=some u)(hu:∀xs,u≠ .tup xs):T3 (L2.upd H D o) v p:=by obtain⟨a,e,q⟩:=h;exact⟨a,e,by rw[aA (fC q hD (fun z=>hu _ z.symm))];exact q⟩
theorem HW{xs:List V}{k:Nat}{v:V}(hk:k<xs.length)(h:xs[if k=0 then xs.length - 1 else k - 1]? =some v):atI xs ((k:Int) - 1)=some v:=by
 by_cases h0:k=0
 ·subst h0;rw[if_pos rfl]at h;unfold atI ixN;rw[if_neg (by omega),if_pos (by omega)];show xs[(((0:Nat):Int) - 1+(xs.length:Int)).toNat]? =some v
  rw[show(((0:Nat):Int) - 1+(xs.length:Int)).toNat=xs.length - 1 by omega];exact h
 ·rw[if_neg h0]at h;exact bQ (by omega) (by rw[show((k:Int) - 1).toNat=k - 1 by omega];exact h)
end L3
namespace L3
open PySem PySem.Spec PyProof.Rows L2
def CS(C:List (Nat×Nat)):List (PI×V):=C.map fun c=>(RM.iP c,.bl true)
theorem lV(C:List (Nat×Nat)):(CS C).map (·.1)=C.map RM.iP:=by simp[CS]
theorem fX{a b:Nat×Nat}(h:RM.iP a=RM.iP b):a=b:=by unfold RM.iP at h;have h1:=congrArg Prod.fst h;have h2:=congrArg Prod.snd h;simp at h1 h2;exact Prod.ext (by omega) (by omega)
theorem D4(C:List (Nat×Nat))(c:Nat×Nat)(h:c∉C):RM.cV (CS C) (RM.iP c) (.bl true)=CS (C++[c]):=by
 rw[RM.fT]
 ·simp[CS]
 ·rw[lV];intro z;obtain⟨d,hd,e⟩:=List.mem_map.mp z;exact h (fX e▸hd)
theorem pW(C:List (Nat×Nat)):(CS C).length=C.length:=by simp[CS]
theorem MA(C:List (Nat×Nat))(q:PI):(RM.aJ (CS C) q).isSome=true↔q∈C.map RM.iP:=by rw[RM.aS,lV]
end L3
namespace L3
open PySem PySem.Spec PySem.Calls PyProof.Rows L2
structure g7(h:Heap)(d:Addr)(o:Obj)(es:Array DictEntry)(ep:Nat):Prop where
 at_:h.get? d=some o
 ex:o.ExactDict
 dat:o.data=.dict es ep
theorem g7.ty{s:Shared}{d:Addr}{o:Obj}{es:Array DictEntry}{ep:Nat}(e:g7 s.heap d o es ep):s.TypeIs (.ref d) "dict" :=⟨o,e.at_,e.ex.1⟩
theorem g7.to{h h':Heap}{d:Addr}{o:Obj}{es:Array DictEntry}{ep:Nat}(e:g7 h d o es ep)(k:∀q,h.get? d=some q->h'.get? d=some q):g7 h' d o es ep:=⟨k _ e.at_,e.ex,e.dat⟩
section
variable {X:Cx}{pins:List (Addr×Obj)}{σ:L2.St}{H:Hp}{s:Shared}{a:Addr}{kvs:List (List Key×V)}
theorem lR(I:Inv X pins σ H s)(e:Rd H a (.dT kvs)):(a==sysModules)=false/\kvs.length<=sizeLine/\∃o es ep,g7 s.heap a o es ep/\es.size=kvs.length/\
  ∀(i:Nat)(en:DictEntry),es[i]? =some en->∃k v q,kvs[i]? =some (k,v)/\en.key=.ref q/\H q=some (.tup (k.map kV))/\RelV v en.val:=by
 obtain⟨z,hs,xs,kt,o,es,ep,ho,hx,hdat,hes,_,_⟩:=nX I.hok e;refine⟨hs,z,o,es,ep,⟨ho,hx,hdat⟩,?_,fun i en hen=>?_⟩
 ·rw[size_of_entries hes,<- Paired.length kt]
 ·rw[entry_at hes i]at hen;cases hxs:xs[i]? with
  |none=>rw[hxs]at hen;cases hen
  |some x=>rw[hxs]at hen;obtain⟨⟨k,v⟩,hk,e1,e2,e3⟩:=iS kt hxs;cases hen;exact⟨k,v,x.2.1,hk,rfl,e2,e3⟩
end
section
variable {prog:Program}{w:World}{A:Around}{E:Value->Shared->Prop}{s:Shared}{d:Addr}{o:Obj}{es:Array DictEntry}{ep:Nat}
theorem AU(hs:(d==sysModules)=false):MeetsIn prog w (Builtin.«dict.__len__» ⟨[.ref d],[]⟩) fun _ R s=>∃o es ep,g7 s.heap d o es ep/\R (.ok (.ret (.int es.size s.toks))) {s with toks:=s.toks+1}:=
 .of_wp fun A R s q=>by
  obtain⟨o,es,ep,e,hR⟩:=q;show wpAny _ _ (dictSize d>>=fun _=>_) _ _ s
  delta dictSize
  exact wpAny_bind (wpAny_bind (wpAny_dictEntries e.at_ e.dat (wpAny_pure (show wpAny _ _ (Builtin.Dict.pendingCount d>>=fun _=>_) _ _ s from wpAny_bind (wpAny_pendingCount_other hs (wpAny_ret_mkInt (by rw[Nat.add_zero];exact hR)))))))
theorem E5{Q:Value->Shared->Prop}(hs:(d==sysModules)=false)(e:g7 s.heap d o es ep)(hf:(es.size:Int)<2^63)(hQ:Q (.int es.size (s.toks+1)) {s with toks:=s.toks+1+1}):
  wpAny (model prog w) A (Builtin.«len» ⟨[.ref d],[]⟩) (fun fin s'=>∃r,fin=.done (.ret r)/\Q r s') E s:=by
 delta Builtin.«len»
 refine wpAny_bind (m:=oneArg "len" _) (wpAny_pure (wpAny_bind (m:=callSpecial? (.ref d) (Str.ofString "__len__")) (wpAny_callSpecial?_slot (name:=Str.ofString "__len__") e.ty F.slot_dict_len (call_meetsIn F.slot_dict_len e.ty F.entry_dict_len (F.args_dict_len_1 _) (AU hs) ⟨o,es,ep,e,?_⟩))));show wpAny _ _ _ _ _ {s with toks:=s.toks+1}
 refine wpAny_bind (wpAny_holding (wpAny_pure (wpAny_bind (wpAny_letGo ?_))));have n1:¬(((es.size:Nat):Int)<0):=by omega
 have n2:¬(((es.size:Nat):Int)>=2^63):=by omega
 show wpAny _ _ (if((es.size:Nat):Int)<0 then _ else if((es.size:Nat):Int)>=2^63 then _ else _) _ _ _
 rw[if_neg n1,if_neg n2];exact wpAny_bind (wpAny_mkInt (wpAny_pure ⟨_,rfl,hQ⟩))
theorem KD(hh:A.handled=none)(I:Addr)(hne:d≠I)(hx:o.ExactDict)(hdat:o.data=.dict es ep):Walks prog w A I [I,d] [I] es.size (fun i v=>∃en,es[i]? =some en/\v=en.key) (fun i h=>h.IsKeyIter I d i es.size ep/\g7 h d o es ep) where
 sub:=fun b hb=>by rw[List.mem_singleton]at hb;rw[hb];exact List.mem_cons_self
 frame:=fun _ _ _ st k=>⟨st.1.at fun q e=>k I List.mem_cons_self q e,st.2.to fun q e=>k d (List.mem_cons_of_mem _ List.mem_cons_self) q e⟩
 item:=fun i s Q E hi st hQ=>by
  have he:es[i]? =some es[i]:=Array.getElem?_eq_getElem hi;refine m5 st.1 st.2.at_ hdat rfl he fun h' it' sb=>?_
  exact hQ _ h' s.toks ⟨_,he,rfl⟩ ⟨it',st.2.to fun q e=>(sb.2 d hne).trans e⟩ fun b q hb e=>(sb.2 b (fun z=>hb (z▸List.mem_cons_self))).trans e
 done:=fun s Q E st hQ=>jA hh st.1 st.2.at_ hdat rfl (Nat.le_refl _) fun h' eb=>hQ h' s.toks fun b q hb e=>eb b q (fun z=>hb (z▸List.mem_cons_self)) e
 self:=fun _ _ _ _ st hQ=>wpAny_pyIter_keyiter st.1 hQ
theorem MQ(hs:(d==sysModules)=false)(hx:o.ExactDict)(hdat:o.data=.dict es ep):W.KdlSrc prog w "dict" d d es.size (fun i v=>∃en,es[i]? =some en/\v=en.key) (fun h=>g7 h d o es ep) where
 type:=fun _ e=>e.ty
 there:=fun _ e=>⟨Heap.lt_size e.at_,Heap.lt_size e.at_⟩
 keep:=fun _ _ e k=>e.to fun q z=>k d (.inl rfl) q z
 notList:=by decide
 notTuple:=by decide
 hint:=fun _ _ _ _ e hq=>W.kdl_hint_dict e.ty hq
 iter:=fun A s hh e=>⟨_,_,fun _ _ hq=>pH hs e.at_ e.ex e.dat hq,KD hh _ (Nat.ne_of_lt (Heap.lt_size e.at_)) hx hdat,⟨⟨_,Heap.get?_push_size _ rfl,rfl,rfl⟩,e.to fun q z=>Heap.get?_push_of_some _ z⟩⟩
end
noncomputable def lD(H:Hp)(qs:List V)(kvs:List (List Key×V)):Prop:=Paired (fun v (kv:List Key×V)=>∃q,v=.ref q/\H q=some (.tup (kv.1.map kV))) qs kvs
theorem CF{H:Hp}{kvs:List (List Key×V)}:∀{us:List Value},us.length=kvs.length->(∀(j:Nat)(u:Value),us[j]? =some u->∃k v q,kvs[j]? =some (k,v)/\u=.ref q/\H q=some (.tup (k.map kV)))->∃qs,Vals qs us/\lD H qs kvs:=by
 induction kvs with
 |nil=>intro us hl _;exact⟨[],by rw[List.eq_nil_of_length_eq_zero hl];exact .nil,.nil⟩
 |cons kv r ih=>
  intro us hl hu;match us,hl with
  |u::us,hl=>
   obtain⟨k,v,q,e1,e2,e3⟩:=hu 0 u rfl;obtain⟨qs,h1,h2⟩:=ih (us:=us) (by simpa using hl) fun j x hx=>by simpa using hu (j+1) x (by simpa using hx)
   have e1:kv=(k,v):=by simpa using e1
   exact⟨.ref q::qs,.cons e2 h1,.cons ⟨q,rfl,by rw[e1];exact e3⟩ h2⟩
section
variable {X:Cx}
theorem lT:jT X (.builtin "len") (fun xs H Q=>∃a kvs,xs=[V.ref a]/\Rd H a (.dT kvs)/\Q (.int kvs.length) H):=by intro pins s σ H xs us Q I r h;obtain⟨a,kvs,rfl,ha,q⟩:=h;obtain⟨u,rfl,ru⟩:=vals1 r;cases ru;obtain⟨hs,hz,o,es,ep,e,sz,_⟩:=lR I ha;have hn:=sQ;exact Calls.call_function_entry kind_len plain_len entry_len (args_len1 _) (E5 hs e (by rw[sz];omega) ⟨.int kvs.length,H,I.tok _,⟨_,by rw[sz]⟩,q⟩)
theorem BO(hc:X.calm=true):jT X (.type "list") (fun xs H Q=>∃a kvs,xs=[V.ref a]/\Rd H a (.dT kvs)/\∀l qs,H l=none->lD H qs kvs->Q (.ref l) (upd H l (.lst qs))):=by
 intro pins s σ H xs us Q I r h;obtain⟨a,kvs,rfl,ha,q⟩:=h;obtain⟨u,rfl,ru⟩:=vals1 r;cases ru;obtain⟨hs,hz,o,es,ep,e,sz,en⟩:=lR I ha;refine W.kdl_call (MQ hs e.ex e.dat) (I.ok.hd hc) e (by rw[sz];exact hz) fun h' tk acc c kp hl it=>?_
 obtain⟨qs,v1,v2⟩:=CF (H:=H) (kvs:=kvs) (us:=acc.toList) (by rw[Array.length_toList,it.1,sz]) fun j x hx=>by obtain⟨n,hn,e2⟩:=it.2 j x (by rw[<- Array.getElem?_toList];exact hx);obtain⟨k,v,p,e3,e4,e5,_⟩:=en j n hn;exact⟨k,v,p,e3,e2.trans e4,e5⟩
 have hlen:qs.length<=sizeLine:=by rw[pairs_len v2];exact hz
 exact⟨.ref s.heap.objs.size,_,I.laid (a:=s.heap.objs.size) (o:=.lst qs) kp (Nat.le_refl _) ⟨hlen,acc.toList,c,v1,by rw[Array.toArray_toList];exact hl⟩,rfl,q _ qs (I.hok.fresh (Nat.le_refl _)) v2⟩
end
end L3
namespace L3
open PySem PySem.Spec PyProof.Rows L2
theorem zU(C:List (Nat×Nat))(q:PI):(RM.aJ (CS C) q).isSome=decide (q∈RM.iW C):=by rw[Bool.eq_iff_iff,MA,decide_eq_true_iff];rfl
theorem mX{i:Nat}{x:V}(h:([.int 0,.int 1,.int 2,.int 3]:List V)[i]? =some x):i<4/\x=.int (i:Nat):=by
 have hi:i<4:=(List.getElem?_eq_some_iff.mp h).1;refine⟨hi,?_⟩;have cs:i=0\/i=1\/i=2\/i=3:=by omega
 rcases cs with rfl|rfl|rfl|rfl<;>(cases h;rfl)
theorem not_true{b:Bool}(h:¬b=true):b=false:=by simpa using h
def tW(H:Hp)(p:Addr):Nat:=match H p with|some (.lst xs)=>xs.length|_=>0
def lW(H:Hp)(p:Addr):Nat:=match H p with|some (.dT kvs)=>kvs.length|_=>0
theorem lO{H:Hp}{p:Addr}{xs:List V}(h:H p=some (.lst xs)):tW H p=xs.length:=by unfold tW;rw[h]
theorem CB{H:Hp}{p:Addr}{kvs:List (List Key×V)}(h:H p=some (.dT kvs)):lW H p=kvs.length:=by unfold lW;rw[h]
theorem yN{H:Hp}{p:Addr}{kvs:List (PI×V)}(h:D2 H p kvs):lW H p=kvs.length:=by rw[CB h,eM]
theorem GN{H:Hp}{p:Addr}{kvs:List (PI3×V)}(h:D3 H p kvs):lW H p=kvs.length:=by rw[CB h,eM]
theorem EX(xs:List V):EY xs none (some 1)=xs.take 1:=by
 unfold EY;cases xs with
 |nil=>rfl
 |cons x r=>
  have e:HT.sIx (x::r).length (x::r).length (some 1)=1:=by simp[HT.sIx]
  have e0:HT.sIx (x::r).length 0 none=0:=by simp[HT.sIx]
  rw[e,e0];rfl
theorem yQ{H:Hp}{qs:List V}{kvs:List (PI×V)}(h:lD H qs (kvF k2 kvs)):Paired (T2 H) qs (kvs.map (·.1)):=by
 unfold lD kvF at h;induction kvs generalizing qs with
 |nil=>cases h;exact .nil
 |cons x r ih=>
  rw[List.map_cons]at h;cases h with
  |cons h t=>exact .cons h (ih t)
theorem mH{kvs:List (PI×V)}{i:Nat}{k:List Key}{v:V}(h:(kvF k2 kvs)[i]? =some (k,v)):∃p,kvs[i]? =some (p,v)/\k=k2 p:=by
 unfold kvF at h;rw[List.getElem?_map]at h;cases e:kvs[i]? with
 |none=>rw[e]at h;cases h
 |some x=>rw[e]at h;cases h;exact⟨x.1,rfl,rfl⟩
theorem GO{kvs:List (PI3×V)}{i:Nat}{k:List Key}{v:V}(h:(kvF k3 kvs)[i]? =some (k,v)):∃p,kvs[i]? =some (p,v)/\k=k3 p:=by
 unfold kvF at h;rw[List.getElem?_map]at h;cases e:kvs[i]? with
 |none=>rw[e]at h;cases h
 |some x=>rw[e]at h;cases h;exact⟨x.1,rfl,rfl⟩
end L3
namespace L3
open PySem PySem.Spec PyProof.Rows L2
def IV{κ:Type}(l:List (κ×Int)):List (κ×V):=l.map fun x=>(x.1,V.int x.2)
theorem xC{κ:Type}(l:List (κ×Int)):(IV l).map (·.1)=l.map (·.1):=by simp[IV]
theorem dN{κ:Type}(l:List (κ×Int)):(IV l).length=l.length:=by simp[IV]
theorem f9{κ:Type}[DecidableEq κ](k:κ):∀l:List (κ×Int),RM.aJ (IV l) k=(RM.aJ l k).map V.int
 |[]=>rfl
 |x::r=>by
  show RM.aJ ((x.1,V.int x.2)::IV r) k=_
  rw[RM.bW,RM.bW,f9 k r];by_cases e:x.1=k
  ·rw[if_pos e,if_pos e];rfl
  ·rw[if_neg e,if_neg e]
theorem lE{κ:Type}[DecidableEq κ](k:κ)(v:Int)(l:List (κ×Int)):RM.cV (IV l) k (.int v)=IV (RM.cV l k v):=by
 unfold RM.cV;have e:((IV l).any fun x=>decide (x.1=k))=l.any fun x=>decide (x.1=k):=by unfold IV;rw[List.any_map];rfl
 rw[e];split
 ·unfold IV;rw[List.map_map,List.map_map];apply List.map_congr_left;intro x _;simp only[Function.comp];split<;>rfl
 ·simp[IV]
theorem IB{κ:Type}[DecidableEq κ](k:κ)(l:List (κ×Int)):(RM.aJ (IV l) k).isSome=(RM.aJ l k).isSome:=by rw[f9];cases RM.aJ l k<;>rfl
theorem a9.both{H H1:Hp}{c:Addr}{x:HO}(e:a9 H H1):a9 (L2.upd H c x) (L2.upd H1 c x):=fun b o h=>by
 by_cases hb:b=c
 ·subst hb;rw[a7]at h ⊢;exact h
 ·rw[aA hb]at h ⊢;exact e b o h
theorem fG{H:Hp}{c h:Addr}{o:HO}{u:HO}(hc:H c=some u)(hh:H h=none):(L2.upd H c o) h=none:=by rw[aA (aH hc hh).symm];exact hh
end L3
namespace L3
open PySem PySem.Spec PyProof.Rows L2
def But(a:Addr)(H H':Hp):Prop:=∀b u,b≠a->H b=some u->H' b=some u
theorem But.refl(a:Addr)(H:Hp):But a H H:=fun _ _ _ h=>h
theorem But.trans{a:Addr}{H H1 H2:Hp}(x:But a H H1)(y:But a H1 H2):But a H H2:=fun b u n h=>y b u n (x b u n h)
theorem a9.but{a:Addr}{H H':Hp}(e:a9 H H'):But a H H':=fun b u _ h=>e b u h
theorem But.here{a:Addr}{H H1:Hp}{o:HO}(x:But a H H1):But a H (L2.upd H1 a o):=fun b u n h=>by rw[aA n];exact x b u n h
theorem But.put{a x:Addr}{H H1:Hp}{o:HO}(e:But a H H1)(h:H x=none):But a H (L2.upd H1 x o):=fun b u n q=>by rw[aA (aH q h)];exact e b u n q
theorem T2.but{a:Addr}{H H':Hp}{v:V}{p:PI}{u:HO}(h:T2 H v p)(e:But a H H')(ha:H a=some u)(hu:∀xs,u≠ .tup xs):T2 H' v p:=by obtain⟨b,rfl,q⟩:=h;exact⟨b,rfl,e b _ (fC q ha (fun z=>hu _ z.symm)) q⟩
theorem But.same{a:Addr}{H0 H H':Hp}(e:But a H H')(s:a9 H0 H)(ha:H0 a=none):a9 H0 H':=fun b u q=>e b u (aH q ha) (s b u q)
theorem rC{p:Prop}{i:Decidable p}(h:(!@decide p i)=true):¬p:=fun z=>by rw[decide_eq_true z]at h;cases h
theorem nK{p:Prop}{i:Decidable p}(h:¬(!@decide p i)=true):p:=by
 by_cases z:p
 ·exact z
 ·rw[decide_eq_false z]at h;exact absurd rfl h
def KS{κ:Type}(l:List κ):List (κ×V):=l.map fun p=>(p,V.bl true)
theorem xB{κ:Type}(l:List κ):(KS l).map (·.1)=l:=by simp[KS,Function.comp_def]
theorem BU{κ:Type}(l:List κ):(KS l).length=l.length:=by simp[KS]
theorem I0{κ:Type}[DecidableEq κ](l:List κ)(k:κ):(RM.aJ (KS l) k).isSome=decide (k∈l):=by rw[Bool.eq_iff_iff,RM.aS,xB,decide_eq_true_iff]
theorem K3{κ:Type}[DecidableEq κ]{l:List κ}{k:κ}(h:k∉l):RM.cV (KS l) k (.bl true)=KS (l++[k]):=by rw[RM.fT _ (by rw[xB];exact h)];simp[KS]
end L3
namespace L3
open PySem PySem.Spec PyProof.Rows L2
def ixs(l:List Int):List (Int ⊕ List Nat):=l.map Sum.inl
def leI(a b:List Int):Prop:=lexLt itemOrd (ixs b) (ixs a)=false
abbrev eD:Nat->Bool:=fun _=>false
theorem lZ:∀{ks:List Int}{us:List Value}(i:Nat),Vals (ks.map V.int) us->tupItems eD i us=some (ixs ks)
 |[],us,i,r=>by rw[List.map_nil]at r;cases r;rfl
 |k::ks,us,i,r=>by
  rw[List.map_cons]at r;cases r with
  |cons h t=>
   obtain⟨tk,rfl⟩:=h;show(if eD i=true then none else(tupItems eD (i+1) _).map (Sum.inl k::·))=_
   rw[if_neg (show¬eD i=true from Bool.false_ne_true),lZ (i+1) t];rfl
section
variable {X:Cx}{pins:List (Addr×Obj)}{σ:L2.St}{H:Hp}{s:Shared}
theorem LP(I:Inv X pins σ H s){b:Addr}{ks:List Int}(h:H b=some (.tup (ks.map V.int))):G.tupKeyC s.heap eD (.ref b)=some (ixs ks):=by
 obtain⟨its,rv,⟨o,ho,hc,n,hd⟩,_⟩:=I.tuple (SqT.of (K:=X.K) h);have e1:G.isTupObj s.heap (.ref b)=true:=by
  show(match s.heap.get? b with|some o=>(match o.cls with| .type n=>n== "tuple" |_=>false)|none=>false)=true
  rw[ho];show(match o.cls with| .type n=>n== "tuple" |_=>false)=true
  rw[hc];rfl
 have e2:tupKey s.heap eD (.ref b)=some (ixs ks):=by
  show(match s.heap.get? b with|some o=>(match o.data with| .seq xs _=>tupItems eD 0 xs.toList|_=>none)|none=>none)=_
  rw[ho];show(match o.data with| .seq xs _=>tupItems eD 0 xs.toList|_=>none)=_
  rw[hd];exact lZ 0 rv
 unfold G.tupKeyC;rw[if_pos e1,e2]
theorem KG(I:Inv X pins σ H s){b:Addr}{ks:List Int}(h:H b=some (.tup (ks.map V.int)))(hne:ks≠[]):∃f,TupOf s.heap eD (.ref b) f:=by
 obtain⟨its,rv,⟨o,ho,hc,n,hd⟩,_⟩:=I.tuple (SqT.of (K:=X.K) h);cases ks with
 |nil=>exact absurd rfl hne
 |cons k ks=>
  rw[List.map_cons]at rv;cases rv with
  |cons r t=>obtain⟨tk,rfl⟩:=r;exact⟨.int k tk,b,o,_,n,rfl,ho,hc,hd,rfl,fun _=>⟨k,tk,rfl⟩,fun z=>nomatch z⟩
theorem BW(I:Inv X pins σ H s){kf:Addr->List Int}:∀{bs as:List Addr},Paired (fun b a=>H b=some (.tup ((kf a).map V.int))) bs as->(∀a∈as,kf a≠[])->∃fs,TupsOf s.heap eD (bs.map Value.ref) fs/\fs.length=bs.length
 |_,_,.nil,_=>⟨[],.nil,rfl⟩
 |_,_,.cons h t,hne=>by
  obtain⟨fs,h1,h2⟩:=BW I t fun a ha=>hne a (List.mem_cons_of_mem _ ha)
  obtain⟨f,hf⟩:=KG I h (hne _ List.mem_cons_self);exact⟨f::fs,.cons hf h1,by rw[List.length_cons,List.length_cons,h2]⟩
end
def rr(p:Addr×Addr):Keyed:=(.ref p.1,.ref p.2)
def adr:Value->Addr
 | .ref a=>a
 |_=>0
def un(p:Keyed):Addr×Addr:=(adr p.1,adr p.2)
theorem rF:∀(bs as:List Addr),(bs.map Value.ref).zip (as.map Value.ref)=(bs.zip as).map rr
 |[],as=>rfl
 |b::bs,[]=>rfl
 |b::bs,a::as=>by
  show(Value.ref b,Value.ref a)::(bs.map Value.ref).zip (as.map Value.ref)=rr (b,a)::(bs.zip as).map rr
  rw[rF bs as];rfl
theorem uW{α β:Type}{R:α->β->Prop}:∀{l:List α}{m:List β},Paired R l m->∀p∈l.zip m,R p.1 p.2
 |_,_,.nil,p,h=>by cases h
 |_,_,.cons r t,p,h=>by
  rcases List.mem_cons.mp h with rfl|h
  ·exact r
  ·exact uW t p h
theorem BV{α β:Type}:∀{l:List α}{m:List β},l.length=m.length->(l.zip m).map (·.2)=m
 |[],[],_=>rfl
 |a::l,b::m,h=>by
  show b::(l.zip m).map (·.2)=b::m
  rw[BV (by simpa using h)]
theorem FV{h:Heap}{kf:Addr->List Int}{bs as:List Addr}{xs:Array Keyed}(hl:bs.length=as.length)(hk:∀p∈bs.zip as,G.tupKeyC h eD (.ref p.1)=some (ixs (kf p.2)))
  (hp:xs.Perm ((bs.map Value.ref).toArray.zip (as.map Value.ref).toArray)) (hs:SortedToK (G.tupKindC h eD) xs xs.size):
  ∃out:List Addr,(xs.map (·.2)).toList=out.map Value.ref/\out.Perm as/\out.Pairwise fun a b=>leI (kf a) (kf b):=by
 have hp2:xs.toList.Perm ((bs.zip as).map rr):=by have:=Array.perm_iff_toList_perm.mp hp;rw[ksk_zip,List.toList_toArray,rF]at this;exact this
 have e0:xs.toList=(xs.toList.map un).map rr:=by
  rw[List.map_map]
  conv=>lhs;rw[<- List.map_id xs.toList]
  apply List.map_congr_left;intro p hpm;obtain⟨q,_,rfl⟩:=List.mem_map.mp (hp2.mem_iff.mp hpm);rfl
 have hp3:(xs.toList.map un).Perm (bs.zip as):=by
  have:=hp2.map un;rw[List.map_map]at this;have e:(bs.zip as).map (un∘rr)=bs.zip as:=by
   conv=>rhs;rw[<- List.map_id (bs.zip as)]
   rfl
  rw[e]at this;exact this
 refine⟨(xs.toList.map un).map (·.2),?_,?_,?_⟩
 ·rw[Array.toList_map]
  conv=>lhs;rw[e0]
  rw[List.map_map,List.map_map,List.map_map,List.map_map];rfl
 ·have:=hp3.map (·.2);rw[BV hl]at this;exact this
 ·rw[List.pairwise_map,List.pairwise_iff_getElem];intro i j hi hj hij;have hi':i<xs.size:=by simpa using hi
  have hj':j<xs.size:=by simpa using hj
  have q:=hs i j (Nat.le_of_lt hij) hj';have kk:∀(n:Nat)(hn:n<xs.size)(hn2:n<(xs.toList.map un).length),KK (G.tupKindC h eD) xs n=ixs (kf ((xs.toList.map un)[n].2)):=by
   intro n hn hn2;have hm:(xs.toList.map un)[n]∈bs.zip as:=hp3.mem_iff.mp (List.getElem_mem hn2);have hk2:=hk _ hm;have ex:xs[n]=rr ((xs.toList.map un)[n]):=by
    have h1:xs.toList[n]'(by simpa using hn)=rr ((xs.toList.map un)[n]):=by
     have:xs.toList[n]? =((xs.toList.map un).map rr)[n]? :=by rw[<- e0]
     rw[List.getElem?_eq_getElem (by simpa using hn),List.getElem?_map,List.getElem?_eq_getElem hn2]at this;exact Option.some.inj this
    rw[<- h1];simp
   show(match xs[n]? with|some p=>((G.tupKindC h eD).keyOf p.1).getD (G.tupKindC h eD).dflt|none=>(G.tupKindC h eD).dflt)=_
   rw[Array.getElem?_eq_getElem hn,ex];show(G.tupKeyC h eD (.ref _)).getD []=_
   rw[hk2];rfl
  rw[kk i hi' hi,kk j hj' hj]at q;exact q
section
variable {X:Cx}{pins:List (Addr×Obj)}{σ:L2.St}{H:Hp}{s:Shared}{k:Nat}{f:Addr}{fd:FuncData}{par:Str}{sp:Sp}
theorem KZ{Q:VK}{us:List Value}{vs:List V}(F:bK X.prog X.w X.K X.mg X.base CX0 k f fd [par] sp)(hr:cQ k X.A.in1.in1)(hb:Binds X.K fd [par] [])(I:Inv X pins σ H s)(r:Vals vs us)(h:sp vs H Q E0):
  wpAny (model X.prog X.w) X.A.in1.in1 (call (.ref f) us) (EP X pins σ Q) (fun _ _=>False) s:=by
 have hl:(us++[]).length=[par].length:=by rw[List.append_nil,<- r.length];exact F.len _ _ _ _ h
 refine wpAny_call (codeAny_mono (F.run X.A.in1.in1 X.stack s H ⟨us,[]⟩ (us++[]) vs Q E0 hr I.HL.in1.in1 (hb s us I.kIn hl) (by rw[List.append_nil];exact r) h) fun o s' hq=>?_);cases o with
 |error e=>exact hq.elim
 |ok fl=>
  cases fl with
  |ret u=>exact I.after hq
  |next=>exact hq.elim
  |brk=>exact hq.elim
  |cont=>exact hq.elim
theorem FL{L kS:Addr}{od:Obj}{e1:Nat}{ks:List V}{out:List Addr}{st:SortSt}{P:PySem.Fin->Shared->Prop}(I:Inv X pins σ H s)(hL:H L=some (.frz od (.lst [])))(hn:∀o' u',X.H_0 L≠some (.frz o' u'))(ho:od=seqObj "list" #[] e1)
  (hK:H kS=some (.lst ks)) (hne:kS≠L) (eo:((arrOf st).map (·.2)).toList=out.map Value.ref) (hz:out.length<=sizeLine) (hf:failedOf st=none)
  (h:∀s',Inv X pins σ (upd (upd (upd H kS (.lst [])) L (.lst [])) L (.lst (out.map V.ref))) s'->P (.done (.ret .none)) s'):wpAny (model X.prog X.w) X.A.in1.in1 (ksk_tail L false e1 (.ref kS) st) P X.xe s:=by
 obtain⟨zk,itk,nk,rk,lk,ek⟩:=I.yK hK;have I1:=I.DZ (t':=s.toks) (its':=[]) (f:=fun _=>#[]) hK ek rfl .nil (Nat.zero_le _);have hL1:(upd H kS (.lst [])) L=some (.frz od (.lst [])):=by rw[aA hne.symm];exact hL
 have eL:(s.heap.update kS (Obj.mapSeq fun _=>#[])).get? L=some (seqObj "list" #[] e1):=by rw[<- ho];exact(I1.hok L _ hL1).1
 have I2:=I1.unlock hL1 hn;have eo2:(arrOf st).map (·.2)=(out.map Value.ref).toArray:=by rw[<- eo,Array.toArray_toList]
 have rv:∀l:List Addr,Vals (l.map V.ref) (l.map Value.ref):=fun l=>by
  induction l with
  |nil=>exact .nil
  |cons a l ih=>exact .cons rfl ih
 have I3:=I2.DZ (t':=s.toks) (its:=[]) (its':=out.map Value.ref) (f:=fun _=>if false=true then((arrOf st).map (·.2)).reverse else(arrOf st).map (·.2)) a7 eL (by rw[if_neg Bool.false_ne_true];exact eo2) (rv out) (by rw[List.length_map];exact hz);unfold ksk_tail;dsimp only;refine wpAny_bind (listUpdate_at ek rfl ?_ (by rw[List.size_toArray,<- lk];exact zk) (Nat.zero_le _));refine wpAny_bind (wpAny_letGo (wpAny_bind (seqEpoch_at eL rfl ?_)));refine wpAny_bind (listUpdate_at eL rfl ?_ (Nat.zero_le _) (by rw[if_neg Bool.false_ne_true,eo2,List.size_toArray,List.length_map];omega));rw[hf];simp only[bne_self_eq_false,Bool.false_eq_true,if_false];exact wpAny_pure (h _ I3)
end
end L3
namespace L3
open PySem PySem.Spec PyProof.Rows L2
section
variable {X:Cx}{pins:List (Addr×Obj)}{σ:L2.St}{H:Hp}{s:Shared}{k:Nat}{f:Addr}{fd:FuncData}{par:Str}{sp:Sp}{kf:Addr->List Int}
theorem uG:∀l:List Addr,Vals (l.map V.ref) (l.map Value.ref)
 |[]=>.nil
 |_::l=>.cons rfl (uG l)
theorem JT{L kS:Addr}{od:Obj}{e1:Nat}{bs as:List Addr}{P:PySem.Fin->Shared->Prop}(I:Inv X pins σ H s)(hL:H L=some (.frz od (.lst [])))(hn:∀o' u',X.H_0 L≠some (.frz o' u'))(ho:od=seqObj "list" #[] e1)
  (hK:H kS=some (.lst (bs.map V.ref))) (hne:kS≠L) (hp:Paired (fun b a=>H b=some (.tup ((kf a).map V.int))) bs as) (hk:∀a∈as,kf a≠[]) (hz:as.length<=sizeLine)
  (h:∀(out:List Addr)(s':Shared),out.Perm as->(out.Pairwise fun a b=>leI (kf a) (kf b))->Inv X pins σ (upd (upd (upd H kS (.lst [])) L (.lst [])) L (.lst (out.map V.ref))) s'->P (.done (.ret .none)) s'):
  wpAny (model X.prog X.w) X.A.in1.in1 (ksk_end L false (as.map Value.ref).toArray e1 (.ref kS) (bs.map Value.ref).toArray) P X.xe s:=by
 have hl:=pairs_len hp;have hkey:∀p∈bs.zip as,G.tupKeyC s.heap eD (.ref p.1)=some (ixs (kf p.2)):=fun p hm=>LP I (uW hp p hm)
 have zs:((bs.map Value.ref).toArray.zip (as.map Value.ref).toArray).size=as.length:=by rw[Array.size_zip,List.size_toArray,List.size_toArray,List.length_map,List.length_map,hl,Nat.min_self]
 have fin:∀st:SortSt,(arrOf st).Perm ((bs.map Value.ref).toArray.zip (as.map Value.ref).toArray)->SortedToK (G.tupKindC s.heap eD) (arrOf st) (arrOf st).size->failedOf st=none->wpAny (model X.prog X.w) X.A.in1.in1 (ksk_tail L false e1 (.ref kS) st) P X.xe s:=by intro st h1 h2 h3;obtain⟨out,e,pm,pw⟩:=FV hl hkey h1 h2;exact FL I hL hn ho hK hne e (by rw[pm.length_eq];exact hz) h3 fun s' I'=>h out s' pm pw I'
 unfold ksk_end;dsimp only;simp only[Bool.false_eq_true,if_false];by_cases h2:(as.map Value.ref).toArray.size<2
 ·rw[if_pos h2,if_pos h2];refine wpAny_bind (wpAny_pure ?_);rw[StateT.run_pure];refine wpAny_bind (wpAny_pure (fin (SortSt.mk' general' ((bs.map Value.ref).toArray.zip (as.map Value.ref).toArray) #[] 7 none) (Array.Perm.refl _) ?_ rfl));intro i j hij hj;have hj2:j<((bs.map Value.ref).toArray.zip (as.map Value.ref).toArray).size:=hj;rw[zs]at hj2;rw[List.size_toArray,List.length_map]at h2;have e:i=j:=by omega
  rw[e];exact KeyOrd.kle_refl _
 ·rw[if_neg h2,if_neg h2];rw[List.size_toArray,List.length_map]at h2;obtain⟨fs,ht,hfl⟩:=BW I hp hk;refine wpAny_bind (tup_kind (by omega) ht ?_);refine wpAny_bind (wpAny_mono (G.wpS_sortRunsSt (κ:=G.tupKindC s.heap eD) (kd:=tuples' true) (a₀:=(bs.map Value.ref).toArray.zip (as.map Value.ref).toArray) (st:=SortSt.mk' (tuples' true) ((bs.map Value.ref).toArray.zip (as.map Value.ref).toArray) #[] 7 none)
   (Q:=fun _ st=>(arrOf st).Perm ((bs.map Value.ref).toArray.zip (as.map Value.ref).toArray)/\SortedToK (G.tupKindC s.heap eD) (arrOf st) (arrOf st).size/\failedOf st=none)
   (G.tupC_ltAt true (G.KeepsTups.refl _)) (fun p hm=>?_) ⟨Array.Perm.refl _,rfl,rfl⟩ rfl (Stable.refl _) (by rw[zs];omega) fun st a1 a2 a3 _=>⟨a1,by rw[a1.size_eq];exact a3,a2⟩) ?_ fun _ _ e=>e)
  ·rw[ksk_zip,List.toList_toArray,rF]at hm;obtain⟨q,hq,rfl⟩:=List.mem_map.mp hm;exact⟨_,hkey q hq⟩
  ·rintro⟨⟨⟩,st⟩ s' ⟨rfl,h1,h3,h4⟩;exact fin st h1 h3 h4
theorem FW{L kS:Addr}{od:Obj}{e1:Nat}{as:List Addr}{P:PySem.Fin->Shared->Prop}{H0:Hp}(F:bK X.prog X.w X.K X.mg X.base CX0 k f fd [par] sp)(hr:cQ k X.A.in1.in1)(hb:Binds X.K fd [par] [])(I:Inv X pins σ H s)
  (hL:H0 L=some (.frz od (.lst []))) (hn:∀o' u',X.H_0 L≠some (.frz o' u')) (ho:od=seqObj "list" #[] e1) (hs0:a9 H0 H) (hK0:H0 kS=none) (hK:H kS=some (.lst [])) (hk:∀a∈as,kf a≠[]) (hz:as.length<=sizeLine)
  (turn:∀a∈as,∀H2,a9 H0 H2->sp [.ref a] H2 (fun r H3=>a9 H2 H3/\∃b,r=.ref b/\H3 b=some (.tup ((kf a).map V.int))) E0)
  (h:∀(out:List Addr)(H':Hp)(s':Shared),out.Perm as->(out.Pairwise fun a b=>leI (kf a) (kf b))->(∀b u,b≠L->H0 b=some u->H' b=some u)->H' L=some (.lst (out.map V.ref))->Inv X pins σ H' s'->P (.done (.ret .none)) s'):
  wpAny (model X.prog X.w) X.A.in1.in1 (ksk_rest L (.ref f) false (as.map Value.ref).toArray e1 (.ref kS)) P X.xe s:=by
 have hne:kS≠L:=(aH hL hK0).symm;unfold ksk_rest;refine wpAny_bind (wpAny_rule ?_);rw[List.forIn_toArray];refine wpAny_bind (ksk_fold (fun i s'=>∃(H':Hp)(bs:List Addr),Inv X pins σ H' s'/\a9 H0 H'/\H' kS=some (.lst (bs.map V.ref))/\Paired (fun b a=>H' b=some (.tup ((kf a).map V.int))) bs (as.take i)) (as.map Value.ref) 0 s ⟨H,[],I,hs0,hK,.nil⟩ ?_ ?_)
 ·rintro j x s' hx ⟨H',bs,I',s2,h2,pr⟩;rw[Nat.zero_add]at pr ⊢;rw[List.getElem?_map]at hx;obtain⟨a,ha,rfl⟩:∃a,as[j]? =some a/\x=.ref a:=by
   cases e:as[j]? with
   |none=>rw[e]at hx;cases hx
   |some a=>rw[e]at hx;exact⟨a,rfl,(Option.some.inj hx).symm⟩
  have hj:j<as.length:=(List.getElem?_eq_some_iff.mp ha).1;refine wpAny_bind (wpAny_attempt (wpAny_mono (KZ F hr hb I' (vs:=[.ref a]) (.cons rfl .nil) (turn a (List.mem_of_getElem? ha) H' s2)) (fun v s3 q=>?_) fun _ _ z=>z.elim));obtain⟨v',H3,I3,rel,s3',b,rfl,hb3⟩:=q;cases rel;have h3:=s3' _ _ h2;obtain⟨zk,itk,nk,rk,lk,ek⟩:=I3.yK h3;have lb:=pairs_len pr;rw[List.length_take]at lb;rw[List.length_map]at lk;have eik:=j6 rk;dsimp only;refine wpAny_bind (listUpdate_at ek rfl ?_ (by rw[List.size_toArray];omega) (by rw[Array.size_push,List.size_toArray];omega));have I4:=I3.DZ (t':=s3.toks) (its:=itk) (its':=itk++[.ref b]) (f:=(·.push (.ref b))) (ys:=(bs++[b]).map V.ref) h3 ek (by simp) (by rw[List.map_append];exact rk.append (.cons rfl .nil)) (by rw[List.length_map,List.length_append];simp;omega);refine wpAny_pure ⟨rfl,_,bs++[b],I4,a9.put (a9.trans s2 s3') hK0,a7,?_⟩;have keepT:∀(b':Addr)(xs:List V),H3 b'=some (.tup xs)->(upd H3 kS (.lst ((bs++[b]).map V.ref))) b'=some (.tup xs):=fun b' xs e=>by rw[aA (fC e h3 (by intro z;cases z))];exact e
  rw[RM.take_snoc ha];exact bA (R:=fun b' a'=>(upd H3 kS (.lst ((bs++[b]).map V.ref))) b'=some (.tup ((kf a').map V.int))) (keepT _ _ hb3) (aI (fun b' a' e=>keepT _ _ (s3' _ _ e)) pr)
 ·rintro s' ⟨H',bs,I',s2,h2,pr⟩;rw[Nat.zero_add,List.length_map,List.take_of_length_le (Nat.le_refl _)]at pr;obtain⟨zk,itk,nk,rk,lk,ek⟩:=I'.yK h2;have eik:=j6 rk;subst eik;refine wpAny_bind (listItems_at ek rfl ?_);refine JT I' (s2 _ _ hL) hn ho h2 hne pr hk hz fun out s3 pm pw I3=>h out _ s3 pm pw (fun b u nb e=>?_) a7 I3
  rw[aA nb,aA nb,aA (aH e hK0)];exact s2 _ _ e
theorem FR{L:Addr}{as:List Addr}{P:PySem.Fin->Shared->Prop}(F:bK X.prog X.w X.K X.mg X.base CX0 k f fd [par] sp)(hr:cQ k X.A.in1.in1)(hb:Binds X.K fd [par] [])(I:Inv X pins σ H s)
  (hL:H L=some (.lst (as.map V.ref))) (hk:∀a∈as,kf a≠[])
  (turn:∀a∈as,∀H2,But L H H2->sp [.ref a] H2 (fun r H3=>a9 H2 H3/\∃b,r=.ref b/\H3 b=some (.tup ((kf a).map V.int))) E0)
  (h:∀(out:List Addr)(H':Hp)(s':Shared),out.Perm as->(out.Pairwise fun a b=>leI (kf a) (kf b))->But L H H'->H' L=some (.lst (out.map V.ref))->Inv X pins σ H' s'->P (.done (.ret .none)) s'):
  wpAny (model X.prog X.w) X.A.in1.in1 (ksk_tree L (.ref f) false) P X.xe s:=by
 obtain⟨z,its,n,r,hl,e⟩:=I.yK hL;have ei:=j6 r;subst ei;rw[List.length_map]at z;have I1:=I.DZ (t':=s.toks) (its':=[]) (f:=fun _=>#[]) hL e rfl .nil (Nat.zero_le _);obtain⟨e1,he1⟩:∃e1,(s.heap.update L (Obj.mapSeq fun _=>#[])).get? L=some (seqObj "list" #[] e1):=⟨_,get?_update_seq e fun _=>#[]⟩
 have hn:=I1.v9 a7 trivial;obtain⟨od,I2⟩:=I1.lock a7 trivial;have eod:od=seqObj "list" #[] e1:=by have q:=(I2.hok L _ a7).1;rw[he1]at q;exact(Option.some.inj q).symm
 have b2:But L H (upd (upd H L (.lst [])) L (.frz od (.lst []))):=((But.refl L H).here).here;have hL2:(upd (upd H L (.lst [])) L (.frz od (.lst []))) L=some (.frz od (.lst [])):=a7;generalize (upd (upd H L (.lst [])) L (.frz od (.lst [])))=H2 at I2 b2 hL2;unfold ksk_tree;refine wpAny_bind (listItems_at e rfl ?_);refine wpAny_bind (listUpdate_at e rfl ?_ (by rw[List.size_toArray,List.length_map];exact z) (Nat.zero_le _));refine wpAny_bind (seqEpoch_at he1 rfl ?_);refine wpAny_bind (wpAny_newTuple ?_ (by rw[List.toList_toArray,List.length_map];exact z));have I3:Inv X pins σ H2 {s with heap:=(s.heap.update L (Obj.mapSeq fun _=>#[])).push {cls:=.type "tuple",data:=.seq (as.map Value.ref).toArray.toList.toArray}}:=I2.kept (t':=s.toks) fun b u q=>Heap.get?_push_of_some _ q
 refine wpAny_bind (wpAny_newList ?_ (Nat.zero_le _));refine wpAny_holding ?_;have fr:=I3.fresh;have I4:=I3.LH (t':=s.toks) (ys:=[]) (its:=[]) .nil (Nat.zero_le _);refine FW F hr hb I4 hL2 hn eod (a9.upd fr) fr a7 hk z (fun a ha H3 s3=>turn a ha H3 (b2.trans (a9.but s3))) fun out H' s' pm pw bt hL' I'=>h out H' s' pm pw (b2.trans bt) hL' I'
end
end L3
namespace L3
open PySem PySem.Spec PyProof.Rows L2
section
variable {prog:Program}{w:World}{A:Around}{E:Value->Shared->Prop}{s:Shared}{d:Addr}{o:Obj}{es:Array DictEntry}{ep:Nat}
theorem HU{Q:List Value->Shared->Prop}(hs:(d==sysModules)=false)(hh:A.handled=none)(e:g7 s.heap d o es ep)(hz:es.size<=sizeLine)
  (h:∀(vs:List Value) h' tk,vs.length=es.size->(∀(j:Nat)(v:Value),vs[j]? =some v->∃en,es[j]? =some en/\v=en.key)->(∀b q,s.heap.get? b=some q->h'.get? b=some q)->Q vs {s with heap:=h',toks:=tk}):wpAny (model prog w) A (collect (.ref d)) Q E s:=by
 have hd:d<s.heap.objs.size:=Heap.lt_size e.at_
 delta collect
 refine wpAny_bind (wpAny_runValue (codeAny_builtin entry_proto_collect' ?_));show wpAny _ _ (newList []>>=fun l=>again (.builtin "list.__iadd__" ⟨[l,.ref d],[]⟩)) _ _ s
 refine wpAny_bind (wpAny_newList (wpAny_pure ⟨Code.quiet_builtin _ (by decide+kernel),codeAny_builtin entry_list_iadd' ?_⟩) (Nat.zero_le _));have e2:g7 (s.heap.push {cls:=.type "list",data:=.seq #[]}) d o es ep:=e.to fun q z=>Heap.get?_push_of_some _ z
 have hS:(s.heap.push {cls:=.type "list",data:=.seq #[]}).get? s.heap.objs.size=some {cls:=.type "list",data:=.seq #[] 0}:=Heap.get?_push_size _ rfl;rw[Around.under_plainId (show plainId "list.__iadd__" =true by decide+kernel) _];show wpAny _ _ (Builtin.List.listExtendWith (.ref s.heap.objs.size) (.ref d) (.ref s.heap.objs.size)) _ _ {s with heap:=s.heap.push {cls:=.type "list",data:=.seq #[]}}
 refine W.kdl_extend (R:=fun r s'=>match r with| .ok (.ret v)=>wpAny (model prog w) A (match v with| .ref a=>(do let o<- load a;match o.data with| .seq xs _=>pure xs.toList|_=>unsupported "internal:collect")|_=>unsupported "internal:collect") Q E s'| .ok _=>False| .error e=>E e s') (s:={s with heap:=s.heap.push {cls:=.type "list",data:=.seq #[]}}) (MQ hs e.ex e.dat) hh e2 s.heap.objs.size (Nat.ne_of_gt hd) (Nat.ne_of_gt hd) (.ref s.heap.objs.size) 0 hS (fun h' tk acc c kp hl it=>?_) hz;show wpAny (model prog w) A (load s.heap.objs.size>>= _) Q E _
 refine wpAny_bind (wpAny_load hl ?_);refine wpAny_pure (h acc.toList h' tk (by rw[Array.length_toList];exact it.1) (fun j v z=>it.2 j v (by rw[<- Array.getElem?_toList];exact z)) fun b q z=>?_);exact kp b q (Nat.ne_of_lt (Heap.lt_size z)) (Heap.get?_push_of_some _ z)
end
section
variable {X:Cx}{pins:List (Addr×Obj)}{σ:L2.St}{H:Hp}{s:Shared}{k:Nat}{f:Addr}{fd:FuncData}{par:Str}{sp:Sp}{kf:Addr->List Int}
theorem rQ{l:Addr}{as:List Addr}{Q:VK}(F:bK X.prog X.w X.K X.mg X.base CX0 k f fd [par] sp)(hr:cQ k X.A.in1.in1)(hb:Binds X.K fd [par] [])(I:Inv X pins σ H s)(hz:as.length<=sizeLine)
  (col:∀Q':List Value->Shared->Prop,(∀h' tk,(∀b q,s.heap.get? b=some q->h'.get? b=some q)->Q' (as.map Value.ref) {s with heap:=h',toks:=tk})->wpAny (model X.prog X.w) X.A.in1 (collect (.ref l)) Q' X.xe s)
  (hk:∀a∈as,kf a≠[]) (turn:∀a∈as,∀H2,a9 H H2->sp [.ref a] H2 (fun r H3=>a9 H2 H3/\∃b,r=.ref b/\H3 b=some (.tup ((kf a).map V.int))) E0)
  (h:∀(L:Addr)(out:List Addr)(H':Hp),H L=none->out.Perm as->(out.Pairwise fun a b=>leI (kf a) (kf b))->a9 H H'->H' L=some (.lst (out.map V.ref))->Q (.ref L) H'):
  wpAny (model X.prog X.w) X.A (call (.builtin "sorted") [.ref l] [(Str.ofString "key",.ref f)]) (EP X pins σ Q) X.xe s:=by
 refine call_function_entry_kw kind_sorted plain_sorted entry_sorted (ksk_s1 _ _) ?_
 delta Builtin.«sorted»
 refine wpAny_bind (m:=checkCount "sorted" 1 1 _) (wpAny_pure (wpAny_bind (col _ fun h1 tk1 k1=>?_)));refine wpAny_bind (wpAny_newList ?_ (by rw[List.length_map];exact hz));have I1:Inv X pins σ H {s with heap:=h1,toks:=tk1}:=I.kept k1;have fr:=I1.fresh;have I2:=I1.LH (t':=tk1) (uG as) (by rw[List.length_map];exact hz);have hty:({s with heap:=h1.push {cls:=.type "list",data:=.seq (as.map Value.ref).toArray},toks:=tk1}:Shared).TypeIs (.ref h1.objs.size) "list" :=⟨_,Heap.get?_push_size _ rfl,rfl⟩;refine wpAny_bind (wpAny_holding (wpAny_call_entry_kw slot_list_sort hty entry_list_sort ?_ (ksk_l1 _ _)));show wpAny (model X.prog X.w) X.A.in1.in1 (Builtin.«list.sort» ⟨[.ref h1.objs.size],[(Str.ofString "key",.ref f)]⟩) _ _ _
 rw[ksk_t1];refine FR F hr hb I2 a7 hk (fun a ha H2 b2=>turn a ha H2 (But.same b2 (a9.upd fr) fr)) fun out H' s' pm pw bt hL I'=>?_
 exact⟨_,rfl,wpAny_pure ⟨_,rfl,.ref h1.objs.size,H',I',rfl,h _ out H' fr pm pw (But.same bt (a9.upd fr) fr) hL⟩⟩
end
noncomputable def MH(K:W.Frag)(sp:Sp)(t:TA):TE:=fun σ H Q=>t σ H fun vs H1=>∃(l:Addr)(as:List Addr)(kf:Addr->List Int),vs=[.ref l]/\SqL K H1 l (as.map V.ref)/\(∀a∈as,kf a≠[])/\
 (∀a∈as,∀H2,a9 H1 H2->sp [.ref a] H2 (fun r H3=>a9 H2 H3/\∃b,r=.ref b/\H3 b=some (.tup ((kf a).map V.int))) E0)/\
 ∀(L:Addr)(out:List Addr)(H':Hp),H1 L=none->out.Perm as->(out.Pairwise fun a b=>leI (kf a) (kf b))->a9 H1 H'->H' L=some (.lst (out.map V.ref))->Q (.ref L) H'
noncomputable def KJ(sp:Sp)(t:TA):TE:=fun σ H Q=>t σ H fun vs H1=>∃(d:Addr)(kvs:List (List Key×V)),vs=[.ref d]/\Rd H1 d (.dT kvs)/\∀as:List Addr,lD H1 (as.map V.ref) kvs->∃kf:Addr->List Int,(∀a∈as,kf a≠[])/\
 (∀a∈as,∀H2,a9 H1 H2->sp [.ref a] H2 (fun r H3=>a9 H2 H3/\∃b,r=.ref b/\H3 b=some (.tup ((kf a).map V.int))) E0)/\
 ∀(L:Addr)(out:List Addr)(H':Hp),H1 L=none->out.Perm as->(out.Pairwise fun a b=>leI (kf a) (kf b))->a9 H1 H'->H' L=some (.lst (out.map V.ref))->Q (.ref L) H'
theorem vD{H:Hp}:∀{qs:List V}{kvs:List (List Key×V)},lD H qs kvs->∃as:List Addr,qs=as.map V.ref
 |_,_,.nil=>⟨[],rfl⟩
 |_,_,.cons ⟨q,e,_⟩ t=>by obtain⟨as,rfl⟩:=vD t;exact⟨q::as,by rw[e];rfl⟩
section
variable {X:Cx}{k:Nat}{y par:Str}{sp:Sp}{e:Expr}{ta:TA}{p p2 p3 pos:Pos}
theorem uT{Qs:VK->List V->Hp->Prop}(hg:Gl X "sorted")(hm:X.mg "sorted" =none)(hy:Gl X y){f:Addr}(hmf:X.mg y=some (.ref f))(ha:PA X [e] ta)(hdy:(y==("__debug__" : Str))=false)
  (run:∀(pins:List (Addr×Obj))(s:Shared)(σ:L2.St)(H:Hp)(vs:List V)(us:List Value)(Q:VK),Inv X pins σ H s->Vals vs us->Qs Q vs H->wpAny (model X.prog X.w) X.A (call (.builtin "sorted") us [(Str.ofString "key",.ref f)]) (EP X pins σ Q) X.xe s)
  (h1:backTo pos (starEach [e] X.env)=(false,eval e X.env)::backTo pos (starEach [] X.env)) (h2:(backTo pos (starEach [e] X.env)).any (·.1)=false):
  PE X (.Call (.Name "sorted" p) [e] [⟨some "key",.Name y p2,p3⟩] pos) (fun σ H Q=>ta σ H (Qs Q)):=by
 intro pins s σ H Q I h;refine wpAny_Call_Name_kw (mE I hg hm (show bootBuiltins "sorted" =some (.builtin "sorted") by rfl) ?_);refine callWith_kw (thn (ha pos pins s σ H (Qs Q) I h) fun us s1 ⟨vs,H1,I1,r,q⟩=>?_) h1 h2;refine kws_cons (jC I1 hy hmf (kws_nil ?_) hdy);exact run pins _ σ H1 vs us Q I1 r q
theorem G4(D:aQ X.prog X.w X.K X.mg X.base CX0 k y [par] sp)(hr:cQ (k+2) X.A)(hg:Gl X "sorted")(hm:X.mg "sorted" =none)(hy:Gl X y)(ha:PA X [e] ta)(hdy:(y==("__debug__" : Str))=false:=by decide)
  (h1:backTo pos (starEach [e] X.env)=(false,eval e X.env)::backTo pos (starEach [] X.env):=by rfl) (h2:(backTo pos (starEach [e] X.env)).any (·.1)=false:=by rfl):
  PE X (.Call (.Name "sorted" p) [e] [⟨some "key",.Name y p2,p3⟩] pos) (MH X.K sp ta):=by
 obtain⟨f,fd,F,hmf,hkf,hb⟩:=D.ex;refine uT (Qs:=fun Q vs H1=>∃(l:Addr)(as:List Addr)(kf:Addr->List Int),vs=[.ref l]/\SqL X.K H1 l (as.map V.ref)/\(∀a∈as,kf a≠[])/\(∀a∈as,∀H2,a9 H1 H2->sp [.ref a] H2 (fun r H3=>a9 H2 H3/\∃b,r=.ref b/\H3 b=some (.tup ((kf a).map V.int))) E0)/\
  ∀(L:Addr)(out:List Addr)(H':Hp),H1 L=none->out.Perm as->(out.Pairwise fun a b=>leI (kf a) (kf b))->a9 H1 H'->H' L=some (.lst (out.map V.ref))->Q (.ref L) H') hg hm hy hmf ha hdy (fun pins s σ H vs us Q I r q=>?_) h1 h2
 obtain⟨l,as,kf,rfl,hs,hk,turn,fin⟩:=q;obtain⟨u,rfl,ru⟩:=vals1 r;cases ru;obtain⟨its,rv,pl,hz⟩:=I.list hs;have ei:=j6 rv;subst ei;rw[List.length_map]at hz;refine rQ F (hr.in1.in1) hb I hz (fun Q' q=>collect_list pl.isList (q _ s.toks fun b o z=>?_) (by rw[List.length_map];exact hz)) hk turn fin;rw[Heap.get?_update_ne _ _ _ _ (Nat.ne_of_lt (Heap.lt_size z))];exact Heap.get?_push_of_some _ z
theorem G5(hc:X.calm=true)(D:aQ X.prog X.w X.K X.mg X.base CX0 k y [par] sp)(hr:cQ (k+2) X.A)(hg:Gl X "sorted")(hm:X.mg "sorted" =none)(hy:Gl X y)(ha:PA X [e] ta)(hdy:(y==("__debug__" : Str))=false:=by decide)
  (h1:backTo pos (starEach [e] X.env)=(false,eval e X.env)::backTo pos (starEach [] X.env):=by rfl) (h2:(backTo pos (starEach [e] X.env)).any (·.1)=false:=by rfl):
  PE X (.Call (.Name "sorted" p) [e] [⟨some "key",.Name y p2,p3⟩] pos) (KJ sp ta):=by
 obtain⟨f,fd,F,hmf,hkf,hb⟩:=D.ex;refine uT (Qs:=fun Q vs H1=>∃(d:Addr)(kvs:List (List Key×V)),vs=[.ref d]/\Rd H1 d (.dT kvs)/\∀as:List Addr,lD H1 (as.map V.ref) kvs->∃kf:Addr->List Int,(∀a∈as,kf a≠[])/\(∀a∈as,∀H2,a9 H1 H2->sp [.ref a] H2 (fun r H3=>a9 H2 H3/\∃b,r=.ref b/\H3 b=some (.tup ((kf a).map V.int))) E0)/\
  ∀(L:Addr)(out:List Addr)(H':Hp),H1 L=none->out.Perm as->(out.Pairwise fun a b=>leI (kf a) (kf b))->a9 H1 H'->H' L=some (.lst (out.map V.ref))->Q (.ref L) H') hg hm hy hmf ha hdy (fun pins s σ H vs us Q I r q=>?_) h1 h2
 obtain⟨d,kvs,rfl,hd,q⟩:=q;obtain⟨u,rfl,ru⟩:=vals1 r;cases ru;obtain⟨hs,hz,o,es,ep,en,sz,hen⟩:=lR I hd;obtain⟨qs,hqs⟩:∃qs:List V,Vals qs (es.toList.map (·.key))/\lD H qs kvs:=CF (by rw[List.length_map,Array.length_toList,sz]) fun j u hu=>by
  rw[List.getElem?_map,Array.getElem?_toList]at hu;cases e:es[j]? with
  |none=>rw[e]at hu;cases hu
  |some n=>rw[e]at hu;obtain⟨k,v,q,a1,a2,a3,_⟩:=hen j n e;exact⟨k,v,q,a1,by rw[<- a2];exact(Option.some.inj hu).symm,a3⟩
 obtain⟨as,rfl⟩:=vD hqs.2;obtain⟨kf,hk,turn,fin⟩:=q as hqs.2;have ei:=j6 hqs.1;have hla:as.length=es.size:=by have:=congrArg List.length ei;rw[List.length_map,List.length_map,Array.length_toList]at this;exact this.symm
 refine rQ F (hr.in1.in1) hb I (by rw[hla,sz];exact hz) (fun Q' q=>HU hs (I.ok.hd hc) en (by rw[sz];exact hz) fun vs h' tk hl hv kp=>?_) hk turn fin;have ev:vs=as.map Value.ref:=by
  rw[<- ei];apply List.ext_getElem?;intro j;cases e:vs[j]? with
  |none=>have:=List.getElem?_eq_none_iff.mp e;rw[List.getElem?_eq_none_iff.mpr (by rw[List.length_map,Array.length_toList,<- hl];exact this)]
  |some v=>obtain⟨n,hn,rfl⟩:=hv j v e;rw[List.getElem?_map,Array.getElem?_toList,hn];rfl
 rw[ev];exact q h' tk kp
end
end L3
namespace L3
open PySem PySem.Spec PyProof.Rows L2
noncomputable def pairOf(H:Hp)(a:Addr):PI:=match H a with|some (.tup [.int x,.int y])=>(x,y)|_=>(0,0)
def hY(H:Hp)(a:Addr):List Int:=[(pairOf H a).2,(pairOf H a).1]
theorem uX{H:Hp}{a:Addr}{p:PI}(h:H a=some (.tup [.int p.1,.int p.2])):pairOf H a=p:=by unfold pairOf;rw[h]
theorem JA{H:Hp}{a b:Addr}(h:leI (hY H a) (hY H b)):RM.g8 (pairOf H a) (pairOf H b):=by unfold leI hY ixs at h;generalize pairOf H a=p at h ⊢;generalize pairOf H b=q at h ⊢;unfold RM.g8;simp[PyProof.Rows.lexLt,itemLt]at h;omega
theorem sJ{H:Hp}:∀{as:List Addr}{ps:List PI},Paired (T2 H) (as.map V.ref) ps->ps=as.map (pairOf H)
 |[],ps,h=>by cases h;rfl
 |a::as,ps,h=>by
  rw[List.map_cons]at h;cases h with
  |cons t r=>obtain⟨b,e,hb⟩:=t;cases e;rw[List.map_cons,uX hb,<- sJ r]
theorem rZ{H:Hp}:∀{as:List Addr},(∀a∈as,T2 H (.ref a) (pairOf H a))->Paired (T2 H) (as.map V.ref) (as.map (pairOf H))
 |[],_=>.nil
 |a::as,h=>.cons (h a List.mem_cons_self) (rZ fun b hb=>h b (List.mem_cons_of_mem _ hb))
theorem yA{H:Hp}{as:List Addr}{ps:List PI}(h:Paired (T2 H) (as.map V.ref) ps):∀a∈as,T2 H (.ref a) (pairOf H a):=by
 induction as generalizing ps with
 |nil=>intro a ha;cases ha
 |cons b as ih=>
  rw[List.map_cons]at h;cases h with
  |cons t r=>
   intro a ha;rcases List.mem_cons.mp ha with rfl|ha
   ·obtain⟨c,e,hc⟩:=t;cases e;exact⟨a,rfl,by rw[uX hc];exact hc⟩
   ·exact ih r a ha
theorem qA{H:Hp}{as out:List Addr}{ps:List PI}(h:Paired (T2 H) (as.map V.ref) ps)(hp:out.Perm as)(hs:out.Pairwise fun a b=>leI (hY H a) (hY H b)):
  ∃ys,Paired (T2 H) (out.map V.ref) ys/\ys.Perm ps/\ys.Pairwise RM.g8:=by
 have ht:=yA h;refine⟨out.map (pairOf H),rZ fun a ha=>ht a (hp.mem_iff.mp ha),?_,?_⟩
 ·rw[sJ h];exact hp.map _
 ·rw[List.pairwise_map];exact hs.imp fun z=>JA z
end L3
namespace L3
open PySem PySem.Spec PyProof.Rows L2
def dP(p:PI):PyData:=.tuple [.int p.1,.int p.2]
def dW(w:List PI):PyData:=.list (w.map dP)
def dWs(ws:List (List PI)):PyData:=.list (ws.map dW)
theorem W4{K:W.Frag}{H:Hp}{v:V}{p:PI}(h:T2 H v p):Dp K H v (dP p):=by obtain⟨a,rfl,ha⟩:=h;exact .tup (SqT.of ha) (.cons (.int _) (.cons (.int _) .nil))
theorem BJ{K:W.Frag}{H:Hp}{α:Type}{R:V->α->Prop}{f:α->PyData}(hf:∀v a,R v a->Dp K H v (f a)):∀{xs:List V}{ys:List α},Paired R xs ys->tL K H xs (ys.map f)
 |_,_,.nil=>.nil
 |_,_,.cons r t=>.cons (hf _ _ r) (BJ hf t)
theorem W3{K:W.Frag}{H:Hp}{v:V}{w:List PI}(h:LT H v w):Dp K H v (dW w):=by obtain⟨a,xs,rfl,ha,pr⟩:=h;exact .lst (SqL.of ha) (BJ (fun _ _ t=>W4 t) pr)
theorem KA{K:W.Frag}{H:Hp}{v:V}{ws:List (List PI)}(h:LLT H v ws):Dp K H v (dWs ws):=by obtain⟨a,xs,rfl,ha,pr⟩:=h;exact .lst (SqL.of ha) (BJ (fun _ _ t=>W3 t) pr)
theorem mJ{α:Type}[DecidableEq α]{f:α->PyData}(hf:∀a b,PyData.eqv (f a) (f b)=decide (a=b)):∀xs ys:List α,PyData.eqvAll (xs.map f) (ys.map f)=decide (xs=ys)
 |[],[]=>by simp[PyData.eqvAll]
 |[],_::_=>by simp[PyData.eqvAll]
 |_::_,[]=>by simp[PyData.eqvAll]
 |x::xs,y::ys=>by rw[List.map_cons,List.map_cons,PyData.eqvAll,hf,mJ hf xs ys];rw[Bool.eq_iff_iff];simp
theorem R7(a b:PI):PyData.eqv (dP a) (dP b)=decide (a=b):=by unfold dP;simp only[PyData.eqv,PyData.eqvAll,Bool.and_true];rw[Bool.eq_iff_iff];simp[Prod.ext_iff]
theorem R6(a b:List PI):PyData.eqv (dW a) (dW b)=decide (a=b):=by unfold dW;rw[PyData.eqv];exact mJ R7 a b
theorem LY(a b:List (List PI)):PyData.eqv (dWs a) (dWs b)=decide (a=b):=by unfold dWs;rw[PyData.eqv];exact mJ R6 a b
theorem wK{α:Type}{f:α->PyData}(hf:∀a,PyData.canLay0 (f a)=true):∀xs:List α,PyData.canLayAll0 (xs.map f)=true
 |[]=>by simp[PyData.canLayAll0]
 |x::xs=>by rw[List.map_cons,PyData.canLayAll0,hf,wK hf xs];rfl
theorem pQ{α:Type}{f:α->PyData}{n:Nat}(hf:∀a,PyData.depth (f a)<=n):∀xs:List α,PyData.depthAll (xs.map f)<=n
 |[]=>by simp[PyData.depthAll]
 |x::xs=>by rw[List.map_cons,PyData.depthAll];have h1:=hf x;have h2:=pQ hf xs;omega
theorem uJ(ws:List (List PI)):SeqAt.shaped (dWs ws)=true:=by
 have l1:∀p,PyData.canLay0 (dP p)=true:=fun p=>by simp[dP,PyData.canLay0,PyData.canLayAll0]
 have l2:∀w,PyData.canLay0 (dW w)=true:=fun w=>by unfold dW;rw[PyData.canLay0];exact wK l1 w
 have d1:∀p,PyData.depth (dP p)<=1:=fun p=>by simp[dP,PyData.depth,PyData.depthAll]
 have d2:∀w,PyData.depth (dW w)<=2:=fun w=>by unfold dW;rw[PyData.depth];have:=pQ d1 w;omega
 unfold SeqAt.shaped dWs;rw[PyData.canLay0,wK l2 ws,PyData.depth];have:=pQ d2 ws;simp;omega
end L3
namespace L3
open PySem PySem.Spec PySem.Calls PyProof.Rows L2
section
variable {prog:Program}{w:World}{A:Around}{E:Value->Shared->Prop}{s:Shared}{d:Addr}{o:Obj}{es:Array DictEntry}{ep:Nat}
theorem wI(hs:(d==sysModules)=false):MeetsIn prog w (Builtin.«dict.items» ⟨[.ref d],[]⟩) (fun _ R s=>(∃o es ep,g7 s.heap d o es ep)/\R (.ok (.ret (.ref s.heap.objs.size))) {s with heap:=s.heap.push {cls:=.type "dict_items",data:=.fields #[.ref d]}}):=
 .of_wp fun A R s q=>by
  obtain⟨⟨o,es,ep,e⟩,hR⟩:=q
  delta Builtin.«dict.items»
  refine wpAny_bind (show wpAny _ _ (Builtin.Dict.noArgs _ _) _ _ s from ?_)
  delta Builtin.Dict.noArgs
  refine wpAny_bind (wpAny_notOrdered_dict e.ty (show wpAny _ _ (pure d) _ _ s from wpAny_pure (show wpAny _ _ (Builtin.Dict.showsAll d>>=fun _=>_) _ _ s from ?_)))
  delta Builtin.Dict.showsAll
  rw[if_neg (show¬(d==sysModules)=true by rw[hs];exact Bool.false_ne_true)];exact wpAny_bind (wpAny_pure (wpAny_bind (wpAny_newObj_type (wpAny_pure ⟨_,rfl,hR⟩))))
theorem yR{v:Addr}{Q:Value->Shared->Prop}(hv:s.heap.IsItemsView v d)(e:g7 s.heap d o es ep)
  (hQ:Q (.ref s.heap.objs.size) {s with heap:=s.heap.push {cls:=.type "dict_itemiterator",data:=.fields #[.none,.bool false,.ref d,.int 0 0,.int es.size 0,.int ep 0,.none,.none]}}):wpAny (model prog w) A (pyIter (.ref v)) Q E s:=by
 obtain⟨vo,v1,v2,v3⟩:=id hv;refine wpAny_pyIter_slot hv.typeIs F.slot_dict_items_iter (wpAny_call_entry F.slot_dict_items_iter hv.typeIs F.entry_dict_items_iter (show wpAny _ _ (Builtin.«dict_items.__iter__» _) _ _ _ from ?_) (F.args_dict_items_iter_1 _))
 delta Builtin.«dict_items.__iter__»
 refine wpAny_bind (wpAny_pure (wpAny_bind (show wpAny _ _ (Builtin.Dict_items.dictOf _) _ _ _ from ?_)))
 delta Builtin.Dict_items.dictOf
 refine wpAny_bind (wpAny_field v1 v3 (x:=.ref d) rfl (wpAny_pure (wpAny_bind (show wpAny _ _ (Builtin.Dict_items.newIterator _ _) _ _ _ from ?_))))
 delta Builtin.Dict_items.newIterator
 refine wpAny_bind (wpAny_dictEntries e.at_ e.dat (wpAny_bind (wpAny_dictEpoch e.at_ e.dat ?_)));have own:Builtin.Dict_items.ownsTuple "dict_itemiterator" =true:=by rfl
 simp only[own,if_true];refine wpAny_newObj_type (wpAny_pure ⟨_,rfl,"dict_itemiterator",_,⟨_,Heap.get?_push_size _ rfl,rfl⟩,F.slot_dict_itemiterator_next.lookup,(by simpa[rawInt,Builtin.Dict_items.ownedTupleFields]using hQ)⟩) ?_;simp only[sizeOk,Builtin.Dict_items.ownedTupleFields,List.size_toArray,List.length_append,List.length_cons,List.length_nil,sizeLine_eq]<;>omega
theorem AQ{it:Addr}{i:Nat}{en:DictEntry}{k0 v0:Value}{Q:Option Value->Shared->Prop}(hit:IsItemIter s.heap it d i es.size ep k0 v0)(e:g7 s.heap d o es ep)(hx:es[i]? =some en)
  (hQ:∀h',IsItemIterOut h' it d (i+1) es.size ep en.key en.val s.heap.objs.size->h'.get? s.heap.objs.size=some {cls:=.type "tuple",data:=.seq #[en.key,en.val]}->h'.objs.size=s.heap.objs.size+1->(∀b q,b≠it->s.heap.get? b=some q->h'.get? b=some q)->Q (some (.ref s.heap.objs.size)) {s with heap:=h'}):
  wpAny (model prog w) A (pyNext (.ref it)) Q E s:=by
 obtain⟨g0,gn,dr,tk,os⟩:=s;have ty:Shared.TypeIs ⟨g0,gn,dr,tk,os⟩ (.ref it) "dict_itemiterator" :=⟨_,hit,rfl⟩
 delta pyNext
 refine wpAny_bind (wpAny_attempt (wpAny_callSpecial?_slot (name:=Str.ofString "__next__") ty F.slot_dict_itemiterator_next (wpAny_call_entry F.slot_dict_itemiterator_next ty F.entry_dict_itemiterator_next ?_ (F.args_dict_itemiterator_next_1 _))));refine wpAny_bind (wpAny_pure (wpAny_bind (wpAny_bind ?_)));first|refine wpAny_bind (wpAny_typeNameOfWhole_itemiter ty (wpAny_pure (wpAny_bind (wpAny_fieldsOf hit rfl ?_))))|refine wpAny_bind (wpAny_typeNameOf_itemiter ty (wpAny_pure (wpAny_bind (wpAny_fieldsOf hit rfl ?_))))
 have own:Builtin.Dict_items.ownsTuple "dict_itemiterator" =true:=by rfl
 simp only[own,if_true];show wpAny _ _ (if(Value.ref d==Value.none)=true then _ else _) _ _ ⟨g0,gn,dr,tk,os⟩
 have nn:¬((Value.ref d==Value.none)=true):=Bool.false_ne_true;rw[if_neg nn];refine wpAny_bind (wpAny_pure (wpAny_bind (wpAny_dictEntries e.at_ e.dat ?_)));rw[if_neg (show¬ _ by simp)];refine wpAny_bind (wpAny_pure (wpAny_bind (wpAny_dictEpoch e.at_ e.dat ?_)));rw[if_neg (show¬ _ by simp)];obtain⟨lt,hen⟩:=Array.getElem?_eq_some_iff.mp hx;have i0:¬((i:Int)<0):=by omega
 refine wpAny_pure ?_;simp only[i0,if_false,Int.toNat_natCast,Array.getElem?_eq_getElem lt,hen];refine wpAny_bind ?_;first|refine wpAny_bind (wpAny_typeNameOfWhole_itemiter ty (wpAny_pure (wpAny_bind (wpAny_isOneOf_itemiter ty ?_))))|refine wpAny_bind (wpAny_typeNameOf_itemiter ty (wpAny_pure (wpAny_bind (wpAny_isOneOf_itemiter ty ?_))))
 show wpAny _ _ (setField (.ref it) 3 (rawInt ((i:Int)+1))>>=fun _=>_) _ _ ⟨g0,gn,dr,tk,os⟩
 refine wpAny_bind (wpAny_setField_rec hit (by simp) fun g1 a1 b1=>?_);replace b1:Heap.SameBut it g0 g1:=b1;replace a1:IsItemIter g1 it d (i+1) es.size ep k0 v0:=by
  have ei:((i+1:Nat):Int)=(i:Int)+1:=by omega
  show _=_
  rw[ei];simpa[rawInt]using a1
 have ty1:Shared.TypeIs ⟨g1,gn,dr,tk,os⟩ (.ref it) "dict_itemiterator" :=⟨_,a1,rfl⟩;refine wpAny_bind (wpAny_holding (wpAny_bind (wpAny_isOneOf_itemiter ty1 (wpAny_bind (wpAny_isOneOf_itemiter ty1 ?_)))));show wpAny _ _ (Builtin.Dict_items.pairFromOwner (.ref it) 6 en.key en.val) _ _ ⟨g1,gn,dr,tk,os⟩
 delta Builtin.Dict_items.pairFromOwner
 refine wpAny_bind (wpAny_newTuple ?_);have a2:IsItemIter (g1.push {cls:=.type "tuple",data:=.seq #[en.key,en.val]}) it d (i+1) es.size ep k0 v0:=Heap.get?_push_of_some _ a1;have z1:g1.objs.size=g0.objs.size:=b1.1;have il:it<g0.objs.size:=Heap.lt_size hit;have t2:(g1.push {cls:=.type "tuple",data:=.seq #[en.key,en.val]}).get? g0.objs.size=some {cls:=.type "tuple",data:=.seq #[en.key,en.val]}:=by rw[<- z1];exact Heap.get?_push_size _ rfl
 have z2:(g1.push {cls:=.type "tuple",data:=.seq #[en.key,en.val]}).objs.size=g0.objs.size+1:=by rw[Heap.size_push,z1]
 have k2:∀b q,b≠it->g0.get? b=some q->(g1.push {cls:=.type "tuple",data:=.seq #[en.key,en.val]}).get? b=some q:=fun b q hb z=>Heap.get?_push_of_some _ (b1.extBut b q hb z)
 show wpAny _ _ (Builtin.Dict_items.ownedTupleIsFree (.ref it)>>=fun _=>_) _ _ ⟨g1.push {cls:=.type "tuple",data:=.seq #[en.key,en.val]},gn,dr,tk,os⟩
 rw[z1];generalize (g1.push {cls:=.type "tuple",data:=.seq #[en.key,en.val]})=g2 at a2 t2 z2 k2 ⊢;refine wpAny_bind (show wpAny _ _ (Builtin.Dict_items.ownedTupleIsFree _) _ _ _ from ?_)
 delta Builtin.Dict_items.ownedTupleIsFree
 refine wpAny_bind (wpAny_field a2 rfl (x:=.none) rfl (wpAny_pure ?_));simp only[if_true];refine wpAny_bind (wpAny_field a2 rfl (x:=k0) rfl (wpAny_bind (wpAny_field a2 rfl (x:=v0) rfl ?_)));refine wpAny_bind (wpAny_setField_rec a2 (by simp) fun g3 a3 b3=>?_);replace b3:Heap.SameBut it g2 g3:=b3;replace a3:IsItemIter g3 it d (i+1) es.size ep en.key v0:=a3;refine wpAny_bind (wpAny_setField_rec a3 (by simp) fun g4 a4 b4=>?_);replace b4:Heap.SameBut it g3 g4:=b4;replace a4:IsItemIter g4 it d (i+1) es.size ep en.key en.val:=a4;refine wpAny_bind (wpAny_setField_rec a4 (by simp) fun g5 a5 b5=>?_);replace b5:Heap.SameBut it g4 g5:=b5;replace a5:IsItemIterOut g5 it d (i+1) es.size ep en.key en.val g0.objs.size:=a5;refine wpAny_bind (wpAny_setField_rec a5 (by simp) fun g6 a6 b6=>?_);replace b6:Heap.SameBut it g5 g6:=b6;replace a6:IsItemIterOut g6 it d (i+1) es.size ep en.key en.val g0.objs.size:=a6;have kp:∀b q,b≠it->g2.get? b=some q->g6.get? b=some q:=fun b q hb z=>b6.extBut b q hb (b5.extBut b q hb (b4.extBut b q hb (b3.extBut b q hb z)))
 refine wpAny_bind (wpAny_letGo (wpAny_pure (wpAny_pure ⟨_,rfl,wpAny_pure (hQ g6 a6 (kp _ _ (Nat.ne_of_gt il) t2) ?_ fun b q hb z=>kp b q hb (k2 b q hb z))⟩)));show g6.objs.size=g0.objs.size+1
 rw[b6.1,b5.1,b4.1,b3.1,z2]
end
end L3
namespace L3
open PySem PySem.Spec PySem.Calls PyProof.Rows L2
section
variable {prog:Program}{w:World}{A:Around}{E:Value->Shared->Prop}{s:Shared}{d:Addr}{o:Obj}{es:Array DictEntry}{ep:Nat}
theorem B0{it:Addr}{i:Nat}{k0 v0:Value}{Q:Option Value->Shared->Prop}(hh:A.handled=none)(hit:IsItemIter s.heap it d i es.size ep k0 v0)(e:g7 s.heap d o es ep)(hge:es.size<=i)
  (hQ:∀h',Heap.ExtBut it s.heap h'->Q none {s with heap:=h'}):wpAny (model prog w) A (pyNext (.ref it)) Q E s:=by
 have ty:s.TypeIs (.ref it) "dict_itemiterator" :=⟨_,hit,rfl⟩
 delta pyNext
 refine wpAny_bind (wpAny_attempt (wpAny_callSpecial?_slot (name:=Str.ofString "__next__") ty F.slot_dict_itemiterator_next (wpAny_call_entry F.slot_dict_itemiterator_next ty F.entry_dict_itemiterator_next ?_ (F.args_dict_itemiterator_next_1 _))));refine wpAny_bind (wpAny_pure (wpAny_bind (wpAny_bind ?_)));first|refine wpAny_bind (wpAny_typeNameOfWhole_itemiter ty (wpAny_pure (wpAny_bind (wpAny_fieldsOf hit rfl ?_))))|refine wpAny_bind (wpAny_typeNameOf_itemiter ty (wpAny_pure (wpAny_bind (wpAny_fieldsOf hit rfl ?_))))
 have own:Builtin.Dict_items.ownsTuple "dict_itemiterator" =true:=by rfl
 simp only[own,if_true];show wpAny _ _ (if(Value.ref d==Value.none)=true then _ else _) _ _ s
 have nn:¬((Value.ref d==Value.none)=true):=Bool.false_ne_true;rw[if_neg nn];refine wpAny_bind (wpAny_pure (wpAny_bind (wpAny_dictEntries e.at_ e.dat ?_)));rw[if_neg (show¬ _ by simp)];refine wpAny_bind (wpAny_pure (wpAny_bind (wpAny_dictEpoch e.at_ e.dat ?_)));rw[if_neg (show¬ _ by simp)];have i0:¬((i:Int)<0):=by omega
 refine wpAny_pure ?_;simp only[i0,if_false,Int.toNat_natCast,Array.getElem?_eq_none hge];refine wpAny_bind ?_;first|refine wpAny_bind (wpAny_typeNameOfWhole_itemiter ty (wpAny_pure (show wpAny _ _ (setField (.ref it) 2 .none>>=fun _=>_) _ _ s from wpAny_bind (wpAny_setField hit rfl (by simp) ?_))))|refine wpAny_bind (wpAny_typeNameOf_itemiter ty (wpAny_pure (show wpAny _ _ (setField (.ref it) 2 .none>>=fun _=>_) _ _ s from wpAny_bind (wpAny_setField hit rfl (by simp) ?_))))
 show wpAny _ _ (newExc (.type "StopIteration") []>>= _) _ _ _
 refine wpAny_bind ?_;simp only[newExc,newTuple];refine wpAny_bind (wpAny_newObj_type ?_ (by size_fits));refine wpAny_bind (m:=firstArgMember _ _) (wpAny_of_eq (a:=Value.none) (by first|rfl|(simp only[firstArgMember];rfl)) ?_);refine wpAny_newObj_type ?_ (by size_fits);simp only[raiseNew];refine wpAny_bind (wpAny_handled ?_);rw[show A.in1.handled=none from hh];refine wpAny_bind (wpAny_pure (wpAny_throw ?_));refine wpAny_bind (wpAny_isInstance (T:= "StopIteration") (b:=true) ⟨_,Heap.get?_push_size _ rfl,rfl⟩ isSubtype_stop ?_);exact wpAny_pure (hQ _ (((Heap.SameBut.update ..).extBut.push _).push _))
end
noncomputable def IA(d:Addr)(o:Obj)(kvs:List (List Key×V)):It:=
 ⟨fun i H=>H d=some (.frz o (.dT kvs))/\i<kvs.length,fun i H x H'=>∃T k v q,kvs[i]? =some (k,v)/\H q=some (.tup (k.map kV))/\x=.ref T/\H T=none/\H'=upd H T (.tup [.ref q,v]),fun i H=>H d=some (.frz o (.dT kvs))/\kvs.length<=i⟩
section
variable {P:Program}{w:World}{K:W.Frag}{d:Addr}{o:Obj}{es:Array DictEntry}{ep:Nat}
theorem zH{X:Cx}{pins:List (Addr×Obj)}{σ:L2.St}{H:Hp}{s:Shared}{kvs:List (List Key×V)}(I:Inv X pins σ H s)(h:H d=some (.frz o (.dT kvs)))(hod:o.data=.dict es ep):g7 s.heap d o es ep/\es.size=kvs.length/\∀(i:Nat)(en:DictEntry),es[i]? =some en->∃k v q,kvs[i]? =some (k,v)/\en.key=.ref q/\H q=some (.tup (k.map kV))/\RelV v en.val:=by
 obtain⟨_,_,o',es',ep',e,sz,en⟩:=lR I (.inr ⟨o,h⟩);have e0:=(I.hok d _ h).1;have eo:o'=o:=by have:=e.at_;rw[e0]at this;exact(Option.some.inj this).symm
 subst eo;obtain⟨rfl,rfl⟩:=nY hod e.dat;exact⟨e,sz,en⟩
theorem xJ{kvs:List (List Key×V)}{elts:List Expr}{kk:Nat}{tpos:Pos}(it:Addr)(hod:o.data=.dict es ep):Turn P w K (.Tuple elts kk tpos) (IA d o kvs) [it] it (fun i h=>∃k0 v0,IsItemIter h it d i kvs.length ep k0 v0) where
 mem:=by simp
 obj:=fun i h st b hb=>by
  have e:b=it:=by simpa using hb
  subst e;obtain⟨_,_,e⟩:=st;exact⟨_,e,fun v z=>nomatch z⟩
 keep:=fun i h h' st k=>let⟨k0,v0,e⟩:=st;⟨k0,v0,k it (by simp) _ e⟩
 item:=by
  intro X hP hw hK hc i pins s σ H E I hf st hg;subst hP hw hK;obtain⟨hd,hi⟩:=hg;obtain⟨e,sz,ent⟩:=zH I hd hod;obtain⟨k0,v0,he⟩:=st;rw[<- sz]at he hi;obtain⟨k,v,q,hkv,hkey,hq,rv⟩:=ent i es[i] (Array.getElem?_eq_getElem hi);have hlt:it<s.heap.objs.size:=Heap.lt_size he;refine AQ he e (Array.getElem?_eq_getElem hi) fun h' ho hT hz hk=>?_
  refine⟨_,rfl,wpAny_letOwnedTupleGo_items (s:={s with heap:=h'}) ho fun h'' he' sb=>?_⟩;have hT2:h''.get? s.heap.objs.size=some {cls:=.type "tuple",data:=.seq #[es[i].key,es[i].val]}:=(sb.2 _ (Nat.ne_of_gt hlt)).trans hT;have new:d6 X.prog X.w (upd H s.heap.objs.size (.tup [.ref q,v])) h'' s.heap.objs.size (.tup [.ref q,v]):=⟨by show 2<=sizeLine;decide,[es[i].key,es[i].val],.cons hkey (.cons rv .nil),⟨_,hT2,rfl,_,rfl⟩⟩;have I1:Inv X pins σ (upd H s.heap.objs.size (.tup [.ref q,v])) {s with heap:=h''}:=I.uH (t':=s.toks) (ch:=[it]) (fun b ob hb z=>(sb.2 b (by simpa using hb)).trans (hk b ob (by simpa using hb) z)) hf (Nat.le_refl _) new;refine⟨.ref s.heap.objs.size,_,I1,rfl,⟨_,k,v,q,hkv,hq,rfl,I.hok.fresh (Nat.le_refl _),rfl⟩,⟨_,_,by rw[<- sz];exact he'⟩,fun b hb=>?_⟩;have eb:b=it:=by simpa using hb
  rw[eb,aA (Nat.ne_of_lt hlt)];exact(hf it (by simp)).1
 done:=by intro X hP hw hK hc i pins s σ H E I hf st hg;subst hP hw hK;obtain⟨hd,hi⟩:=hg;obtain⟨f0,f1,f2,f3,f4,f5⟩:=hf it (by simp);obtain⟨e,sz,ent⟩:=zH I hd hod;obtain⟨k0,v0,he⟩:=st;rw[<- sz]at he hi;exact B0 (I.ok.hd hc) he e hi fun h' eb=>⟨rfl,I.turned (t':=s.toks) (fun b ob hb z=>eb b ob hb z) f0 f1 f3 f4 f5⟩
 self:=fun A i s Q E st h=>let⟨_,_,e⟩:=st;W.kcp_self e h
end
noncomputable def JJ(td:TE):TI:=fun σ H R=>td σ H fun x H1=>∃d o kvs,x=.ref d/\H1 d=some (.frz o (.dT kvs))/\R (IA d o kvs) H1
section
variable {X:Cx}{e:Expr}{td:TE}{apos cpos:Pos}
theorem oZ{elts:List Expr}{kk:Nat}{tpos:Pos}(he:PE X e td)(hbase:attributeBase e "items" X.env (eval e X.env)=eval e X.env:=by rfl)(hline:(apos.endLine==cpos.line)=true:=by rfl):L2.PI X (.Tuple elts kk tpos) (.Call (.Attribute e "items" apos) [] [] cpos) (JJ td):=by
 intro pins s σ H R I h;refine wpAny_Call_method (T:= "dict") (id:= "dict.items") hbase rfl hline F.plainAttrs_dict F.slot_dict_items F.type_dict_items (thn (he pins s σ H _ I h) fun u s1 ⟨x,H1,I1,rx,d,o,kvs,ex,hd,q⟩=>?_);subst ex;obtain rfl:u=Value.ref d:=rx;obtain⟨hs,_,o',es,ep,en,sz,_⟩:=lR I1 (.inr ⟨o,hd⟩);have eo:o'=o:=by have:=en.at_;rw[(I1.hok d _ hd).1]at this;exact(Option.some.inj this).symm
 subst eo;refine⟨en.ty,fun b z=>by cases z;exact⟨o',en.at_,en.ex.2.1⟩,?_⟩;have I2:Inv X pins σ H1 {s1 with heap:=s1.heap.push {cls:=.type "dict_items",data:=.fields #[.ref d]}}:=I1.kept (t':=s1.toks) fun b ob q=>Heap.get?_push_of_some _ q
 have en2:g7 (s1.heap.push {cls:=.type "dict_items",data:=.fields #[.ref d]}) d o' es ep:=en.to fun q z=>Heap.get?_push_of_some _ z
 have fin:wpAny (model X.prog X.w) X.A (pyIter (.ref s1.heap.objs.size)) (PIE X pins σ (.Tuple elts kk tpos) R) X.xe {s1 with heap:=s1.heap.push {cls:=.type "dict_items",data:=.fields #[.ref d]}}:=by refine yR ⟨_,Heap.get?_push_size _ rfl,rfl,rfl⟩ en2 (AD (tk:=s1.toks) I2 _ (xJ _ en.dat) ⟨.none,.none,?_⟩ q);rw[<- sz];exact Heap.get?_push_size _ rfl
 show wpAny _ _ (callWith cpos (.builtin "dict.items") [.ref d] [] []) _ X.xe s1
 exact method_meetsIn F.slot_dict_items F.entry_dict_items rfl (PySem.evalArgs_none ⟨rfl,en.ty,F.args_dict_items_1 _,_,wI hs,⟨o',es,ep,en⟩,fin⟩)
end
theorem pP{d:Addr}{od:Obj}{kvs:List (List Key×V)}{g:TG}{tb:TS}{D:Ends}{σ:L2.St}{H:Hp}(Pv:Nat->L2.St->Hp->Prop)(h0:Pv 0 σ H)(hl:∀i σ H,Pv i σ H->H d=some (.frz od (.dT kvs)))
  (hs:∀i k v q T σ H,kvs[i]? =some (k,v)->H q=some (.tup (k.map kV))->H T=none->Pv i σ H->g (.ref T) σ (upd H T (.tup [.ref q,v])) fun σ2 H2=>tb {D with nx:=Pv (i+1),ct:=Pv (i+1),bk:=D.nx} σ2 H2) (hd:∀σ H,Pv kvs.length σ H->D.nx σ H):
  ∃W:Nat->Nat->L2.St->Hp->Prop,(∃m,W 0 m σ H)/\∀i m σ H,W i m σ H ->
   ((IA d od kvs).stop i H/\D.nx σ H)\/((IA d od kvs).go i H/\∃N:L2.St->Hp->Prop,(∀σ' H',N σ' H'->∃m',m'<m/\W (i+1) m' σ' H')/\∀x H',(IA d od kvs).yld i H x H'->g x σ H' fun σ2 H2=>tb {D with nx:=N,ct:=N,bk:=D.nx} σ2 H2):=by
 refine⟨fun i m σ H=>m=kvs.length - i/\i<=kvs.length/\Pv i σ H,⟨kvs.length,by simp,Nat.zero_le _,h0⟩,?_⟩;rintro i m σ H ⟨rfl,hi,p⟩;have q:=hl i σ H p;by_cases hlt:i<kvs.length
 ·refine .inr ⟨⟨q,hlt⟩,Pv (i+1),fun σ' H' p'=>⟨kvs.length - (i+1),by omega,rfl,hlt,p'⟩,fun x H' y=>?_⟩;obtain⟨T,k,v,b,hk,hb,rfl,hT,rfl⟩:=y;exact hs i k v b T σ H hk hb hT p
 ·have e:i=kvs.length:=by omega
  subst e;exact .inl ⟨⟨q,Nat.le_refl _⟩,hd σ H p⟩
end L3
namespace L3
open PySem PySem.Spec PySem.Calls PyProof.Rows L2
section
variable {prog:Program}{w:World}{A:Around}{E:Value->Shared->Prop}
abbrev TK(prog:Program)(w:World):HeapKind prog w (List Key):=tupleKind (bY prog w)
theorem wM{h0 h:Heap}{ks:List Key}{a:Addr}(k:∀b q,h0.get? b=some q->h.get? b=some q)(x:(TK prog w).is h0 ks a):(TK prog w).is h ks a:=by obtain⟨o,its,n,ho,r⟩:=x;exact⟨o,its,n,k _ _ ho,r⟩
theorem tE{h h':Heap}{S:Addr}{acc:List (List Key×Addr×Value)}(m:h.DictOfH (TK prog w) S acc)(hS:∀q,h.get? S=some q->h'.get? S=some q)(hk:∀x∈acc,(TK prog w).is h' x.1 x.2.1):h'.DictOfH (TK prog w) S acc:=by obtain⟨o,es,ep,a1,a2,a3,a4,_,a6⟩:=m;exact⟨o,es,ep,hS _ a1,a2,a3,a4,hk,a6⟩
noncomputable def C1(acc rest:List (List Key×Addr×Value)):List (List Key×Addr×Value):=rest.foldl (fun a q=>storedH a q.1 q.2.1 q.2.2) acc
theorem A6(acc:List (List Key×Addr×Value))(k:List Key)(a:Addr)(v:Value):(storedH acc k a v).length<=acc.length+1:=by unfold storedH;split<;>simp
theorem K8{R:Result->Shared->Prop}{S I l:Addr}{items:Array Value}{res:Value}{h0:Heap}(hh:A.handled=none)(hu:A.in1.units<cLine)(hIS:S≠I)(hl0:h0.IsList l items)(hS0:∀b q,h0.get? b=some q->b≠S)(hI0:∀b q,h0.get? b=some q->b≠I):
  ∀(rest:List (List Key×Addr×Value))(i:Nat)(acc:List (List Key×Addr×Value))(ix:Int)(t:Tok)(s:Shared),items.size=i+rest.length->acc.length+rest.length<=sizeLine->(∀x∈acc,(TK prog w).is h0 x.1 x.2.1) ->
   (∀(j:Nat)(q:List Key×Addr×Value),rest[j]? =some q->∃b:Addr,items[i+j]? =some (.ref b)/\IsTup h0 b #[.ref q.2.1,q.2.2]/\(TK prog w).is h0 q.1 q.2.1) ->
   (∀b q,h0.get? b=some q->s.heap.get? b=some q)->s.heap.IsListIter I l i->s.heap.DictOfH (TK prog w) S acc ->
   (∀h' tk,h'.DictOfH (TK prog w) S (C1 acc rest)->(∀b q,h0.get? b=some q->h'.get? b=some q)->R (.ok (.ret res)) {s with heap:=h',toks:=tk}) ->
   codeAny (model prog w) A (.builtin "dict.update.loop" ⟨[.ref S,.ref I,.int ix t,res],[]⟩) R s
 |[],i,acc,ix,t,s,hsz,hln,hacc,ht,k0,hit,hm,hR=>by
  have hl:s.heap.IsList l items:=hl0.at fun q z=>k0 _ _ z
  refine codeAny_builtin xG ?_;rw[Around.under_plainId jY _];show wpAny _ A.in1 (pyNext (.ref I)>>= _) _ _ s
  refine wpAny_bind (wpAny_pyNext_list_end (A:=A.in1) hh hit hl (by first|exact Array.getElem?_eq_none (Nat.le_of_eq hsz)|(simp at hsz;simp;omega)) fun h' he=>?_);show wpAny _ A.in1 (Builtin.Dict.addKeywords S []>>= _) _ _ _
  have k1:∀b q,h0.get? b=some q->h'.get? b=some q:=fun b q z=>he b q (hI0 b q z) (k0 b q z)
  exact wpAny_bind (wpAny_pure (wpAny_pure (hR h' s.toks (tE hm (fun q z=>he S q hIS z) fun x hx=>wM k1 (hacc x hx)) k1)))
 |q::rest,i,acc,ix,t,s,hsz,hln,hacc,ht,k0,hit,hm,hR=>by
  obtain⟨b,hb,htup,hk⟩:=ht 0 q rfl;have hl:s.heap.IsList l items:=hl0.at fun q z=>k0 _ _ z
  rw[List.length_cons]at hsz hln;refine codeAny_builtin xG ?_;rw[Around.under_plainId jY _];show wpAny _ A.in1 (pyNext (.ref I)>>= _) _ _ s
  refine wpAny_bind (wpAny_pyNext_list_item (x:=.ref b) hit hl (by simpa using hb) fun h1 hit1 hs1=>?_);have k1:∀b q,h0.get? b=some q->h1.get? b=some q:=fun b q z=>(hs1.2 b (hI0 b q z)).trans (k0 b q z)
  have hm1:h1.DictOfH (TK prog w) S acc:=tE hm (fun q z=>(hs1.2 S hIS).trans z) fun x hx=>wM k1 (hacc x hx)
  obtain⟨o,ho,hc,n,hd⟩:=id htup;have ho1:=k1 _ _ ho;show wpAny _ A.in1 (holding [Value.ref b] _>>= _) _ _ _
  refine wpAny_bind (wpAny_holding (wpAny_bind (wpAny_tryCatch ?_)));unfold Builtin.Dict.pairItems;refine wpAny_bind (wpAny_typeOf (T:= "tuple") ⟨o,ho1,hc⟩ ?_);rw[if_pos (by first|decide|rfl|simp)];refine wpAny_bind (wpAny_seqItems ho1 hd (wpAny_pure ?_));show wpAny _ A.in1 (holding [Value.ref q.2.1,q.2.2] (dictSet S (.ref q.2.1) q.2.2)) _ _ _
  refine wpAny_holding (wpAny_dictSet_heap (knd:=TK prog w) (k:=q.1) hu (wM k1 hk) hm1 (fun h2 hm2 hs2=>?_) (by omega));have k2:∀b q,h0.get? b=some q->h2.get? b=some q:=fun b q z=>(hs2.2 b (hS0 b q z)).trans (k1 b q z)
  refine wpAny_pure ⟨plainId_quiet jY _,K8 (items:=items) hh hu hIS hl0 hS0 hI0 rest (i+1) (storedH acc q.1 q.2.1 q.2.2) (ix+1) 0 _ (show items.size=i+1+rest.length by omega) ?_ (fun x hx=>?_) (fun j q' e=>?_) k2 ?_ hm2 fun h' tk hd' k=>hR h' tk hd' k⟩
  ·have z:=A6 acc q.1 q.2.1 q.2.2;omega
  ·unfold storedH at hx;split at hx
   ·obtain⟨y,hy,rfl⟩:=List.mem_map.mp hx;unfold putAt;split
    ·exact hacc y hy
    ·exact hacc y hy
   ·rcases List.mem_append.mp hx with hx|hx
    ·exact hacc x hx
    ·rw[List.mem_singleton.mp hx];exact hk
  ·obtain⟨b',a1,a2,a3⟩:=ht (j+1) q' (by simpa using e);exact⟨b',by rw[show i+1+j=i+(j+1) by omega];exact a1,a2,a3⟩
  ·exact hit1.at fun o' e=>(hs2.2 I (Ne.symm hIS)).trans e
theorem zJ{s:Shared}{l:Addr}{ol:Obj}{items:Array Value}{n:Nat}{prs:List (List Key×Addr×Value)}{Q:Value->Shared->Prop}(hh:A.handled=none)(hu:A.in1.in1.units<cLine)(hl:s.heap.get? l=some ol)(hc:ol.cls=.type "list")(hd:ol.dict=none)
  (hdat:ol.data=.seq items n) (hsz:items.size=prs.length) (hln:prs.length<=sizeLine)
  (ht:∀(j:Nat)(q:List Key×Addr×Value),prs[j]? =some q->∃b:Addr,items[j]? =some (.ref b)/\IsTup s.heap b #[.ref q.2.1,q.2.2]/\(TK prog w).is s.heap q.1 q.2.1)
  (h:∀h' tk,h'.DictOfH (TK prog w) s.heap.objs.size (C1 [] prs)->(∀b o,s.heap.get? b=some o->h'.get? b=some o)->Q (.ref s.heap.objs.size) {s with heap:=h',toks:=tk}):
  wpAny (model prog w) A (call (.type "dict") [.ref l]) Q E s:=by
 refine callType_codes (Q₁:=fun obj s₁=>obj=.ref s.heap.objs.size/\s₁={s with heap:=s.heap.push {cls:=.type "dict",data:=.dict #[]}}) PySem.F.kt_called_dict (PySem.F.kt_typeCall_dict_1 _) PySem.F.entry_dict_init (kt_code_dict_new _ ⟨rfl,rfl⟩) ?_;rintro obj s₁ ⟨rfl,rfl⟩;have hnew:(s.heap.push {cls:=.type "dict",data:=.dict #[]}).DictOfH (TK prog w) s.heap.objs.size []:=Heap.DictOfH.new s.heap;have k0:∀b o,s.heap.get? b=some o->(s.heap.push {cls:=.type "dict",data:=.dict #[]}).get? b=some o:=fun b o e=>Heap.get?_push_of_some _ e
 refine⟨hnew.typeIs,PySem.F.args_dict_init_2 _ _,?_⟩;unfold Builtin.«dict.__init__»;refine wpAny_bind ?_;unfold Builtin.Dict.selfAndRest;refine wpAny_bind (wpAny_notOrdered_dict hnew.typeIs ?_);show wpAny _ _ (pure (s.heap.objs.size,[Value.ref l])) _ _ _
 refine wpAny_pure ?_;show wpAny _ _ (Builtin.Dict.updateFrom "dict.__init__" s.heap.objs.size (.ref l) [] .none) _ _ _
 unfold Builtin.Dict.updateFrom;refine wpAny_bind (wpAny_typeOf (T:= "list") ⟨ol,k0 _ _ hl,hc⟩ ?_);rw[if_pos (by first|decide|rfl|simp)];refine wpAny_bind (DX (k0 _ _ hl) hc hdat hd hh fun h1 tk1 hk1=>?_);rw[if_pos (show(none:Option Value).isNone=true from rfl)];refine wpAny_bind (wpAny_rule ?_);have hl1:h1.IsList l items:=⟨ol,hk1 _ _ (k0 _ _ hl),hc,n,hdat⟩;have hS1:s.heap.objs.size<h1.objs.size:=by have e:(s.heap.push {cls:=.type "dict",data:=.dict #[]}).get? s.heap.objs.size=some {cls:=.type "dict",data:=.dict #[]}:=Heap.get?_push_size _ rfl;exact Heap.lt_size (hk1 _ _ e)
 refine wpAny_bind (wpAny_pyIter_list hl1 ?_);have k2:∀b o,h1.get? b=some o->(h1.push {cls:=.type "list_iterator",data:=.fields #[.ref l,.int 0 0]}).get? b=some o:=fun b o e=>Heap.get?_push_of_some _ e
 have kk:∀b o,s.heap.get? b=some o->(h1.push {cls:=.type "list_iterator",data:=.fields #[.ref l,.int 0 0]}).get? b=some o:=fun b o e=>k2 _ _ (hk1 _ _ (k0 _ _ e))
 have key:=K8 (prog:=prog) (w:=w) (A:=A.in1) (R:=wants (fun r s₂=>r=.none/\Q (.ref s.heap.objs.size) s₂) E) (S:=s.heap.objs.size) (I:=h1.objs.size) (l:=l) (items:=items) (res:=Value.none) (h0:=s.heap) hh hu (Nat.ne_of_lt hS1)
  ⟨ol,hl,hc,n,hdat⟩ (fun b q z=>Nat.ne_of_lt (Heap.lt_size z)) (fun b q z=>Nat.ne_of_lt (Nat.lt_trans (Heap.lt_size z) hS1)) prs 0 [] 0 0
  {s with heap:=h1.push {cls:=.type "list_iterator",data:=.fields #[.ref l,.int 0 0]},toks:=tk1} (by rw[hsz,Nat.zero_add]) (by rw[List.length_nil,Nat.zero_add];exact hln) (fun x hx=>nomatch hx)
  (fun j q e=>by rw[Nat.zero_add];exact ht j q e) kk ⟨_,Heap.get?_push_size _ rfl,rfl,rfl⟩ (tE hnew (fun q z=>k2 _ _ (hk1 _ _ z)) fun x hx=>nomatch hx)
  (fun h' tk hd' k=>⟨rfl,h h' tk hd' k⟩)
 first
  |exact wpAny_pure ⟨plainId_quiet jY _,key⟩
  |exact wpAny_bind (wpAny_pure (wpAny_pure ⟨plainId_quiet jY _,key⟩))
end
noncomputable def k8(kvs more:List (List Key×V)):List (List Key×V):=more.foldl (fun acc kv=>putK acc kv.1 kv.2) kvs
theorem D1{H:Hp}:∀{more:List (List Key×V)}{prs:List (List Key×Addr×Value)}{kvs:List (List Key×V)}{acc:List (List Key×Addr×Value)},KT H more prs->KT H kvs acc->KT H (k8 kvs more) (C1 acc prs)
 |_,_,_,_,.nil,r=>r
 |kv::_,q::_,kvs,acc,.cons ⟨e1,e2,e3⟩ t,r=>by
  show KT H (k8 (putK kvs kv.1 kv.2) _) (C1 (storedH acc q.1 q.2.1 q.2.2) _)
  refine D1 t ?_;have:=r.put kv.1 e2 e3;rw[e1]at this ⊢;exact this
theorem uQ:∀(more kvs:List (List Key×V)),(k8 kvs more).length<=kvs.length+more.length
 |[],kvs=>by simp[k8]
 |kv::r,kvs=>by
  have h1:=uQ r (putK kvs kv.1 kv.2);have h2:=kF kvs kv.1 kv.2;show(k8 (putK kvs kv.1 kv.2) r).length<=_
  rw[List.length_cons];omega
section
variable {X:Cx}
theorem BP(hcalm:X.calm=true)(hu:X.A.units+2<cLine):jT X (.type "dict") (fun xs H Q=>∃(a:Addr)(ps:List Addr)(kvs:List (List Key×V)),xs=[.ref a]/\SqL X.K H a (ps.map V.ref)/\Paired (fun p (kv:List Key×V)=>∃q,H p=some (.tup [.ref q,kv.2])/\H q=some (.tup (kv.1.map kV))) ps kvs/\
  ∀p,H p=none->Q (.ref p) (upd H p (.dT (k8 [] kvs)))):=by
 intro pins s σ H xs us Q I r h;obtain⟨a,ps,kvs,ex,hq,hp,h⟩:=h;subst ex;obtain⟨u,eu,rx⟩:=vals1 r;subst eu;cases rx;obtain⟨its,rv,pl,hz⟩:=I.list hq;have ei:=j6 rv;subst ei;rw[List.length_map]at hz;have hpr:∀{ps:List Addr}{kvs:List (List Key×V)},Paired (fun p (kv:List Key×V)=>∃q,H p=some (.tup [.ref q,kv.2])/\H q=some (.tup (kv.1.map kV))) ps kvs ->
   ∃prs:List (List Key×Addr×Value),KT H kvs prs/\prs.length=ps.length/\∀(j:Nat)(q:List Key×Addr×Value),prs[j]? =some q->∃b,ps[j]? =some b/\IsTup s.heap b #[.ref q.2.1,q.2.2]/\(TK X.prog X.w).is s.heap q.1 q.2.1:=by
  intro ps kvs hp;induction hp with
  |nil=>exact⟨[],.nil,rfl,fun j q e=>by simp at e⟩
  | @cons p kv ps kvs hq t ih=>
   obtain⟨prs,r1,r2,r3⟩:=ih;obtain⟨b,hb1,hb2⟩:=hq;obtain⟨its,rv,ht,_⟩:=I.tuple (SqT.of (K:=X.K) hb1);obtain⟨u,y,ei,ru,ry⟩:=vals2 rv;subst ei;cases (show u=Value.ref b from ru);refine⟨(kv.1,b,y)::prs,.cons ⟨rfl,hb2,ry⟩ r1,by rw[List.length_cons,List.length_cons,r2],fun j q e=>?_⟩;cases j with
   |zero=>have e':(kv.1,b,y)=q:=Option.some.inj e;subst e';exact⟨p,rfl,ht,kH I.hok hb2⟩
   |succ j=>obtain⟨c,e1,e2,e3⟩:=r3 j q (by simpa using e);exact⟨c,by simpa using e1,e2,e3⟩
 obtain⟨prs,rel,hl,hpr⟩:=hpr hp;obtain⟨o,n,ho,hc,hd,hdat⟩:=pl;refine zJ (prs:=prs) (I.ok.hd hcalm) hu ho hc hd hdat (by simp[hl]) (by rw[hl];exact hz) (fun j q' e=>?_) fun h' tk hd' k=>?_
 ·obtain⟨b,e1,e2,e3⟩:=hpr j q' e;exact⟨b,by simp[e1],e2,e3⟩
 ·have hm:(s.heap.objs.size==sysModules)=false:=beq_eq_false_iff_ne.mpr (Nat.ne_of_gt I.big);have hlen:(k8 [] kvs).length<=sizeLine:=by have h1:=uQ kvs [];have h2:=pairs_len hp;rw[List.length_nil]at h1;omega
  have kt:=D1 rel (.nil:KT H [] []);obtain⟨q,es,ep,hq',h2,h3,h4,_,h5⟩:=hd';refine⟨.ref s.heap.objs.size,_,I.laid (a:=s.heap.objs.size) (o:=.dT (k8 [] kvs)) k (Nat.le_refl _) ⟨hlen,hm,_,kt.keeps fun c ys ec=>?_,q,es,ep,hq',h2,h3,h4,h5⟩,rfl,h _ (I.hok.fresh (Nat.le_refl _))⟩;rw[aA (aH ec (I.hok.fresh (Nat.le_refl _)))];exact ec
end
end L3
namespace L3
open PySem PySem.Spec PyProof.Rows L2
theorem LQ{A:Around}{k:Nat}(hr:cQ k A):A.units+2<cLine:=Nat.lt_of_le_of_lt (Nat.add_le_add_left (by decide:2<=64) _) hr.units
theorem BY{H:Hp}:∀{xs:List V}{ps:List PI},Paired (T2 H) xs ps->∃as:List Addr,xs=as.map V.ref
 |_,_,.nil=>⟨[],rfl⟩
 |_,_,.cons ⟨a,e,_⟩ t=>by obtain⟨as,rfl⟩:=BY t;exact⟨a::as,by rw[e];rfl⟩
theorem qY{α:Type}{l:List α}{i:Nat}{x:α}(h:l[i]? =some x):i<l.length:=(List.getElem?_eq_some_iff.mp h).1
end L3
namespace L3
open PySem PySem.Spec PyProof.Rows L2
theorem xV{κ:Type}[DecidableEq κ]{kf:κ->List Key}(hk:∀p q,kf p=kf q->p=q):∀(more kvs:List (κ×V)),k8 (kvF kf kvs) (kvF kf more)=kvF kf (RM.cK kvs more)
 |[],kvs=>rfl
 |x::r,kvs=>by
  show k8 (putK (kvF kf kvs) (kf x.1) x.2) (kvF kf r)=kvF kf (RM.cK (RM.cV kvs x.1 x.2) r)
  rw[AA hk,xV hk r]
theorem DS{L:List PI}(h:L.Nodup):k8 [] (kvF k2 (KS L))=kvF k2 (KS L):=by have e:=xV (kf:=k2) (fun _ _=>AY) (KS L) [];rw[RM.pT (KS L) [] (by rw[xB];exact h) (by intro k _ z;cases z),List.nil_append]at e;exact e
def cnt(σ:L2.St)(i:Nat):Nat:=match σ[i]? with|some (some (.int k))=>k.toNat|_=>0
theorem T2.RA{a:Addr}{H H':Hp}{v:V}{p:PI}{kvs:List (PI×V)}(h:T2 H v p)(e:But a H H')(ha:D2 H a kvs):T2 H' v p:=h.but e ha (by intro _ z;cases z)
end L3
namespace L3
open PySem PySem.Spec PyProof.Rows L2
theorem JB{α:Type}{ws:List α}{q:α}{n:Nat}(hn:ws.length=n)(hq:ws[n - 1]? =some q):ws=ws.dropLast++[q]:=by
 subst hn;have hne:ws≠[]:=by intro z;rw[z]at hq;cases hq
 have e:=(List.dropLast_concat_getLast hne).symm;rw[List.getLast_eq_getElem]at e;have e2:=(List.getElem?_eq_some_iff.mp hq).2;rw[e2]at e;exact e
end L3
namespace L3
open PySem PySem.Spec PyProof.Rows L2
noncomputable def LS(H:Hp)(a:Addr)(ts:List PI3):Prop:=∃xs,H a=some (.lst xs)/\Paired (T3 H) xs ts
noncomputable def LLS(H:Hp)(a:Addr)(Fs:List (List PI3)):Prop:=∃bs:List Addr,H a=some (.lst (bs.map V.ref))/\Paired (LS H) bs Fs
theorem LS.mono{H H':Hp}{a:Addr}{ts:List PI3}(e:a9 H H')(h:LS H a ts):LS H' a ts:=let⟨xs,h1,h2⟩:=h;⟨xs,e _ _ h1,aI (fun _ _ q=>q.mono e) h2⟩
theorem LS.upd{H:Hp}{b D:Addr}{ts:List PI3}{xs:List V}{o:HO}(h:LS H b ts)(hD:H D=some (.lst xs))(n:b≠D):LS (L2.upd H D o) b ts:=by obtain⟨ys,q,pr⟩:=h;exact⟨ys,by rw[aA n];exact q,aI (fun _ _ z=>z.upd hD) pr⟩
theorem qF{α β:Type}{R:α->β->Prop}:∀{l:List α}{m:List β}{b:β},Paired R l (m++[b])->∃l' a,l=l'++[a]/\Paired R l' m/\R a b
 |_,[],_,.cons r .nil=>⟨[],_,rfl,.nil,r⟩
 |_,_::m,_,.cons r t=>by obtain⟨l',a,e,h1,h2⟩:=qF (m:=m) t;exact⟨_::l',a,by rw[e];rfl,.cons r h1,h2⟩
end L3
namespace L3
open PySem PySem.Spec PySem.Calls PyProof.Rows L2
section
variable {M:Model}{A:Around}{E:Value->Shared->Prop}
variable {nm q nm' q':Str}{C N C' N':Addr}{bs bm bs' bm':List Value}{hdct hdct':Bool}{sn sn':List Str}{sub sub':List Value}{ab ab':Bool}{col col':Option Bool}{dd dd':Option Addr}{k0 k1 k2 k3 k5 l0 l1 l2 l3 l5:Option Value}{newId newId':String}
theorem tV{h:Heap}{g:Array GenState}{d:Drawn}{t:Nat}{os:OsState}{e:Addr}{oe:Obj}{Q:Bool->Shared->Prop}
  (hC:h.get? C=some (excClassObj nm q C N bs bm hdct sn sub ab col dd k0 k1 k2 k3 k5 newId)) (hD:h.get? C'=some (excClassObj nm' q' C' N' bs' bm' hdct' sn' sub' ab' col' dd' l0 l1 l2 l3 l5 newId'))
  (he:h.get? e=some oe) (hcls:oe.cls=.ref C) (hbase:bm'.contains (.type "BaseException")=true) (hno:(Value.ref C::bm).contains (.ref C')=false) (hq:Q false ⟨h,g,d,t,os⟩):wpAny M A (excMatches (.ref e) (.ref C')) Q E ⟨h,g,d,t,os⟩:=by
 have hcB:(Value.ref C'::bm').contains (.type "BaseException")=true:=by rw[List.contains_cons,hbase,Bool.or_true]
 have f:=tc_notTuple;unfold excMatches
 repeat (first|(with_reducible refine wpAny_loadPart_at he ?_;rw[hcls])|with_reducible refine wpAny_loadPart_at hD ?_|(with_reducible refine wpAny_isSubtype_exc hD ?_;rw[hcB])|(with_reducible refine wpAny_isSubtype_exc hC ?_;rw[hno])|wp_step)
 exact hq
end
end L3
namespace L3
open PySem PySem.Spec PySem.Calls PyProof.Rows L2
noncomputable def cxL(P:Program)(w:World)(K:W.Frag)(mg:Str->Option Value)(base:Heap)(N:List Str)(qual:Str)(scope:Scope)(f:Addr)(cd:Value)(cl:List (Str×Addr))(A:Around)(outer:List Env)(s:Shared)(H:Hp)(E:XK):Cx where
 prog:=P
 w:=w
 K:=K
 mg:=mg
 base:=base
 A:=A.deeper (W.envX qual scope s.heap.objs.size f cd cl)
 N:=N
 s_0:=s
 H_0:=H
 env:=W.envX qual scope s.heap.objs.size f cd cl
 outer:=outer
 stack:=W.envX qual scope s.heap.objs.size f cd cl::outer
 ex:=[]
 calm:=true
 fn:=fun _=>false
 pn:=[]
 xe:=fun e s'=>wpAny (model P w) (A.deeper (W.envX qual scope s.heap.objs.size f cd cl)) (leaving (W.envX qual scope s.heap.objs.size f cd cl) e) (fun _ s''=>CXf outer H s E e s'') (fun e' s''=>CXf outer H s E e' s'') s'
section
variable {P:Program}{w:World}{K:W.Frag}{mg:Str->Option Value}{base:Heap}{N:List Str}{qual:Str}{scope:Scope}{f:Addr}{cd:Value}{cl:List (Str×Addr)}{A:Around}{outer:List Env}{s:Shared}{H:Hp}{E:XK}
theorem MV(hok0:HOk P w H s.heap):Passes CXf (cxL P w K mg base N qual scope f cd cl A outer s H E) (fun c _ _=>E c none H):=by
 intro pins σ H1 s1 e s' I h;obtain⟨ae,C,rfl,⟨⟨a0,fl⟩,sl,os,bare⟩,hE⟩:=h;have fl2:Heap.FlyingW (g9 s.heap H (frs outer++[])) (cxL P w K mg base N qual scope f cd cl A outer s H E).stack ae (.ref C) a0 s'.heap:=
  W.flyingW_base (fun b o q=>by
   obtain⟨z1,z2,z3,_⟩:=stays I hok0 (ex:=[]) (fun _ z=>z) q;exact gK z1 z2 (by rw[nJ];exact z3)) fl
 refine wpAny_leaves_onW (L:=s.heap.objs.size) (outer:=outer) I.ok.frames rfl fl2 fun h2 fl3 up=>?_
 refine⟨ae,C,rfl,⟨⟨_,fl3⟩,fun b hb o q=>?_,os.trans I.os,bare⟩,hE⟩;have hbs:b∈frs (cxL P w K mg base N qual scope f cd cl A outer s H E).stack:=by
  show b∈frs (_::outer)
  unfold frs;rw[List.filterMap_cons];exact List.mem_cons_of_mem _ hb
 obtain⟨sl1,q1⟩:=k7 I hb (by intro z;exact nomatch z) q;obtain⟨sl2,q2⟩:=sl b hbs _ q1;obtain⟨o3,q3,nf⟩:=(fl.2.2.1.mem (b:=b) hbs).2;rw[q2]at q3;cases q3;obtain⟨sl3,q4⟩:=up b _ q2 nf;exact⟨sl3,q4⟩
theorem JC{k:Nat}{name:Str}{params:Arguments}{body:Expr}{pm ctv:Value}{c':Addr}{Q:VK}{te:TE}{vs:List V}(hr:cQ (k+1) A)(e0:oI P w K mg base A outer s H)
  (ho:s.heap.get? f=some (W.kla_obj name qual params body scope cl pm c' ctv)) (hcd:s.heap.CodeRec (.ref c') qual) (hbind:bindArgs (W.kla_fn name qual params body scope cl pm (.ref c') ctv) ⟨[],[]⟩=pure [])
  (hk:scope.kind=.function) (hco:scope.isCoroutine=false) (hgen:scope.isGenerator=false) (hnc:∀x∈scope.names,x.2≠ .cell) (hnl:∀x,scope.names.lookup x≠some .local) (hN:vs.length=N.length)
  (inj:∀x y c,cl.lookup x=some c->cl.lookup y=some c->x=y) (has:∀x,scope.names.lookup x=some .free->∃c,cl.lookup x=some c)
  (hcl:∀x c,cl.lookup x=some c->H c=none/\∃v,s.heap.IsCell c v) (hv:∀(i:Nat)(x:Str)(v:V),N[i]? =some x->vs[i]? =some v->scope.names.lookup x=some .free->∃c u,cl.lookup x=some c/\RelV v u/\s.heap.IsCell c (some u))
  (hpe:cQ k (A.deeper (W.envX qual scope s.heap.objs.size f (.ref c') cl))->HOk P w H s.heap->PE (cxL P w K mg base N qual scope f (.ref c') cl A outer s H E) body te) (hq:te (vs.map some) H Q):
  codeAny (model P w) A (.call (.ref f) ⟨[],[]⟩) (CR CXf outer P w H s Q E) s:=by
 have lim:s.heap.NoLimit:=e0.mod.nolimit.keeps fun b o e=>(e0.bs b o e).1
 refine W.kla_callFunE hr.depth ho rfl hco hgen rfl hcd ?_;rw[hbind];refine wpAny_pure (wpAny_newFunctionEnv hnc (fun x hx=>nomatch hx) (fun h1 hns hsb=>?_) hk);have kp:∀b o,s.heap.get? b=some o->h1.get? b=some o:=fun b o e=>(hsb.2 b (Nat.ne_of_lt (Heap.lt_size e))).trans (Heap.get?_push_of_some _ e)
 refine⟨lim.keeps kp,?_⟩;show codeAny _ _ (.expr body (W.envX qual scope s.heap.objs.size f (.ref c') cl)) _ _
 have cat:∀{c:Addr}{v:Option Value},s.heap.IsCell c v->h1.IsCell c v:=fun⟨o,e,d⟩=>⟨o,kp _ _ e,d⟩
 have I:Inv (cxL P w K mg base N qual scope f (.ref c') cl A outer s H E) [] (vs.map some) H {s with heap:=h1,toks:=s.toks+([]:List (Str×Value)).length}:=by
  refine⟨⟨e0.mod,hk,rfl,rfl,Nat.le_refl _,inj,fun x hx=>?_,fun x c hx=>(nomatch hx),fun _=>hr.hd,Around.frames_deeper e0.frames,.inr ⟨rfl,rfl⟩,fun b z=>(nomatch z),e0.bs,e0.bsz,fun b _ _ z=>(nomatch z),fun b z=>(nomatch z),e0.kJ,e0.frf⟩,
   rfl,e0.bare,Un.kept kp,⟨_,hns,fun i x v h1 h2 h3=>?_⟩,fun x c e=>?_,e0.hok.fresh (Nat.le_refl _),fun x c e=>(hcl x c e).1,fun p hp=>(nomatch hp),e0.hok.kept kp,by rw[List.length_map];exact hN⟩
  ·rcases hx with hx|hx
   ·exact absurd rfl (hnc _ (PySem.mem_of_lookup (show scope.names.lookup x=some .cell from hx)))
   ·exact has x hx
  ·have e2:vs[i]? =some v:=by
    rw[List.getElem?_map]at h2;cases e:vs[i]? with
    |none=>rw[e]at h2;cases h2
    |some z=>rw[e]at h2;cases h2;rfl
   rcases h3 with h3|h3|h3
   ·exact absurd h3 (hnl x)
   ·exact absurd rfl (hnc _ (PySem.mem_of_lookup (show scope.names.lookup x=some .cell from h3)))
   ·obtain⟨c,u,a1,a2,a3⟩:=hv i x v h1 e2 h3;exact⟨u,a2,.inr ⟨.inr h3,c,a1,cat a3⟩⟩
  ·obtain⟨v,hcv⟩:=(hcl x c e).2;exact⟨v,cat hcv⟩
 refine W.kla_codeExpr (wpAny_mono (hpe (hr.deeper _) e0.hok [] _ (vs.map some) H Q I hq) (fun u s' h=>?_) fun e s' h=>h);obtain⟨v,H',J,rv,q⟩:=h;exact⟨v,H',J.os,J.bare,J.base,J.hok,rv,q⟩
end
end L3
namespace L3
open PySem PySem.Spec PySem.Calls PyProof.Rows L2
def Flat(H:Hp):Prop:=∀b,H b=none\/∃o u,H b=some (.frz o u)
def cxE(X:Cx)(xe:Value->Shared->Prop):Cx:={X with xe:=xe}
noncomputable def cxM(X:Cx)(e:Value)(xe:Value->Shared->Prop):Cx:={X with A:=X.A.mark (some e),calm:=false,xe:=xe}
section
variable {X:Cx}{pins:List (Addr×Obj)}{σ:L2.St}{H:Hp}{s:Shared}{e:Value}{xe:Value->Shared->Prop}
theorem JG(I:Inv X pins σ H s):Inv (cxE X xe) pins σ H s:=by obtain⟨⟨o1,o2,o3,o4,o5,o6,o7,o8,o9,o10,o11,o12,o13,o14,o15,o16,o17,o18⟩,i1,i2,i3,i4,i5,i6,i7,i8,i9,i10⟩:=I;exact⟨⟨o1,o2,o3,o4,o5,o6,o7,o8,o9,o10,o11,o12,o13,o14,o15,o16,o17,o18⟩,i1,i2,i3,i4,i5,i6,i7,i8,i9,i10⟩
theorem B3(I:Inv (cxE X xe) pins σ H s):Inv X pins σ H s:=by obtain⟨⟨o1,o2,o3,o4,o5,o6,o7,o8,o9,o10,o11,o12,o13,o14,o15,o16,o17,o18⟩,i1,i2,i3,i4,i5,i6,i7,i8,i9,i10⟩:=I;exact⟨⟨o1,o2,o3,o4,o5,o6,o7,o8,o9,o10,o11,o12,o13,o14,o15,o16,o17,o18⟩,i1,i2,i3,i4,i5,i6,i7,i8,i9,i10⟩
theorem CI(I:Inv X pins σ H s):Inv (cxM X e xe) pins σ H s:=by obtain⟨⟨o1,o2,o3,o4,o5,o6,o7,o8,o9,o10,o11,o12,o13,o14,o15,o16,o17,o18⟩,i1,i2,i3,i4,i5,i6,i7,i8,i9,i10⟩:=I;exact⟨⟨o1,o2,o3,o4,o5,o6,o7,o8,fun z=>(nomatch z),o10,o11,o12,o13,o14,o15,o16,o17,o18⟩,i1,i2,i3,i4,i5,i6,i7,i8,i9,i10⟩
theorem B2(ok:X.Ok)(I:Inv (cxM X e xe) pins σ H s):Inv X pins σ H s:=by obtain⟨_,i1,i2,i3,i4,i5,i6,i7,i8,i9,i10⟩:=I;exact⟨ok,i1,i2,i3,i4,i5,i6,i7,i8,i9,i10⟩
theorem yT(I:Inv X pins σ H s)(fl:Flat H){C ae:Addr}{a0:Value}{s2:Shared}(hf:Heap.FlyingW (g9 s.heap H (frs X.stack++[])) X.stack ae (.ref C) a0 s2.heap)
  (sl:∀b∈frs X.stack,∀o,s.heap.get? b=some o->∃sl,s2.heap.get? b=some {o with slots:=sl}) (os:s2.os=s.os) (bare:AllBare s2.gens):Inv X pins σ H s2:=by
 have st:∀b o,s.heap.get? b=some o->b∉frs X.stack->s2.heap.get? b=some o:=fun b o e hb=>hf.1 b o (gK e (by rcases fl b with q|⟨o,u,q⟩<;>rw[q]<;>rfl) (by rw[nJ];exact hb))
 have un:Un (frs X.stack) [] H H s.heap s2.heap:=
  ⟨fun b o e _ hb _=>st b o e hb,fun b o e _ hb _=>sl b hb o e,fun _ _ _ n _=>n,fun b o e _=>by
   by_cases hb:b∈frs X.stack
   ·obtain⟨sl,q⟩:=sl b hb o e;exact⟨_,q⟩
   ·exact⟨_,st b o e hb⟩,fun _ _ q=>q,fun _ _ _ q=>q,fun _ ps q=>⟨#[],by rw[q];simp⟩⟩
 refine I.CW os un (fun a o e=>?_) bare (fun b z=>(nomatch z));have na:a∉frs X.stack:=fun z=>by have:=I.w8 a z;rw[this]at e;cases e
 refine(I.hok a o e).mW (fun b u hb q=>?_) (fun b z=>z) (fun b xs z=>z);rcases hb with rfl|hb
 ·exact st b u q na
 ·rcases fl b with z|⟨_,_,z⟩<;>rw[z]at hb<;>cases hb
theorem rR{h:Heap}{l:List Env}{base h1 h2:Heap}(fr:h1.FunFrames base l)(sl:∀b∈frs l,∀o,h.get? b=some o->∃sl,h1.get? b=some {o with slots:=sl})(up:h1.UpToSlots h2):
  ∀b∈frs l,∀o,h.get? b=some o->∃sl,h2.get? b=some {o with slots:=sl}:=fun b hb o q=>by
 obtain⟨sl2,q2⟩:=sl b hb o q;obtain⟨o3,q3,nf⟩:=(fr.mem (b:=b) hb).2;rw[q2]at q3;cases q3;obtain⟨sl3,q4⟩:=up b _ q2 nf;exact⟨sl3,q4⟩
end
structure HD where
 x:Str
 C:Addr
 k:Int
 np:Pos
 p1:Pos
 p2:Pos
 p3:Pos
 p4:Pos
 pos:Pos
noncomputable def HD.st(d:HD):Stmt:=.Return (some (.List [.UnaryOp .USub (.Constant (.int d.k) 0 d.p1) d.p2] d.p3)) d.p4
def HD.h(d:HD):ExceptHandler:=.ExceptHandler (some (.Name d.x d.np)) none [d.st] d.pos
noncomputable def gV(base:Heap)(C:Addr):Prop:=∃(nm q:Str)(N:Addr)(bs bm:List Value)(hdct:Bool)(sn:List Str)(sub:List Value)(ab:Bool)(col:Option Bool)(dd:Option Addr)(k0 k1 k2 k3 k5:Option Value)(newId:String),
 base.get? C=some (excClassObj nm q C N bs bm hdct sn sub ab col dd k0 k1 k2 k3 k5 newId)/\bm.contains (.type "BaseException")=true/\∀D,bm.contains (.ref D)=false
structure W8(X:Cx)(d:HD):Prop where
 bound:X.mg d.x=some (.ref d.C)
 gl:Gl X d.x
 cl:gV X.base d.C
 nd:(d.x==("__debug__" : Str))=false
section
variable {X:Cx}{pins:List (Addr×Obj)}{σ:L2.St}{H:Hp}{s:Shared}{e C:Addr}{Q:Flow->Shared->Prop}{E:Value->Shared->Prop}
theorem qN(I:Inv X pins σ H s)(hx:gV X.base C)(he:∃oe,s.heap.get? e=some oe/\oe.cls=.ref C):
  ∀(l:List HD),(∀d∈l,W8 X d)->(∃d∈l,d.C=C) ->
   (∀d∈l,d.C=C->∀E',wpAny (model X.prog X.w) (X.A.mark (some (.ref e))) (setFlight (.ref e) none) (fun _ s1=>wpAny (model X.prog X.w) (X.A.mark (some (.ref e))) (execs [d.st] X.env) Q E' s1) E' s) ->
   wpAny (model X.prog X.w) X.A (handleBy (.ref e) X.env (l.map HD.h)) Q E s
 |[],_,hex,_=>by obtain⟨d,hd,_⟩:=hex;exact(nomatch hd)
 |d::r,hok,hex,hit=>by
  have ih:=qN I hx he r (fun d hd=>hok d (List.mem_cons_of_mem _ hd));obtain⟨oe,heo,hcls⟩:=he;have D:=hok d List.mem_cons_self;obtain⟨nm,q,N,bs,bm,hdct,sn,sub,ab,col,dd,k0,k1,k2,k3,k5,newId,hC,hb,hn⟩:=hx;obtain⟨nm',q',N',bs',bm',hdct',sn',sub',ab',col',dd',l0,l1,l2,l3,l5,newId',hC',hb',hn'⟩:=D.cl;refine wpAny_handleBy_cons (codeAny_handlers_test (jC (CI (e:=.ref e) (xe:=fun _ _=>False) I) D.gl D.bound ?_ D.nd)) (by intro q;cases q);by_cases hdc:d.C=C
  ·have hC2:=I.bk _ _ hC';have hc2:oe.cls=.ref d.C:=by rw[hcls,hdc]
   exact wpAny_excMatches_sub_self (h:=s.heap) (g:=s.gens) hC2 heo hc2 hb' (codeAny_handlers_suite (hit d List.mem_cons_self hdc _))
  ·refine tV (h:=s.heap) (g:=s.gens) (I.bk _ _ hC) (I.bk _ _ hC') heo hcls hb' ?_ ?_
   ·rw[List.contains_cons,hn];simp[hdc]
   ·refine ih ?_ fun d hd=>hit d (List.mem_cons_of_mem _ hd)
    obtain⟨d2,h2,h3⟩:=hex;rcases List.mem_cons.mp h2 with rfl|h2
    ·exact absurd h3 hdc
    ·exact⟨d2,h2,h3⟩
end
section
variable {P:Program}{w:World}{K:W.Frag}{mg:Str->Option Value}{base:Heap}
theorem K1{k:Nat}{f fl:Addr}{name qual:Str}{params:Arguments}{body:List Stmt}{scope:Scope}{dV kV doc pm cdv ct oc:Value}{an od:Option Addr}{osl:Array (Option Value)}{A:Around}{outer:List Env}{s:Shared}{H:Hp}{Q:VK}{E:XK}{l:List HD}{d0:HD}{r0:List HD}{p1 p2 p3 p4:Pos}
  (lk:K.lookup f=some ⟨oc,od,.func (W.fnOf name qual params body scope dV kV doc pm an cdv ct),osl⟩) (hcd:W.codeIn K cdv qual=true) (S:aK ["tell"] ["tell"] scope) (hloc:scope.names.lookup ("tell" : Str)=some NameKind.local)
  (hbody:body=[.Try [.Return (some (.Call (.Name "tell" p1) [] [] p2)) p3] (l.map HD.h) [] [] p4]) (hl:l=d0::r0)
  (hr:cQ (k+1) A) (e0:oI P w K mg base A outer s H) (hb:BindsTo s (W.fnOf name qual params body scope dV kV doc pm an cdv ct) ⟨[.ref fl],[]⟩ ([("tell" : Str)].zip [.ref fl])) (flat:Flat H)
  (hd:∀d∈l,mg d.x=some (.ref d.C)/\scope.names.lookup d.x=some .globalImplicit/\gV base d.C/\(d.x==("__debug__" : Str))=false)
  (hfl:W.FnAt fl s.heap) (hH:H fl=none) (hno:fl∉frs outer)
  (hcall:∀(A1:Around)(outer1:List Env)(s1:Shared),cQ k A1->oI P w K mg base A1 outer1 s1 H->(∀b o,s.heap.get? b=some o->H b=none->b∉frs outer->s1.heap.get? b=some o) ->
   codeAny (model P w) A1 (.call (.ref fl) ⟨[],[]⟩) (CR CXf outer1 P w H s1 Q (fun c _ _=>∃C,c=.ref C/\(∃d∈l,d.C=C)/\∀d∈l,d.C=C->∀p,H p=none->Q (.ref p) (upd H p (.lst [.int (-d.k)])))) s1):
  codeAny (model P w) A (.call (.ref f) ⟨[.ref fl],[]⟩) (CR CXf outer P w H s Q E) s:=by
 have KX:K.In s.heap:=e0.mod.kin.keeps fun b o e=>(e0.bs b o e).1
 have lim:s.heap.NoLimit:=e0.mod.nolimit.keeps fun b o e=>(e0.bs b o e).1
 have hkind:∀y∈[("tell" : Str)].zip [Value.ref fl],scope.names.lookup y.1=some .local\/(scope.names.lookup y.1=some .cell/\((cellsFrom (s.heap.objs.size+1) scope.names []).lookup y.1).isSome=true):=fun⟨n,v⟩ hy=>by
  rcases S.par n (List.of_mem_zip hy).1 with q|q
  ·exact .inl q
  ·exact .inr ⟨q,W.cellsFrom_some _ _ _ (.inl q)⟩
 refine codeAny_call_function hr.depth (KX _ _ lk) rfl S.co S.gen rfl (W.codeRec_of KX hcd) (hb _ _ _ _ ?_);refine wpAny_newFunctionEnv_cells S.kind hkind fun env he s1 x=>?_
 subst he;refine⟨lim.keeps x.toInCall.keep,codeAny_func ?_⟩;have I:Inv (cxF P w K mg base ["tell"] qual scope f cdv A outer s H E) [] (start ["tell"] [.ref fl]) H s1:=pI S hr.hd e0 rfl (.cons rfl .nil) x;have hrd:=hr.deeper (envOfC qual scope s.heap.objs.size f cdv);let X:=cxF P w K mg base ["tell"] qual scope f cdv A outer s H E
 have main:wpAny (model P w) X.A (execs body X.env) (SP X [] {nx:=fun _ _=>False,rt:=Q}) X.xe s1:=by
  rw[hbody,hl];have after:∀(f:Flow)(s1:Shared),SP X [] {nx:=fun _ _=>False,rt:=Q} f s1->(match f with| .next=>wpAny (model P w) X.A (execs [] X.env) (SP X [] {nx:=fun _ _=>False,rt:=Q}) X.xe s1|f=>SP X [] {nx:=fun _ _=>False,rt:=Q} f s1):=fun f s1 q=>by
   cases f with
   |next=>exact wpAny_execs_nil q
   |ret v=>exact q
   |brk=>exact q
   |cont=>exact q
  refine wpAny_execs_cons (wpAny_mono (wpAny_Try_except (Q:=SP X [] {nx:=fun _ _=>False,rt:=Q}) ?_) after fun _ _ q=>q);have hv:∀E',wpAny (model P w) X.A (eval (.Name "tell" p1) X.env) (EP (cxE X E') [] (start ["tell"] [.ref fl]) (fun v H'=>v=V.ref fl/\H'=H)) E' s1:=fun E'=>
   G3 (X:=cxE X E') (i:=0) rfl (.inl hloc) (by decide) (by decide) [] s1 _ H (fun v H'=>v=V.ref fl/\H'=H) (JG I) ⟨.ref fl,rfl,rfl,rfl⟩
  refine wpAny_execs_cons (wpAny_Return_some (wpAny_Call_Name_kw (thn (hv _) fun u s2 hu=>?_)));obtain⟨v,H',J,rv,rfl,rfl⟩:=hu;obtain rfl:u=.ref fl:=rv;have J:=B3 J;have kp:∀b o,s.heap.get? b=some o->H' b=none->b∉frs outer->s2.heap.get? b=some o:=fun b o e1 e2 e3=>J.base.keep b o e1 e2 e3 (by intro z;exact(nomatch z))
  have fn2:W.FnAt fl s2.heap:=by obtain⟨a1,a2,a3,a4,a5⟩:=hfl;exact⟨a1,a2,a3,a4,kp _ _ a5 hH hno⟩
  refine W.callWith_F0 fn2 (wpAny_call (codeAny_mono (hcall _ _ s2 hrd J.HL kp) fun r s' hq=>?_));cases r with
  |ok f1=>
   cases f1 with
   |ret u=>obtain⟨v,H3,J3,rv3,q3⟩:=J.after hq;exact⟨v,_,H3,J3,rv3,q3⟩
   |next=>exact False.elim hq
   |brk=>exact False.elim hq
   |cont=>exact False.elim hq
  |error e=>
   obtain⟨ae,C,rfl,⟨⟨a0,fly⟩,sl,os,bare⟩,C2,hc2,hex,hE⟩:=hq;cases hc2;refine wpAny_looks_onW J.ok.frames rfl fly fun h4 held up4=>?_
   refine wpAny_landsW held fun h5 fly5 up5=>?_
   have sl4:=rR fly.2.2.1 sl up4;have sl5:=rR held.2.2.1 sl4 up5;have J5:Inv (cxF P w K mg base ["tell"] qual scope f cdv A outer s H' E) [] _ H' {s' with heap:=h5}:=yT J flat fly5 sl5 os bare;have hx:gV base C:=by obtain⟨d,h1,rfl⟩:=hex;exact(hd d h1).2.2.1
   have hea:∃oe,h5.get? ae=some oe/\oe.cls=.ref C:=by obtain⟨oe,ws,a1,a2,_⟩:=fly5.first;exact⟨oe,a1,a2⟩
   rw[<- List.map_cons (f:=HD.h),<- hl];refine qN (X:=cxF P w K mg base ["tell"] qual scope f cdv A outer s H' E) J5 hx hea l (fun d h1=>⟨(hd d h1).1,(hd d h1).2.1,(hd d h1).2.2.1,(hd d h1).2.2.2⟩) hex fun d h1 h2 E'=>?_
   refine lands_againW fly5 fun h6 fly6 up6=>?_
   have sl6:=rR fly5.2.2.1 sl5 up6;have J6:Inv (cxF P w K mg base ["tell"] qual scope f cdv A outer s H' E) [] _ H' {s' with heap:=h6}:=yT J flat fly6 sl6 os bare;have hrun:=aD (X:=cxM (cxF P w K mg base ["tell"] qual scope f cdv A outer s H' E) (.ref ae) fun _ _=>False) (aR (pos:=d.p4) (fE (pos:=d.p3) (a8 (K6 (pos:=d.p2) FI (aN (i:=d.k) (j:=0) (pos:=d.p1))) aC)))
    [] _ _ H' {nx:=fun _ _=>False,rt:=Q} (CI J6) ⟨d.k,rfl,(by show 1<=sizeLine;decide),fun p hp=>hE d h1 h2 p hp⟩
   refine wpAny_mono hrun (fun f s3 q=>?_) fun _ _ q=>q.elim
   cases f with
   |next=>obtain⟨_,_,_,q⟩:=q;exact q.elim
   |brk=>obtain⟨_,_,_,q⟩:=q;exact q.elim
   |cont=>obtain⟨_,_,_,q⟩:=q;exact q.elim
   |ret u=>obtain⟨v,σ',H3,J3,rv3,q3⟩:=q;exact⟨v,σ',H3,B2 J6.ok J3,rv3,q3⟩
 refine wpAny_mono main (fun fl s' hs=>?_) fun e s' hs=>hs
 cases fl with
 |ret u=>obtain⟨v,σ',H',J,rv,q⟩:=hs;exact⟨v,H',J.os,J.bare,J.base,J.hok,rv,q⟩
 |next=>obtain⟨_,_,_,q⟩:=hs;exact False.elim q
 |brk=>obtain⟨_,_,_,q⟩:=hs;exact False.elim q
 |cont=>obtain⟨_,_,_,q⟩:=hs;exact False.elim q
end
end L3
namespace L3
open PySem PySem.Spec PySem.Calls PyProof.Rows L2
noncomputable def MC(mg:Str->Option Value)(h:Heap):Prop:=∃bm ob,mg "__builtins__" =some (.ref bm)/\bm≠builtinsNs/\bm≠mainGlobals/\h.get? bm=some ob/\ob.cls=.type "module" /\ob.dict=some builtinsNs/\ob.data=.plain
noncomputable def XA(l:List HD)(H:Hp)(Q:VK):XK:=fun c _ _=>∃C,c=.ref C/\(∃d∈l,d.C=C)/\∀d∈l,d.C=C->∀p,H p=none->Q (.ref p) (upd H p (.lst [.int (-d.k)]))
def hT(H:Hp)(T:Addr)(ps:Array Value):Hp:=upd H T (.frz (W.tabObj ps) (.tbl ps))
noncomputable def RS(T:Addr)(l:List HD)(pos:Pos)(teL:XK->Hp->TE):TE:=fun σ H Q=>∃(vs:List V)(ps:Array Value),σ=vs.map some/\H T=some (.tbl ps)/\TriplesOk ps.toList/\codeAmong pos ps.toList=none/\
 (∀b,b≠T->H b=none\/∃o u,H b=some (.frz o u))/\∀more,teL (XA l (hT H T (ps++more)) (fun v H3=>H3 T=some (.frz (W.tabObj (ps++more)) (.tbl (ps++more)))->Q v (upd H3 T (.tbl (ps++more))))) (hT H T (ps++more)) (vs.map some) (hT H T (ps++more))
  (fun v H3=>H3 T=some (.frz (W.tabObj (ps++more)) (.tbl (ps++more)))->Q v (upd H3 T (.tbl (ps++more))))
section
variable {X:Cx}
theorem M7{cells:List (Str×Addr)}{names:List (Str×NameKind)}(hf:∀y∈names,y.2=.free->∃c,cells.lookup y.1=some c){x:Str}{c:Addr}(h:(bH cells names []).lookup x=some c):(x,NameKind.free)∈names/\cells.lookup x=some c:=by
 rcases fS (PySem.mem_of_lookup h)with h|⟨h1,h2⟩
 ·exact(nomatch h)
 ·obtain⟨c2,h3⟩:=hf _ h1 rfl;have h3:cells.lookup x=some c2:=h3;rw[h3]at h2;exact⟨h1,by rw[h3,h2];rfl⟩
theorem CV{cells:List (Str×Addr)}{names:List (Str×NameKind)}{x:Str}(h:names.lookup x=some .free):∃c,(bH cells names []).lookup x=some c:=mem_lookup (hO (PySem.mem_of_lookup h))
theorem L9{k:Nat}{x:Str}{f:Addr}{name qual:Str}{params:Arguments}{body:List Stmt}{scope:Scope}{dV kV doc pm cdv ct oc:Value}{an od:Option Addr}{osl:Array (Option Value)}{l:List HD}{d0:HD}{r0:List HD}{p1 p2 p3 p4 p posC pos:Pos}
  {paramsL:Arguments}{bodyL:Expr}{scopeL:Scope}{c T:Addr}{teL:XK->Hp->TE}
  (hm:X.mg x=some (.ref f)) (lk:X.K.lookup f=some ⟨oc,od,.func (W.fnOf name qual params body scope dV kV doc pm an cdv ct),osl⟩) (hcd:W.codeIn X.K cdv qual=true) (hkp:W.keepIn X.K (.ref f)=true)
  (hb:Binds X.K (W.fnOf name qual params body scope dV kV doc pm an cdv ct) ["tell"] []) (S:aK ["tell"] ["tell"] scope) (hloc:scope.names.lookup ("tell" : Str)=some NameKind.local)
  (hbody:body=[.Try [.Return (some (.Call (.Name "tell" p1) [] [] p2)) p3] (l.map HD.h) [] [] p4]) (hl:l=d0::r0)
  (hd:∀d∈l,X.mg d.x=some (.ref d.C)/\scope.names.lookup d.x=some .globalImplicit/\gV X.base d.C/\(d.x==("__debug__" : Str))=false)
  (hg:Gl X x) (hdb:(x==("__debug__" : Str))=false) (hr:cQ (k+2) X.A) (hfn:∀y,X.fn y=true)
  (hcode:X.env.code=.ref c) (hC:W.CodeHd X.base c T) (hbm:MC X.mg X.base)
  (hdef:defaultsOf paramsL X.env=([],[])) (hbind:∀(cl:List (Str×Addr))(pm cd ct:Value),bindArgs (W.kla_fn "<lambda>" (X.env.qual++ "<lambda>") paramsL bodyL scopeL cl pm cd ct) ⟨[],[]⟩=pure [])
  (hkL:scopeL.kind=.function) (hcoL:scopeL.isCoroutine=false) (hgenL:scopeL.isGenerator=false) (hncL:∀y∈scopeL.names,y.2≠ .cell) (hnlL:∀y,scopeL.names.lookup y≠some .local)
  (hfr:∀y∈scopeL.names,y.2=.free->X.env.kindOf y.1=some .cell)
  (hpe:∀(fl c':Addr)(cl:List (Str×Addr))(A:Around)(outer:List Env)(s:Shared)(H:Hp)(E:XK),cQ k (A.deeper (W.envX (X.env.qual++ "<lambda>") scopeL s.heap.objs.size fl (.ref c') cl))->HOk X.prog X.w H s.heap ->
   PE (cxL X.prog X.w X.K X.mg X.base X.N (X.env.qual++ "<lambda>") scopeL fl (.ref c') cl A outer s H E) bodyL (teL E H))
  (hst:starEach [.Lambda paramsL bodyL scopeL pos] X.env=(false,eval (.Lambda paramsL bodyL scopeL pos) X.env)::starEach [] X.env:=by rfl):
  PE X (.Call (.Name x p) [.Lambda paramsL bodyL scopeL pos] [] posC) (RS T l pos teL):=by
 intro pins s σ H Q I h;obtain⟨vs,ps,rfl,hT0,htri,hnf,hflat,hL⟩:=h;have hfree:∀y∈scopeL.names,y.2=.free->∃c,X.env.cells.lookup y.1=some c:=fun y hy e=>I.ok.has _ (.inl (hfr y hy e))
 have baseT:X.base.get? T=none:=by
  cases q:X.base.get? T with
  |none=>rfl
  |some o=>have:=(I.bs T o q).2;rw[hT0]at this;cases this
 have hPt:s.heap.get? T=some (W.tabObj ps):=I.hok T _ hT0;have hgs:=I.ok.mod.glob;have hgP:mainGlobals≠T:=fun q=>by obtain⟨o,es,ep,e,_⟩:=hgs;rw[q,baseT]at e;cases e
 have hbmT:s.heap.BuiltinsAt X.mg T:=by obtain⟨bm,ob,b1,b2,b3,b4,b5,b6,b7⟩:=hbm;exact⟨bm,ob,b1,b2,b3,(fun q=>by rw[q,baseT]at b4;cases b4),I.bk _ _ b4,b5,b6,b7⟩
 refine wpAny_Call_Name_kw (jC I hg hm ?_ hdb);refine W.callWith_K (h₀:=X.base) I.ok.mod.kin hkp ?_ hst rfl;rw[hst];show wpAny _ _ (spliced ((false,eval (.Lambda paramsL bodyL scopeL pos) X.env)::backTo posC (starEach [] X.env))) _ _ s
 refine Calls.spliced_cons (W.kla_eval hdef (W.kla_makeFunction (mM hfree) I.ok.glob (hgs.keeps I.bk) hcode (hC.keeps I.bk) hPt htri hnf hgP hbmT fun c' ctv h' tk hx hge hlt hrec htab=>Calls.spliced_nil ?_));generalize hcl:bH X.env.cells scopeL.names []=cl;generalize hps:ps++#[rawInt pos.line,rawInt pos.col,Value.ref c']=ps' at htab;generalize hs2:({s with heap:=h'.push (W.kla_obj "<lambda>" (X.env.qual++ "<lambda>") paramsL bodyL scopeL cl ((X.mg "__name__").getD .none) c' ctv),toks:=tk}:Shared)=s2;have e2:s2.heap=h'.push (W.kla_obj "<lambda>" (X.env.qual++ "<lambda>") paramsL bodyL scopeL cl ((X.mg "__name__").getD .none) c' ctv):=by rw[<- hs2]
 have kp:∀b o,b≠T->s.heap.get? b=some o->s2.heap.get? b=some o:=fun b o n e=>by rw[e2];exact Heap.get?_push_of_some _ (hx b o n e)
 have tab2:s2.heap.get? T=some (W.tabObj ps'):=by rw[e2];exact Heap.get?_push_of_some _ htab
 have szT:T<s.heap.objs.size:=Heap.lt_size hPt;have nT:∀b u,H b=some u->(∀q,u≠ .tbl q)->b≠T:=fun b u e n z=>by rw[z,hT0]at e;cases e;exact n _ rfl
 have un1:Un X.fs [] H (upd H T (.tbl ps')) s.heap s2.heap:=
  ⟨fun b o e n _ _=>kp b o (fun z=>by rw[z,hT0]at n;cases n) e,fun b o e n _ _=>⟨o.slots,kp b o (fun z=>by rw[z,hT0]at n;cases n) e⟩,
   fun b o e n _=>by rw[aA (fun z=>by rw[z,hT0]at n;cases n)];exact n,
   fun b o e _=>by
    by_cases z:b=T
    ·exact⟨_,z▸tab2⟩
    ·exact⟨_,kp b o z e⟩,
   fun b xs e=>by rw[aA (nT b _ e fun q z=>nomatch z)];exact e,fun b o u e=>by rw[aA (nT b _ e fun q z=>nomatch z)];exact e,
   fun b q e=>by
    by_cases z:b=T
    ·rw[z,hT0]at e;cases e;exact⟨_,by rw[z,a7,<- hps]⟩
    ·exact⟨#[],by rw[aA z,e];simp⟩⟩
 have hokAt:∀(H':Hp),(∀b,b≠T->H' b=H b)->∀a o,a≠T->H' a=some o->d6 X.prog X.w H' s2.heap a o:=fun H' he a o na e=>by
  rw[he a na]at e;refine(I.hok a o e).mW (fun b u hb q=>?_) (fun b z=>?_) (fun b xs z=>?_)
  ·refine kp b u ?_ q;rcases hb with rfl|hb
   ·exact na
   ·exact nT b _ hb fun q z=>nomatch z
  ·rw[he b (nT b _ z fun q z=>nomatch z)];exact z
  ·rw[he b (nT b _ z fun q z=>nomatch z)];exact z
 have hok1:HOk X.prog X.w (upd H T (.tbl ps')) s2.heap:=fun a o e=>by
  by_cases z:a=T
  ·rw[z,a7]at e;cases e;subst z;exact tab2
  ·exact hokAt _ (fun b n=>aA n) a o z e
 have I2:Inv X pins (vs.map some) (upd H T (.tbl ps')) s2:=by have:=I.un (t':=tk) (h':=s2.heap) un1 hok1;rw[<- hs2]at this ⊢;exact this
 have hok2:HOk X.prog X.w (hT H T ps') s2.heap:=fun a o e=>by
  by_cases z:a=T
  ·unfold hT at e;rw[z,a7]at e;cases e;subst z;exact⟨tab2,tab2⟩
  ·exact hokAt _ (fun b n=>aA n) a o z e
 have hT_ne:∀b,b≠T->hT H T ps' b=upd H T (.tbl ps') b:=fun b n=>by unfold hT;rw[aA n,aA n]
 have none_ne:∀b,upd H T (.tbl ps') b=none->b≠T:=fun b e z=>by rw[z,a7]at e;cases e
 have E0:oI X.prog X.w X.K X.mg X.base X.A X.stack s2 (hT H T ps'):=by have e:=I2.HL;exact⟨e.frames,e.mod,fun b o q=>⟨(e.bs b o q).1,by rw[hT_ne b (none_ne b (e.bs b o q).2)];exact(e.bs b o q).2⟩,e.bsz,e.kJ,fun b hb=>by rw[hT_ne b (none_ne b (e.frf b hb))];exact e.frf b hb,hok2,e.bare⟩
 refine⟨I2.kIn,?_⟩;have flat2:Flat (hT H T ps'):=fun b=>by
  by_cases z:b=T
  ·exact .inr ⟨_,_,by unfold hT;rw[z,a7]⟩
  ·rw[hT_ne b z,aA z];exact hflat b z
 have newfree:∀b,s.heap.objs.size<=b->hT H T ps' b=none:=fun b hb=>by
  have n:b≠T:=fun z=>absurd szT (by rw[<- z];exact Nat.not_lt.mpr hb)
  rw[hT_ne b n,aA n];exact I.hok.fresh hb
 have newfr:∀b,s.heap.objs.size<=b->b∉frs X.stack:=fun b hb z=>by obtain⟨_,o,ho,_⟩:=I.stack.mem z;exact absurd (Heap.lt_size ho) (Nat.not_lt.mpr hb)
 have hfls:s.heap.objs.size<=h'.objs.size:=Nat.le_of_lt (Nat.lt_of_le_of_lt hge hlt);have flo:s2.heap.get? h'.objs.size=some (W.kla_obj "<lambda>" (X.env.qual++ "<lambda>") paramsL bodyL scopeL cl ((X.mg "__name__").getD .none) c' ctv):=by rw[e2];exact Heap.get?_push_size _ rfl
 have cellno:∀y c,X.env.cells.lookup y=some c->c∉frs X.stack:=fun y c hy z=>by
  rcases List.mem_cons.mp (I2.rP c z)with q|q
  ·exact I2.cne y c hy q
  ·obtain⟨_,o,ho,_⟩:=I2.ok.kJ.mem q;exact absurd (Heap.lt_size ho) (Nat.not_lt.mpr (I2.ok.cab y c (hfn y) hy))
 have cellfree:∀y c,X.env.cells.lookup y=some c->hT H T ps' c=none:=fun y c hy=>by have q:=I2.gY y c hy;rw[hT_ne c (none_ne c q)];exact q
 have run:=K1 (fl:=h'.objs.size) (E:=fun _ _ _=>False) (k:=k+1) lk hcd S hloc hbody hl hr E0 (hb s2 [.ref h'.objs.size] I2.kIn rfl) flat2 hd ⟨_,_,_,_,flo⟩ (newfree _ hfls) (newfr _ hfls)
  (Q:=fun v H3=>H3 T=some (.frz (W.tabObj ps') (.tbl ps'))->Q v (upd H3 T (.tbl ps'))) fun A1 outer1 s1 hr1 e1 kp1=>?_
 ·refine wpAny_call (codeAny_mono run fun r s3 hq=>?_);cases r with
  |error e=>obtain⟨_,_,_,_,z⟩:=hq;exact z.elim
  |ok fl=>
   cases fl with
   |next=>exact False.elim hq
   |brk=>exact False.elim hq
   |cont=>exact False.elim hq
   |ret u=>
    obtain⟨v,H3,os,bare,un,hok3,rv,q⟩:=hq;have h3T:H3 T=some (.frz (W.tabObj ps') (.tbl ps')):=un.nR T _ _ (by unfold hT;rw[a7]);have n3:∀b u,H3 b=some u->(∀o q,u≠ .frz o q)->b≠T:=fun b u e n z=>by rw[z,h3T]at e;cases e;exact n _ _ rfl
    have fr2:∀b,upd H T (.tbl ps') b=none->hT H T ps' b=none:=fun b e=>by rw[hT_ne b (none_ne b e)];exact e
    have un4:Un (frs X.stack) [] (upd H T (.tbl ps')) (upd H3 T (.tbl ps')) s2.heap s3.heap:=
     ⟨fun b o e n hb hx=>un.keep b o e (fr2 b n) hb hx,fun b o e n hb hx=>un.slot b o e (fr2 b n) hb hx,fun b o e n hx=>by rw[aA (none_ne b n)];exact un.free b o e (fr2 b n) hx,un.there,
      fun b xs e=>by
       have n:b≠T:=fun z=>by rw[z,a7]at e;cases e
       rw[aA n];exact un.tQ b xs (by rw[hT_ne b n];exact e),
      fun b o u e=>by
       have n:b≠T:=fun z=>by rw[z,a7]at e;cases e
       rw[aA n];exact un.nR b o u (by rw[hT_ne b n];exact e),
      fun b q e=>by
       by_cases z:b=T
       ·rw[z,a7]at e;cases e;exact⟨#[],by rw[z,a7];simp⟩
       ·rw[aA z];exact un.rM b q (by rw[hT_ne b z];exact e)⟩
    have hok4:HOk X.prog X.w (upd H3 T (.tbl ps')) s3.heap:=fun a o e=>by
     by_cases z:a=T
     ·rw[z,a7]at e;cases e;subst z;exact(hok3 a _ h3T).1
     ·rw[aA z]at e;refine(hok3 a o e).mW (fun b u _ q=>q) (fun b z=>?_) (fun b xs z=>?_)
      ·rw[aA (n3 b _ z fun _ _ z=>nomatch z)];exact z
      ·rw[aA (n3 b _ z fun _ _ z=>nomatch z)];exact z
    exact⟨v,upd H3 T (.tbl ps'),I2.CW os un4 hok4 bare (fun b z=>(nomatch z)),rv,q h3T⟩
 ·have c1:∀y c,cl.lookup y=some c->X.env.cells.lookup y=some c:=fun y c e=>by rw[<- hcl]at e;exact(M7 hfree e).2
  have cat:∀y c v,X.env.cells.lookup y=some c->s2.heap.IsCell c v->s1.heap.IsCell c v:=fun y c v hy ⟨o,e,q⟩=>⟨o,kp1 _ _ e (cellfree y c hy) (cellno y c hy),q⟩
  have hlen:vs.length=X.N.length:=by have:=I.len;rw[List.length_map]at this;exact this
  refine JC (k:=k) (te:=teL (XA l (hT H T ps') fun v H3=>H3 T=some (.frz (W.tabObj ps') (.tbl ps'))->Q v (upd H3 T (.tbl ps'))) (hT H T ps')) (vs:=vs) (N:=X.N) hr1 e1 (kp1 _ _ flo (newfree _ hfls) (newfr _ hfls)) ?_ (hbind _ _ _ _) hkL hcoL hgenL hncL hnlL hlen ?_ ?_ ?_ ?_ (fun a b=>hpe _ _ _ _ _ _ _ _ a b) (by rw[<- hps];exact hL _)
  ·obtain⟨c3,oc3,vs3,t3,h1,h2,h3,h4⟩:=hrec;cases h1;exact⟨c',oc3,vs3,t3,rfl,kp1 _ _ (by rw[e2];exact Heap.get?_push_of_some _ h2) (newfree _ hge) (newfr _ hge),h3,h4⟩
  ·intro y z c h1 h2;exact I.ok.inj y z c (c1 y c h1) (c1 z c h2)
  ·intro y hy;rw[<- hcl];exact CV hy
  ·intro y c h1;have h2:=c1 y c h1;obtain⟨v,h3⟩:=I2.cell y c h2;exact⟨cellfree y c h2,v,cat y c v h2 h3⟩
  ·intro i y v h1 h2 h3;have hk:=hfr _ (PySem.mem_of_lookup h3) rfl;obtain⟨m,_,hlk⟩:=I2.loc;obtain⟨u,ru,lku⟩:=hlk i y v h1 (by rw[List.getElem?_map,h2];rfl) (.inr (.inl hk));obtain⟨c,hc⟩:=CV (cells:=X.env.cells) h3;rw[hcl]at hc;refine⟨c,u,hc,ru,?_⟩;rcases lku with⟨hk2,_⟩|⟨_,c2,hc2,hcell⟩
   ·rw[show X.env.kindOf y=some .cell from hk]at hk2;cases hk2
   ·have:=c1 y c hc;rw[this]at hc2;cases hc2;exact cat y c _ this hcell
end
end L3
namespace L3
open PySem PySem.Spec PySem.Calls PyProof.Rows L2
theorem uE{P:Params}{h:Heap}:∀{vs:List Value}{ns:List Int},W.WellAll P h vs (ns.map W.WData.int)->IntsAre vs ns
 |vs,[],h=>by cases h;exact .nil
 |vs,n::ns,h=>by
  cases h with
  |cons h r=>cases h with
   |int i t=>exact .cons n t (uE r)
theorem vF:∀{vs:List Value}{ns ms:List Int},IntsAre vs ns->IntsAre vs ms->ns=ms
 |_,_,_,.nil,h=>by cases h;rfl
 |_,_,_,.cons n t h,g=>by
  cases g with
  |cons m u g=>rw[vF h g]
theorem sC{R:W.WRecords}{cl:Str->Option Addr}{h:Heap}:∀{ns:List Int}{its:List Value},Vals (ns.map V.int) its->W.ReadsAllW R cl h its (ns.map W.WData.int) []
 |[],_,.nil=>.nil
 |n::ns,_,.cons ⟨t,e⟩ r=>by subst e;exact .cons (as:=[]) (.int n t) (sC r)
noncomputable def xD(tb:Addr)(H:Hp):Prop:=H tb=some (.tbl #[])/\∀b,b≠tb->H b=none\/∃o u,H b=some (.frz o u)
abbrev GK(vs:List Value):Obj:={cls:=.type "list",data:=.seq vs.toArray}
noncomputable def wY(K:W.Frag)(tb:Addr)(LA:List (Addr×List Value×List Int)):Hp:=fun b=>if b=tb then some (.tbl #[])else
 match K.lookup b with
 |some _=>none
 |none=>(LA.lookup b).map fun p=>.frz (GK p.1) (.lst (p.2.map V.int))
theorem E8{P:Program}{w:World}{K:W.Frag}{mg mb:Str->Option Value}{k:Nat}{fa tb:Addr}{fd:FuncData}{ps:List Str}{sp:Sp}{s1:Shared}{vals:List Value}{vs:List V}{LA:List (Addr×List Value×List Int)}{R:List Int->Prop}
  (KX:K.In s1.heap) (hns:s1.heap.Ns mainGlobals mg) (hb:s1.heap.Ns builtinsNs mb) (hbb:∀x:Str,x≠ "__name__" ->mb x=bootBuiltins x) (hlim:s1.heap.NoLimit) (hg:s1.gens=#[])
  (hLA:∀p∈LA,s1.heap.get? p.1=some (GK p.2.1)/\IntsAre p.2.1 p.2.2/\p.2.2.length<=sizeLine)
  (htab:s1.heap.get? tb=some (W.tabObj #[])) (hct:isCodeTable s1.heap tb) (hKt:K.lookup tb=none) (hr:cQ k callerA) (rv:Vals vs vals)
  (F:∀base:Heap,Mod K mg base->(∀b o,s1.heap.get? b=some o->o.cls≠ .type "list" ->b≠tb->base.get? b=some o)->bK P w K mg base CXf k fa fd ps sp)
  (hbind:BindsTo s1 fd ⟨vals,[]⟩ (ps.zip vals))
  (hsp:∀H:Hp,xD tb H->(∀p∈LA,SqL K H p.1 (p.2.2.map V.int))->sp vs H (fun v H'=>∃p ns,v=.ref p/\H' p=some (.lst (ns.map V.int))/\R ns) fun _ _ _=>False):
  codeAny (model P w) callerA (.call (.ref fa) ⟨vals,[]⟩) (fun r s'=>(∃p its n ns,r=.ok (.ret (.ref p))/\s'.heap.get? p=some {cls:=.type "list",data:=.seq (List.toArray its) n}/\Vals (ns.map V.int) its/\R ns)/\OldK s1.heap s'.heap/\s'.os=s1.os/\AllBare s'.gens) s1:=by
 have find:∀{b:Addr}{x:List Value×List Int},LA.lookup b=some x->(b,x)∈LA:=fun{b x} e=>by
  have:∀l:List (Addr×List Value×List Int),l.lookup b=some x->(b,x)∈l:=by
   intro l;induction l with
   |nil=>intro e;cases e
   |cons y r ih=>
    intro e;rw[List.lookup_cons]at e;cases q:b==y.1 with
    |true=>rw[q]at e;cases e;rw[eq_of_beq q];exact List.mem_cons_self
    |false=>rw[q]at e;exact List.mem_cons_of_mem _ (ih e)
  exact this LA e
 generalize hH:wY K tb LA=H;have Htb:H tb=some (.tbl #[]):=by rw[<- hH];unfold wY;rw[if_pos rfl]
 have cases_H:∀b,b≠tb->H b=none\/∃x,K.lookup b=none/\(b,x)∈LA/\H b=some (.frz (GK x.1) (.lst (x.2.map V.int))):=fun b n=>by
  rw[<- hH];unfold wY;rw[if_neg n];cases e:K.lookup b with
  |some o=>exact .inl rfl
  |none=>
   cases q:LA.lookup b with
   |none=>exact .inl rfl
   |some x=>exact .inr ⟨x,rfl,find q,rfl⟩
 have hAt:xD tb H:=⟨Htb,fun b n=>by
  rcases cases_H b n with q|⟨x,_,_,q⟩
  ·exact .inl q
  ·exact .inr ⟨_,_,q⟩⟩
 have hS:∀p∈LA,SqL K H p.1 (p.2.2.map V.int):=fun p hp=>by
  obtain⟨h1,h2,h3⟩:=hLA p hp;have n:p.1≠tb:=fun z=>by rw[z,htab]at h1;cases h1
  cases e:K.lookup p.1 with
  |some o=>have q:=KX _ _ e;rw[h1]at q;cases q;exact .inr ⟨_,p.2.1.toArray,_,e,rfl,rfl,rfl,by rw[List.size_toArray,h2.length];exact h3,by simpa using oN h2⟩
  |none=>
   have q:∃x,LA.lookup p.1=some x:=by
    have:∀l:List (Addr×List Value×List Int),p∈l->∃x,l.lookup p.1=some x:=by
     intro l;induction l with
     |nil=>intro e;cases e
     |cons y r ih=>
      intro e;rw[List.lookup_cons];cases q:p.1==y.1 with
      |true=>exact⟨_,rfl⟩
      |false=>
       rcases List.mem_cons.mp e with e|e
       ·rw[e]at q;simp at q
       ·exact ih e
    exact this LA hp
   obtain⟨x,q⟩:=q;obtain⟨g1,g2,g3⟩:=hLA _ (find q);have e1:p.2.1=x.1:=by
    rw[h1]at g1;have:=Option.some.inj g1;injection this with _ _ z _
    injection z with z _
    simpa using congrArg Array.toList z
   have e2:p.2.2=x.2:=vF h2 (e1▸g2);refine .inl (.inr ⟨GK x.1,?_⟩);rw[<- hH];unfold wY;rw[if_neg n,e,q,e2];rfl
 have hok:HOk P w H s1.heap:=fun b o e=>by
  by_cases z:b=tb
  ·rw[z,Htb]at e;cases e;rw[z];exact htab
  ·rcases cases_H b z with q|⟨x,_,hm,q⟩
   ·rw[q]at e;cases e
   ·rw[q]at e;cases e;obtain⟨g1,g2,g3⟩:=hLA _ hm;exact⟨g1,by rw[List.length_map];exact g3,x.1,_,oN g2,g1⟩
 have base_of:∀{b:Addr}{o:Obj},s1.heap.get? b=some o->H b=none->(wN s1.heap H).get? b=some o:=fun e n=>GZ e n
 have notl:∀b o,s1.heap.get? b=some o->o.cls≠ .type "list" ->b≠tb->H b=none:=fun b o e hc n=>by
  rcases cases_H b n with q|⟨x,_,hm,q⟩
  ·exact q
  ·have:=(hLA _ hm).1;rw[e]at this;cases this;exact absurd rfl hc
 have nsK:∀{b:Addr}{m:Str->Option Value},s1.heap.Ns b m->(wN s1.heap H).Ns b m:=fun{b m} ⟨o,es,ep,e,d,r⟩=>⟨o,es,ep,base_of e (by
  by_cases z:b=tb
  ·rw[z,htab]at e;cases e;cases d
  ·rcases cases_H b z with q|⟨x,_,hm,q⟩
   ·exact q
   ·have:=(hLA _ hm).1;rw[e]at this;cases this;cases d),d,r⟩
 have hKb:K.In (wN s1.heap H):=fun b o e=>base_of (KX b o e) (by
  by_cases z:b=tb
  ·rw[z,hKt]at e;cases e
  ·rcases cases_H b z with q|⟨x,hk,hm,q⟩
   ·exact q
   ·rw[hk]at e;cases e)
 have hM:Mod K mg (wN s1.heap H):=⟨hKb,nsK hns,⟨mb,nsK hb,hbb⟩,let⟨mc,h1,h2⟩:=hlim;⟨mc,nsK h1,h2⟩⟩;have e0:oI P w K mg (wN s1.heap H) callerA [] s1 H:=⟨rfl,hM,fun b o e=>J2 e,Nat.le_of_eq (EE _ _),trivial,fun b hb=>absurd (show b∈([]:List Addr)from hb) (by simp),hok,.of_eq hg⟩;refine codeAny_mono ((F _ hM (fun b o e hc n=>base_of e (notl b o e hc n))).run callerA [] s1 H ⟨vals,[]⟩ vals vs _ _ hr e0 hbind rv (hsp H hAt hS)) fun r s' h=>?_
 cases r with
 |error e=>obtain⟨_,_,_,_,z⟩:=h;exact z.elim
 |ok fl=>
  cases fl with
  |next=>exact False.elim h
  |brk=>exact False.elim h
  |cont=>exact False.elim h
  |ret u=>
   obtain⟨v,H',os,bare,un,hok',r',p,ns,hv,hp,hR⟩:=h;subst hv;obtain rfl:u=Value.ref p:=r';obtain⟨_,its,n,pr,hget⟩:=hok' p _ hp;refine⟨⟨p,its,n,ns,rfl,hget,pr,hR⟩,?_,os,bare⟩;have kept:∀b o,b≠tb->s1.heap.get? b=some o->s'.heap.get? b=some o:=fun b o n e=>by
    rcases cases_H b n with q|⟨x,_,hm,q⟩
    ·exact un.keep b o e q (by intro z;exact absurd (show b∈([]:List Addr)from z) (by simp)) (by simp)
    ·obtain⟨e1,_⟩:=hok b _ q;obtain⟨e2,_⟩:=hok' b _ (un.nR b _ _ q);rw[e]at e1;cases e1;exact e2
   obtain⟨more,hmore⟩:=un.rM tb _ Htb;have t2:s'.heap.get? tb=some (W.tabObj (#[]++more)):=hok' tb _ hmore;refine⟨fun b o e=>?_,fun b o e=>?_⟩
   ·by_cases z:b=tb
    ·subst z;rw[htab]at e;cases e;exact .inr (.inl ⟨hct,rfl,#[],more,rfl,t2⟩)
    ·exact .inl (kept b o z e)
   ·by_cases z:b=tb
    ·exact⟨_,z▸t2⟩
    ·exact⟨_,kept b o z e⟩
structure aF(K:W.Frag)(x:Str)(st:Stmt):Prop where
 ex:∃f fd,W.nsIn K mainGlobals x=some (some (.ref f))/\Fun K x x st f fd
theorem aV{K:W.Frag}{x:Str}{st:Stmt}{f:Addr}{oc:Value}{od an:Option Addr}{osl:Array (Option Value)}{kV doc pm cdv ct:Value}(a:W.nsIn K mainGlobals x=some (some (.ref f)))
  (l:K.lookup f=some ⟨oc,od,.func (W.fnOf x x (gZ st) (eZ st) (aG st) .none kV doc pm an cdv ct),osl⟩) (c:W.codeIn K cdv x=true) (k:W.keepIn K (.ref f)=true):aF K x st:=⟨f,_,a,BA l c k⟩
theorem aF.ok{P:Program}{w:World}{K:W.Frag}{mg:Str->Option Value}{base:Heap}{CX:CXT}{k:Nat}{x:Str}{st:Stmt}{ps:List Str}{sp:Sp}(D:aF K x st)(M:Mod K mg base)
  (h:∀f fd,Fun K x x st f fd->bK P w K mg base CX k f fd ps sp)
  (hb:∀(kV doc pm:Value)(an:Option Addr)(cdv ct:Value)(us:List Value),us.length=ps.length->bindArgs (W.fnOf x x (gZ st) (eZ st) (aG st) .none kV doc pm an cdv ct) ⟨us,[]⟩=pure (ps.zip us)):aQ P w K mg base CX k x ps sp:=by
 obtain⟨f,fd,a,F⟩:=D.ex;exact⟨⟨f,fd,h f fd F,W.mg_of M.kin M.glob a,F.kp,F.binds hb⟩⟩
noncomputable def AH(K:W.Frag)(v:Value)(p:Int×Int):Bool:=match v with
 | .ref b=>(match K.lookup b with
  |some ⟨.type "tuple",_,.seq its _,_⟩=>(match its.toList with
   |[.int x _,.int y _]=>x==p.1&& y==p.2
   |_=>false)
  |_=>false)
 |_=>false
noncomputable def r9(K:W.Frag):List Value->List (Int×Int)->Bool
 |[],[]=>true
 |v::vs,p::ps=>AH K v p&& r9 K vs ps
 |_,_=>false
noncomputable def tG(K:W.Frag)(a:Addr)(ps:List (Int×Int)):Bool:=match K.lookup a with
 |some ⟨.type "tuple",_,.seq its _,_⟩=>r9 K its.toList ps&& decide (its.size<=1000)
 |_=>false
theorem IZ{K:W.Frag}{v:Value}{p:Int×Int}(h:AH K v p=true):∃b,v=.ref b/\∀H,C2 K H (.ref b) p:=by
 unfold AH at h;split at h
 ·rename_i b;split at h
  ·rename_i its n sl hk;split at h
   ·rename_i x t y u hi;rw[Bool.and_eq_true,beq_iff_eq,beq_iff_eq]at h;refine⟨b,rfl,fun H=>⟨b,rfl,.inr ⟨_,its,n,hk,rfl,rfl,?_,?_⟩⟩⟩
    ·rw[<- Array.length_toList,hi];show 2<=sizeLine
     decide
    ·rw[hi];exact .cons ⟨t,by rw[h.1]⟩ (.cons ⟨u,by rw[h.2]⟩ .nil)
   ·cases h
  ·cases h
 ·cases h
theorem yB{K:W.Frag}:∀{vs:List Value}{ps:List (Int×Int)},r9 K vs ps=true->∃xs:List V,Vals xs vs/\Paired (fun v p=>∀H,C2 K H v p) xs ps
 |[],[],_=>⟨[],.nil,.nil⟩
 |v::vs,p::ps,h=>by unfold r9 at h;rw[Bool.and_eq_true]at h;obtain⟨b,rfl,hb⟩:=IZ h.1;obtain⟨xs,h1,h2⟩:=yB h.2;exact⟨.ref b::xs,.cons rfl h1,.cons hb h2⟩
 |[],_::_,h=>by cases h
 |_::_,[],h=>by cases h
theorem tF{K:W.Frag}{a:Addr}{ps:List (Int×Int)}(h:tG K a ps=true):CT2 K a ps:=by
 unfold tG at h;split at h
 ·rename_i its n sl hk;rw[Bool.and_eq_true]at h;obtain⟨xs,h1,h2⟩:=yB h.1;exact⟨xs,fun H=>.inr ⟨_,its,n,hk,rfl,rfl,Nat.le_trans (of_decide_eq_true h.2) (by decide),h1⟩,h2⟩
 ·cases h
noncomputable def wC(K:W.Frag)(a:Addr):Bool:=match K.lookup a with
 |some ⟨.type "tuple",_,.seq its _,_⟩=>(match its.toList with
  |[.int 0 _,.int 1 _,.int 2 _,.int 3 _]=>true
  |_=>false)
 |_=>false
theorem FT{K:W.Frag}{a:Addr}(h:wC K a=true)(H:Hp):SqT K H a [.int 0,.int 1,.int 2,.int 3]:=by
 unfold wC at h;split at h
 ·rename_i its n sl hk;split at h
  ·rename_i t0 t1 t2 t3 hi;refine .inr ⟨_,its,n,hk,rfl,rfl,?_,?_⟩
   ·rw[<- Array.length_toList,hi];show 4<=sizeLine
    decide
   ·rw[hi];exact .cons ⟨t0,rfl⟩ (.cons ⟨t1,rfl⟩ (.cons ⟨t2,rfl⟩ (.cons ⟨t3,rfl⟩ .nil)))
  ·cases h
 ·cases h
theorem nW{K:W.Frag}{h:Heap}{C:Addr}{nm q:Str}{N:Addr}{bs:List Value}{hdct:Bool}{sn:List Str}{sub:List Value}{ab:Bool}{col:Option Bool}{dd:Option Addr}{k0 k1 k2 k3 k5:Option Value}{newId:String}
  (X:K.In h) (l:K.lookup C=some (excClassObj nm q C N bs [.type "Exception",.type "BaseException",.type "object"] hdct sn sub ab col dd k0 k1 k2 k3 k5 newId)):gV h C:=
 ⟨nm,q,N,bs,_,hdct,sn,sub,ab,col,dd,k0,k1,k2,k3,k5,newId,X _ _ l,by decide,fun D=>by rfl⟩
theorem KI{K:W.Frag}{x:Str}{f c tb:Addr}{oc oc2:Value}{od od2:Option Addr}{fd:FuncData}{osl sl2:Array (Option Value)}{vs:Array Value}(a:W.nsIn K mainGlobals x=some (some (.ref f)))
  (l:K.lookup f=some ⟨oc,od,.func fd,osl⟩) (hc:fd.code=.ref c) (l2:K.lookup c=some ⟨oc2,od2,.fields vs,sl2⟩) (hv:vs[11]? =some (.ref tb)):W.tabIn K x=some (c,tb):=by
 unfold W.tabIn;rw[a];dsimp only;rw[l];dsimp only;rw[hc];dsimp only;rw[l2];dsimp only;rw[hv]
theorem zM{h base:Heap}{c tb:Addr}(C:W.CodeHd h c tb)(k:∀b o,h.get? b=some o->o.cls≠ .type "list" ->b≠tb->base.get? b=some o):W.CodeHd base c tb:=by obtain⟨o,vs,file,tf,flags,tg,inF,text,tt,e,hcl,r⟩:=C;have hne:c≠tb:=r.2.2.2.2.2.2.2;exact⟨o,vs,file,tf,flags,tg,inF,text,tt,k c o e (by rw[hcl];intro z;injection z with z;exact absurd z (by decide)) hne,hcl,r⟩
theorem F0{h:Heap}{c tb:Addr}(C:W.CodeHd h c tb):isCodeTable h tb:=by obtain⟨o,vs,file,tf,flags,tg,inF,text,tt,e,hcl,hd,hv,_⟩:=C;exact⟨c,o,vs,e,hcl,hd,hv⟩
theorem JX{p:Program}{loose:List Str}{mean:ExcName->Option Value}{mg mb:Str->Option Value}{h base:Heap}{tb:Addr}(T:Top p loose mean mg mb h)(ht:h.get? tb=some (W.tabObj #[]))
  (k:∀b o,h.get? b=some o->o.cls≠ .type "list" ->b≠tb->base.get? b=some o):MC mg base:=by
 obtain⟨bm,ob,b1,b2,b3,b4,b5,b6⟩:=T.bmain;refine⟨bm,ob,b1,b2,fun q=>?_,k bm ob b3 (by rw[b4];intro z;injection z with z;exact absurd z (by decide)) (fun q=>?_),b4,b5,b6⟩
 ·obtain⟨o,es,ep,e,hd,_⟩:=T.g;rw[q,e]at b3;cases b3;rw[hd]at b6;cases b6
 ·rw[q,ht]at b3;cases b3;cases b4
end L3
namespace L3
open PySem PySem.Spec PySem.Calls PyProof.Rows L2
section
variable {prog:Program}{w:World}{A:Around}{E:Value->Shared->Prop}{s:Shared}{d:Addr}{o:Obj}{es:Array DictEntry}{ep:Nat}
theorem yJ(hs:(d==sysModules)=false):MeetsIn prog w (Builtin.«dict.values» ⟨[.ref d],[]⟩) (fun _ R s=>(∃o es ep,g7 s.heap d o es ep)/\R (.ok (.ret (.ref s.heap.objs.size))) {s with heap:=s.heap.push {cls:=.type "dict_values",data:=.fields #[.ref d]}}):=
 .of_wp fun A R s q=>by
  obtain⟨⟨o,es,ep,e⟩,hR⟩:=q
  delta Builtin.«dict.values»
  refine wpAny_bind (show wpAny _ _ (Builtin.Dict.noArgs _ _) _ _ s from ?_)
  delta Builtin.Dict.noArgs
  refine wpAny_bind (wpAny_notOrdered_dict e.ty (show wpAny _ _ (pure d) _ _ s from wpAny_pure (show wpAny _ _ (Builtin.Dict.showsAll d>>=fun _=>_) _ _ s from ?_)))
  delta Builtin.Dict.showsAll
  rw[if_neg (show¬(d==sysModules)=true by rw[hs];exact Bool.false_ne_true)];exact wpAny_bind (wpAny_pure (wpAny_bind (wpAny_newObj_type (wpAny_pure ⟨_,rfl,hR⟩))))
theorem AZ{v:Addr}{Q:Value->Shared->Prop}(hv:s.heap.IsValuesView v d)(e:g7 s.heap d o es ep)
  (hQ:Q (.ref s.heap.objs.size) {s with heap:=s.heap.push {cls:=.type "dict_valueiterator",data:=.fields #[.ref d,.int 0 0,.int es.size 0,.int ep 0]}}):wpAny (model prog w) A (pyIter (.ref v)) Q E s:=by
 obtain⟨vo,v1,v2,v3⟩:=id hv;refine wpAny_pyIter_slot hv.typeIs F.slot_dict_values_iter (wpAny_call_entry F.slot_dict_values_iter hv.typeIs F.entry_dict_values_iter (show wpAny _ _ (Builtin.«dict_values.__iter__» _) _ _ _ from ?_) (F.args_dict_values_iter_1 _))
 delta Builtin.«dict_values.__iter__»
 refine wpAny_bind (wpAny_pure (wpAny_bind (show wpAny _ _ (Builtin.Dict_items.dictOf _) _ _ _ from ?_)))
 delta Builtin.Dict_items.dictOf
 refine wpAny_bind (wpAny_field v1 v3 (x:=.ref d) rfl (wpAny_pure (wpAny_bind (show wpAny _ _ (Builtin.Dict_items.newIterator _ _) _ _ _ from ?_))))
 delta Builtin.Dict_items.newIterator
 refine wpAny_bind (wpAny_dictEntries e.at_ e.dat (wpAny_bind (wpAny_dictEpoch e.at_ e.dat ?_)));have own:Builtin.Dict_items.ownsTuple "dict_valueiterator" =false:=by rfl
 simp only[own,Bool.false_eq_true,if_false];exact wpAny_newObj_type (wpAny_pure ⟨_,rfl,"dict_valueiterator",_,⟨_,Heap.get?_push_size _ rfl,rfl⟩,F.slot_dict_valueiterator_next.lookup,(by simpa[rawInt]using hQ)⟩)
theorem DV{it:Addr}{i:Nat}{en:DictEntry}{Q:Option Value->Shared->Prop}(hit:s.heap.IsValIter it d i es.size ep)(e:g7 s.heap d o es ep)(hx:es[i]? =some en)
  (hQ:∀h',h'.IsValIter it d (i+1) es.size ep->Heap.SameBut it s.heap h'->Q (some en.val) {s with heap:=h'}):wpAny (model prog w) A (pyNext (.ref it)) Q E s:=by
 obtain⟨io,i1,i2,i3⟩:=id hit
 delta pyNext
 refine wpAny_bind (wpAny_attempt (wpAny_callSpecial?_slot (name:=Str.ofString "__next__") hit.typeIs F.slot_dict_valueiterator_next (wpAny_call_entry F.slot_dict_valueiterator_next hit.typeIs F.entry_dict_valueiterator_next ?_ (F.args_dict_valueiterator_next_1 _))));refine wpAny_bind (wpAny_pure (wpAny_bind (wpAny_bind ?_)));first|refine wpAny_bind (wpAny_typeNameOfWhole_valiter hit.typeIs (wpAny_pure (wpAny_bind (wpAny_fieldsOf i1 i3 ?_))))|refine wpAny_bind (wpAny_typeNameOf_valiter hit.typeIs (wpAny_pure (wpAny_bind (wpAny_fieldsOf i1 i3 ?_))))
 have own:Builtin.Dict_items.ownsTuple "dict_valueiterator" =false:=by rfl
 simp only[own,Bool.false_eq_true,if_false];show wpAny _ _ (if(Value.ref d==Value.none)=true then _ else _) _ _ s
 have nn:¬((Value.ref d==Value.none)=true):=Bool.false_ne_true;rw[if_neg nn];refine wpAny_bind (wpAny_pure (wpAny_bind (wpAny_dictEntries e.at_ e.dat ?_)));rw[if_neg (show¬ _ by simp)];refine wpAny_bind (wpAny_pure (wpAny_bind (wpAny_dictEpoch e.at_ e.dat ?_)));rw[if_neg (show¬ _ by simp)];obtain⟨lt,hen⟩:=Array.getElem?_eq_some_iff.mp hx;have i0:¬((i:Int)<0):=by omega
 refine wpAny_pure ?_;simp only[i0,if_false,Int.toNat_natCast,Array.getElem?_eq_getElem lt,hen];refine wpAny_bind ?_;first|refine wpAny_bind (wpAny_typeNameOfWhole_valiter hit.typeIs (wpAny_pure (wpAny_bind (wpAny_isOneOf_valiter hit.typeIs ?_))))|refine wpAny_bind (wpAny_typeNameOf_valiter hit.typeIs (wpAny_pure (wpAny_bind (wpAny_isOneOf_valiter hit.typeIs ?_))))
 show wpAny _ _ (setField (.ref it) 1 (rawInt ((i:Int)+1))>>=fun _=>_) _ _ s
 refine wpAny_bind (wpAny_setField i1 i3 (by simp) ?_);have it2:(s.heap.update it (Obj.mapFields (·.setIfInBounds 1 (rawInt ((i:Int)+1))))).IsValIter it d (i+1) es.size ep:=
  ⟨_,Heap.get?_update_self _ i1 (Obj.isFreed_of_fields (Obj.data_mapFields i3 _)),(Obj.cls_mapFields ..).trans i2,by rw[Obj.data_mapFields i3];simp[rawInt]⟩
 have sb:Heap.SameBut it s.heap (s.heap.update it (Obj.mapFields (·.setIfInBounds 1 (rawInt ((i:Int)+1))))):=Heap.SameBut.update ..;generalize (s.heap.update it (Obj.mapFields (·.setIfInBounds 1 (rawInt ((i:Int)+1)))))=g at it2 sb ⊢;refine wpAny_bind (wpAny_holding (wpAny_bind (wpAny_isOneOf_valiter (s:={s with heap:=g}) it2.typeIs (wpAny_bind (wpAny_isOneOf_valiter (s:={s with heap:=g}) it2.typeIs ?_)))));show wpAny _ _ (pure en.val) _ _ _
 exact wpAny_pure (wpAny_pure ⟨_,rfl,wpAny_pure (hQ _ it2 sb)⟩)
theorem D9{it:Addr}{i:Nat}{Q:Option Value->Shared->Prop}(hh:A.handled=none)(hit:s.heap.IsValIter it d i es.size ep)(e:g7 s.heap d o es ep)(hge:es.size<=i)
  (hQ:∀h',Heap.ExtBut it s.heap h'->Q none {s with heap:=h'}):wpAny (model prog w) A (pyNext (.ref it)) Q E s:=by
 obtain⟨io,i1,i2,i3⟩:=id hit
 delta pyNext
 refine wpAny_bind (wpAny_attempt (wpAny_callSpecial?_slot (name:=Str.ofString "__next__") hit.typeIs F.slot_dict_valueiterator_next (wpAny_call_entry F.slot_dict_valueiterator_next hit.typeIs F.entry_dict_valueiterator_next ?_ (F.args_dict_valueiterator_next_1 _))));refine wpAny_bind (wpAny_pure (wpAny_bind (wpAny_bind ?_)));first|refine wpAny_bind (wpAny_typeNameOfWhole_valiter hit.typeIs (wpAny_pure (wpAny_bind (wpAny_fieldsOf i1 i3 ?_))))|refine wpAny_bind (wpAny_typeNameOf_valiter hit.typeIs (wpAny_pure (wpAny_bind (wpAny_fieldsOf i1 i3 ?_))))
 have own:Builtin.Dict_items.ownsTuple "dict_valueiterator" =false:=by rfl
 simp only[own,Bool.false_eq_true,if_false];show wpAny _ _ (if(Value.ref d==Value.none)=true then _ else _) _ _ s
 have nn:¬((Value.ref d==Value.none)=true):=Bool.false_ne_true;rw[if_neg nn];refine wpAny_bind (wpAny_pure (wpAny_bind (wpAny_dictEntries e.at_ e.dat ?_)));rw[if_neg (show¬ _ by simp)];refine wpAny_bind (wpAny_pure (wpAny_bind (wpAny_dictEpoch e.at_ e.dat ?_)));rw[if_neg (show¬ _ by simp)];have i0:¬((i:Int)<0):=by omega
 refine wpAny_pure ?_;simp only[i0,if_false,Int.toNat_natCast,Array.getElem?_eq_none hge];refine wpAny_bind ?_;first|refine wpAny_bind (wpAny_typeNameOfWhole_valiter hit.typeIs (wpAny_pure (show wpAny _ _ (setField (.ref it) 0 .none>>=fun _=>_) _ _ s from wpAny_bind (wpAny_setField i1 i3 (by simp) ?_))))|refine wpAny_bind (wpAny_typeNameOf_valiter hit.typeIs (wpAny_pure (show wpAny _ _ (setField (.ref it) 0 .none>>=fun _=>_) _ _ s from wpAny_bind (wpAny_setField i1 i3 (by simp) ?_))))
 show wpAny _ _ (newExc (.type "StopIteration") []>>= _) _ _ _
 refine wpAny_bind ?_;simp only[newExc,newTuple];refine wpAny_bind (wpAny_newObj_type (wpAny_bind (m:=firstArgMember _ _) (wpAny_of_eq (a:=Value.none) (by first|rfl|(simp only[firstArgMember];rfl)) (wpAny_newObj_type ?_ (by size_fits)))) (by size_fits));simp only[raiseNew];refine wpAny_bind (wpAny_handled ?_);rw[show A.in1.handled=none from hh];refine wpAny_bind (wpAny_pure (wpAny_throw (wpAny_bind ?_)));refine wpAny_isInstance (T:= "StopIteration") (b:=true) ⟨_,Heap.get?_push_size _ rfl,rfl⟩ isSubtype_stop (wpAny_pure (hQ _ ?_));exact(((Heap.SameBut.update ..).extBut.push _).push _)
theorem KC(hh:A.handled=none)(I:Addr)(hne:d≠I)(hx:o.ExactDict)(hdat:o.data=.dict es ep):Walks prog w A I [I,d] [I] es.size (fun i v=>∃en,es[i]? =some en/\v=en.val) (fun i h=>h.IsValIter I d i es.size ep/\g7 h d o es ep) where
 sub:=fun b hb=>by rw[List.mem_singleton]at hb;rw[hb];exact List.mem_cons_self
 frame:=fun _ _ _ st k=>⟨st.1.at fun q e=>k I List.mem_cons_self q e,st.2.to fun q e=>k d (List.mem_cons_of_mem _ List.mem_cons_self) q e⟩
 item:=fun i s Q E hi st hQ=>by
  have he:es[i]? =some es[i]:=Array.getElem?_eq_getElem hi;refine DV st.1 st.2 he fun h' it' sb=>?_
  exact hQ _ h' s.toks ⟨_,he,rfl⟩ ⟨it',st.2.to fun q e=>(sb.2 d hne).trans e⟩ fun b q hb e=>(sb.2 b (fun z=>hb (z▸List.mem_cons_self))).trans e
 done:=fun s Q E st hQ=>D9 hh st.1 st.2 (Nat.le_refl _) fun h' eb=>hQ h' s.toks fun b q hb e=>eb b q (fun z=>hb (z▸List.mem_cons_self)) e
 self:=fun _ _ _ _ st hQ=>wpAny_pyIter_valiter st.1 hQ
theorem RV{r:Addr}(hx:o.ExactDict)(hdat:o.data=.dict es ep):W.KdlSrc prog w "dict_values" r d es.size (fun i v=>∃en,es[i]? =some en/\v=en.val) (fun h=>h.IsValuesView r d/\g7 h d o es ep) where
 type:=fun _ e=>e.1.typeIs
 there:=fun _ e=>⟨let⟨_,ho,_⟩:=e.1;Heap.lt_size ho,Heap.lt_size e.2.at_⟩
 keep:=fun _ _ e k=>⟨let⟨q,ho,x⟩:=e.1;⟨q,k r (.inl rfl) q ho,x⟩,e.2.to fun q z=>k d (.inr rfl) q z⟩
 notList:=by decide
 notTuple:=by decide
 hint:=fun _ _ _ _ e hq=>W.kdl_hint_values e.1.typeIs hq
 iter:=fun A s hh e=>⟨_,_,fun _ _ hq=>AZ e.1 e.2 hq,KC hh _ (Nat.ne_of_lt (Heap.lt_size e.2.at_)) hx hdat,⟨⟨_,Heap.get?_push_size _ rfl,rfl,rfl⟩,e.2.to fun q z=>Heap.get?_push_of_some _ z⟩⟩
end
theorem IE{kvs:List (List Key×V)}:∀{us:List Value},us.length=kvs.length->(∀(j:Nat)(u:Value),us[j]? =some u->∃k v,kvs[j]? =some (k,v)/\RelV v u)->Vals (kvs.map (·.2)) us:=by
 induction kvs with
 |nil=>intro us hl _;rw[List.eq_nil_of_length_eq_zero hl];exact .nil
 |cons kv r ih=>
  intro us hl hu;match us,hl with
  |u::us,hl=>
   obtain⟨k,v,e1,e2⟩:=hu 0 u rfl;have e1:kv=(k,v):=by simpa using e1
   subst e1;exact .cons e2 (ih (us:=us) (by simpa using hl) fun j x hx=>by simpa using hu (j+1) x (by simpa using hx))
noncomputable def MF(te:TE):TE:=fun σ H Q=>te σ H fun x H1=>∃a kvs,x=.ref a/\Rd H1 a (.dT kvs)/\∀l,H1 l=none->Q (.ref l) (upd H1 l (.lst (kvs.map (·.2))))
theorem xZ{X:Cx}{e:Expr}{te:TE}{p pos apos cpos:Pos}(hc:X.calm=true)(hg:Gl X "list")(hm:X.mg "list" =none)(he:PE X e te)(hbase:attributeBase e "values" X.env (eval e X.env)=eval e X.env:=by rfl)(hline:(apos.endLine==cpos.line)=true:=by rfl)
  (hst:starEach [.Call (.Attribute e "values" apos) [] [] cpos] X.env=[(false,eval (.Call (.Attribute e "values" apos) [] [] cpos) X.env)]:=by rfl):
  PE X (.Call (.Name "list" p) [.Call (.Attribute e "values" apos) [] [] cpos] [] pos) (MF te):=by
 intro pins s σ H Q I h;refine wpAny_Call_Name_kw (mE I hg hm (u:=.type "list") rfl ?_ (by decide) (by decide));refine PyProof.Rows.callWith_type1 ?_ hst rfl;rw[hst];show wpAny _ _ (spliced ((false,eval (.Call (.Attribute e "values" apos) [] [] cpos) X.env)::backTo pos [])) _ _ s
 refine Calls.spliced_cons ?_;refine wpAny_Call_method (T:= "dict") (id:= "dict.values") hbase rfl hline F.plainAttrs_dict F.slot_dict_values F.type_dict_values (thn (he pins s σ H _ I h) fun u s1 ⟨x,H1,I1,rx,a,kvs,ex,hd,q⟩=>?_);subst ex;obtain rfl:u=Value.ref a:=rx;obtain⟨hs,hz,o,es,ep,en,sz,ent⟩:=lR I1 hd;refine⟨en.ty,fun b z=>by cases z;exact⟨o,en.at_,en.ex.2.1⟩,?_⟩;have I2:Inv X pins σ H1 {s1 with heap:=s1.heap.push {cls:=.type "dict_values",data:=.fields #[.ref a]}}:=I1.kept (t':=s1.toks) fun b ob q=>Heap.get?_push_of_some _ q
 have en2:g7 (s1.heap.push {cls:=.type "dict_values",data:=.fields #[.ref a]}) a o es ep:=en.to fun q z=>Heap.get?_push_of_some _ z
 show wpAny _ _ (callWith cpos (.builtin "dict.values") [.ref a] [] []) _ X.xe s1
 refine method_meetsIn F.slot_dict_values F.entry_dict_values rfl (PySem.evalArgs_none ⟨rfl,en.ty,F.args_dict_values_1 _,_,yJ hs,⟨o,es,ep,en⟩,?_⟩);refine Calls.spliced_nil ?_;refine W.kdl_call (RV en.ex en.dat) (I2.ok.hd hc) ⟨⟨_,Heap.get?_push_size _ rfl,rfl,rfl⟩,en2⟩ (by rw[sz];exact hz) fun h' tk acc c kp hl it=>?_
 have vv:Vals (kvs.map (·.2)) acc.toList:=IE (by rw[Array.length_toList,it.1,sz]) fun j x hx=>by obtain⟨n,hn,e2⟩:=it.2 j x (by rw[<- Array.getElem?_toList];exact hx);obtain⟨k,v,p,e3,e4,e5,e6⟩:=ent j n hn;exact⟨k,v,e3,e2▸e6⟩
 exact⟨.ref _,_,I2.laid (o:=.lst (kvs.map (·.2))) kp (Nat.le_refl _) ⟨by rw[List.length_map];exact hz,acc.toList,c,vv,by rw[Array.toArray_toList];exact hl⟩,rfl,q _ (I2.hok.fresh (Nat.le_refl _))⟩
def isN(n:Int)(y:Value):Bool:=match y with
 | .int k _=>k==n
 |_=>false
theorem yU:∀{ns:List Int}{its:List Value},Vals (ns.map V.int) its->∀y∈its,∃k t,y=.int k t
 |[],_,.nil,y,h=>by cases h
 |n::ns,_,.cons ⟨t,e⟩ r,y,h=>by
  rcases List.mem_cons.mp h with h|h
  ·exact⟨n,t,h.trans e⟩
  ·exact yU r y h
theorem sU(n:Int):∀{ns:List Int}{its:List Value},Vals (ns.map V.int) its->its.countP (isN n)=ns.count n
 |[],_,.nil=>rfl
 |k::ns,_,.cons ⟨t,e⟩ r=>by subst e;rw[List.countP_cons,List.count_cons,sU n r];rfl
theorem DW{X:Cx}:MtR X "list.count" (fun x xs H Q=>∃(a:Addr)(ns:List Int)(n:Int),x=.ref a/\xs=[.int n]/\SqL X.K H a (ns.map V.int)/\Q (.int ((ns.count n:Nat):Int)) H):=by
 intro pins s σ H x xs v us Q I rx rxs h;obtain⟨a,ns,n,rfl,rfl,hs,q⟩:=h;cases rx;obtain⟨u,rfl,ru⟩:=vals1 rxs;obtain⟨t,rfl⟩:=ru;obtain⟨its,rv,⟨⟨cls,dd,data,sl⟩,m,ho,hc,hdn,hd⟩,hlen⟩:=I.list hs;simp only at hc hd;subst hc hd;refine call_meets PySem.F.slot_list_count ⟨_,ho,rfl⟩ PySem.F.entry_list_count (PySem.F.args_list_count_2 _ _) (SeqAt.list_countAt a its.toArray m dd sl (.int n t) (isN n)) ⟨ho,fun y hy=>?_,?_⟩
 ·obtain⟨k,t',rfl⟩:=yU rv y (by simpa using hy);exact SeqAt.EqAt.int_int k t' n t
 ·refine⟨.int ((ns.count n:Nat):Int),H,I.tok _,⟨s.toks,?_⟩,q⟩;rw[List.toList_toArray,sU n rv]
end L3
namespace L3
open PySem PySem.Spec PySem.Calls PyProof.Rows L2
theorem JE{X:Cx}{K:W.Frag}(hK:X.K=K):IxR X (MU K):=hK▸cD
end L3
namespace L3
open PySem PySem.Spec PySem.Calls PyProof.Rows L2
section
variable {prog:Program}{w:World}{A:Around}{E:Value->Shared->Prop}{l it:Addr}{items:Array Value}
theorem qL{h h':Heap}(sb:Heap.SameBut it h h')(ne:l≠it)(hl:h.IsList l items):h'.IsList l items:=let⟨o,ho,q⟩:=hl;⟨o,(sb.2 l ne).trans ho,q⟩
theorem ET(ne:l≠it):∀(n i:Nat)(s:Shared)(Q:List Value->Shared->Prop),s.heap.IsListIter it l i->s.heap.IsList l items->i+n<=items.size ->
  (∀g,g.IsListIter it l (i+n)->Heap.SameBut it s.heap g->Q ((items.toList.drop i).take n) {s with heap:=g})->wpAny (model prog w) A (draw (.ref it) n) Q E s:=by
 intro n;induction n with
 |zero=>intro i s Q a b c k;exact wpAny_pure (by simpa using k s.heap a (Heap.SameBut.refl ..))
 |succ n ih=>
  intro i s Q a b c k;have hi:i<items.size:=by omega
  refine(wpAny_bind (wpAny_pyNext_list_item a b (x:=items[i]) (by simp[hi]) fun g a1 sb=>?_):wpAny _ _ (pyNext (.ref it)>>= _) Q E s);refine wpAny_bind (wpAny_holding (ih (i+1) _ _ a1 (qL sb ne b) (by omega) fun g2 a2 sb2=>wpAny_pure ?_));have z:=k g2 (by rw[show i+(n+1)=i+1+n by omega];exact a2) (sb.trans sb2)
  rwa [show items.toList.drop i=items[i]::items.toList.drop (i+1) by simp[List.drop_eq_getElem_cons,hi],List.take_succ_cons]at z
theorem oH{s:Shared}{env:Env}{elts:List Expr}{k:Nat}{pos:Pos}{Q:Unit->Shared->Prop}(hh:A.handled=none)(hl:s.heap.IsList l items)(hn:(assignEach elts env).length=items.size)(hs:(assignEach elts env).findIdx? (·.1)=none)
  (h:∀g,Heap.ExtBut s.heap.objs.size s.heap g->wpAny (model prog w) A (assignInOrder ((assignEach elts env).map (·.2)) items.toList) Q E {s with heap:=g}):wpAny (model prog w) A (assign (.Tuple elts k pos) env (.ref l)) Q E s:=by
 have ne:l≠s.heap.objs.size:=let⟨_,ho,_⟩:=hl;Nat.ne_of_lt (Heap.lt_size ho)
 rw[assign_Tuple];refine wpAny_bind (wpAny_standAt ?_);unfold unpack;rw[hn,hs];refine wpAny_bind (wpAny_holding ?_);unfold unpackItems notIterableAtAll;refine wpAny_bind (wpAny_bind (wpAny_specialOf hl.typeIs slot_list_iter.lookup (wpAny_pure ?_)));simp only[Bool.false_eq_true,if_false];refine wpAny_bind (wpAny_holding (wpAny_pyIter_list hl ?_));have hl':(s.heap.push {cls:=.type "list_iterator",data:=.fields #[.ref l,.int 0 0]}).IsList l items:=let⟨o,ho,q⟩:=hl;⟨o,Heap.get?_push_of_some _ ho,q⟩
 refine wpAny_bind (wpAny_holding (ET ne items.size 0 _ _ ⟨_,Heap.get?_push_size _ rfl,rfl,rfl⟩ hl' (by omega) fun g a sb=>?_));have el:(items.toList.drop 0).take items.size=items.toList:=by rw[List.drop_zero];exact List.take_of_length_le (by simp)
 rw[el,if_neg (by simp)];refine wpAny_bind (wpAny_holding (wpAny_pyNext_list_end hh a (qL sb ne hl') (by simp) fun h2 eb=>?_));simp only[Option.isSome_none,Bool.false_eq_true,if_false];exact wpAny_pure (h h2 fun b o nb e=>eb b o nb ((sb.2 b nb).trans (Heap.get?_push_of_some _ e)))
end
section
variable {X:Cx}{pos:Pos}
noncomputable def R1(K:W.Frag)(n:Nat)(t:TGs):TG:=fun v σ H Q=>∃a xs,v=.ref a/\SqL K H a xs/\xs.length=n/\t xs σ H Q
theorem L4{es:List Expr}{k:Nat}{t:TGs}{n:Nat}(hc:X.calm=true)(h:PGs X es t)(hn:(assignEach es X.env).length=n:=by rfl)(hst:(assignEach es X.env).findIdx? (·.1)=none:=by rfl):PG X (.Tuple es k pos) (R1 X.K n t):=by
 intro pins s σ H v u Q I r ⟨a,xs,e1,hq,hl,hw⟩;subst e1;cases r;obtain⟨its,rv,ht,_⟩:=I.list hq;refine oH (I.ok.hd hc) ht.isList (by simp[hn,<- hl,rv.length]) hst fun g hx=>?_
 exact h pins _ σ H xs _ Q (I.kept (t':=s.toks) fun b o e=>hx b o (Nat.ne_of_lt (Heap.lt_size e)) e) (by simpa using rv) hw
theorem C5{K:W.Frag}(hK:X.K=K){es:List Expr}{k:Nat}{t:TGs}{n:Nat}(hc:X.calm=true)(h:PGs X es t)(hn:(assignEach es X.env).length=n:=by rfl)(hst:(assignEach es X.env).findIdx? (·.1)=none:=by rfl):PG X (.Tuple es k pos) (R1 K n t):=hK▸L4 hc h hn hst
end
end L3
namespace RT
open PySem L2 L3
noncomputable def top(i:Nat):Stmt:=PySem.Challenge.pw_rooftold_s08_roof.main.body.getD i (.Pass ⟨0,0,0,0⟩)
structure Adr where
 bZ:Addr
 bL:Addr
 fN:Addr
 iL:Addr
 iK:Addr
 Roof:Addr
abbrev bmE:List Value:=[.type "Exception",.type "BaseException",.type "object"]
structure Txt(K:W.Frag)(mg:Str->Option Value)(base:Heap)(d:Adr):Prop where
 bI:∃a,mg "ALL_SIDES" =some (.ref a)/\∀H,SqT K H a [.int 0,.int 1,.int 2,.int 3]
 wQ:∃a,mg "STEPS" =some (.ref a)/\CT2 K a [(0,-1),(1,0),(0,1),(-1,0)]
 iH:∃a,mg "SIDE_STARTS" =some (.ref a)/\CT2 K a [(0,0),(1,0),(1,1),(0,1)]
 mI:∃a,mg "QUARTERS" =some (.ref a)/\CT2 K a [(0,0),(1,0),(0,1),(1,1)]
 gR:∃a,mg "HALVES_ABOUT" =some (.ref a)/\CT2 K a [(-1,-1),(0,-1),(1,-1),(-1,0),(1,0),(-1,1),(0,1),(1,1)]
 e7:∃a,mg "HALVES_AT_A_POINT" =some (.ref a)/\CT2 K a [(-1,-1),(0,-1),(-1,0),(0,0)]
 zB:r6 mg "LINE_FEED" 10
 JO:r6 mg "BLANK" 32
 JN:r6 mg "COMMA" 44
 jH:r6 mg "DIGIT_ZERO" 48
 wU:r6 mg "DIGIT_NINE" 57
 nQ:r6 mg "GREATEST_NUMBER" 64
 u5:r6 mg "MOST_DIGITS" 2
 pN:r6 mg "FEWEST_CORNERS" 4
 iX:r6 mg "CELLS_IN_A_ROW" 64
 wR:r6 mg "MOST_CELLS" 256
 len:mg "len" =none
 min:mg "min" =none
 max:mg "max" =none
 any:mg "any" =none
 list:mg "list" =none
 dict:mg "dict" =none
 sorted:mg "sorted" =none
 range:mg "range" =none
 enumerate:mg "enumerate" =none
 eO:PyProof.Rows.OwnCls "NoHouse" d.bZ bmE "Exception.__new__" mg base
 LV:mg "Roof" =some (.ref d.Roof)
 d3:Cls K d.Roof
 J4:fZ K d.Roof "cells"
 kD:fZ K d.Roof "depths"
 vB:fZ K d.Roof "heights"
 pB:fZ K d.Roof "facings"
 vA:fZ K d.Roof "numbers"
 CA:fZ K d.Roof "faces"
 gS:r6 mg "GREATEST_MEASURE" 64
 tU:PyProof.Rows.OwnCls "OutOfBounds" d.bL bmE "Exception.__new__" mg base
 sum:mg "sum" =none
variable {P:Program}{w:World}{K:W.Frag}{mg:Str->Option Value}{base:Heap}{d:Adr}{f:Addr}{fd:FuncData}
theorem hm{k n:Nat}{A:Around}(h:cQ n A)(e:k<=n:=by decide):cQ k A:=h.mono e
abbrev s_lo:Stmt:=(top 4)
theorem sc_lo:aK ["direction"] ["direction"] (aG s_lo):=⟨rfl,rfl,rfl,by decide+kernel,rfl,by decide+kernel,by decide+kernel⟩
noncomputable def sp_lo(K:W.Frag)(d:Adr):Sp:=fun vs H Q _=>∃x:Int,vs=[.int x]/\Q (.int ((x+1)%4)) H
theorem ok_lo(F:Fun K "left_of" "left_of" s_lo f fd)(T:Txt K mg base d):bK P w K mg base CX0 1 f fd ["direction"] (sp_lo K d):=by refine F.ok sc_lo (fun vs H Q E h=>by obtain⟨x,rfl,_⟩:=h;rfl) (fun cdv A outer s H vs Q E hr h=>?_);have hu:=bF hr;obtain⟨x,rfl,k⟩:=h;refine⟨_,(aD (aR (cI pA (cI gN (pv 0) aN) aN))),?_⟩;exact⟨_,rfl,_,_,rfl,rfl,_,_,rfl,rfl,(by show(0:Int)<4;decide),k⟩
abbrev s_o:Stmt:=(top 5)
theorem sc_o:aK ["direction"] ["direction"] (aG s_o):=⟨rfl,rfl,rfl,by decide+kernel,rfl,by decide+kernel,by decide+kernel⟩
noncomputable def sp_o(K:W.Frag)(d:Adr):Sp:=fun vs H Q _=>∃x:Int,vs=[.int x]/\Q (.int ((x+2)%4)) H
theorem ok_o(F:Fun K "opposite" "opposite" s_o f fd)(T:Txt K mg base d):bK P w K mg base CX0 1 f fd ["direction"] (sp_o K d):=by refine F.ok sc_o (fun vs H Q E h=>by obtain⟨x,rfl,_⟩:=h;rfl) (fun cdv A outer s H vs Q E hr h=>?_);have hu:=bF hr;obtain⟨x,rfl,k⟩:=h;refine⟨_,(aD (aR (cI pA (cI gN (pv 0) aN) aN))),?_⟩;exact⟨_,rfl,_,_,rfl,rfl,_,_,rfl,rfl,(by show(0:Int)<4;decide),k⟩
abbrev s_ro:Stmt:=(top 6)
theorem sc_ro:aK ["direction"] ["direction"] (aG s_ro):=⟨rfl,rfl,rfl,by decide+kernel,rfl,by decide+kernel,by decide+kernel⟩
noncomputable def sp_ro(K:W.Frag)(d:Adr):Sp:=fun vs H Q _=>∃x:Int,vs=[.int x]/\Q (.int ((x+3)%4)) H
theorem ok_ro(F:Fun K "right_of" "right_of" s_ro f fd)(T:Txt K mg base d):bK P w K mg base CX0 1 f fd ["direction"] (sp_ro K d):=by refine F.ok sc_ro (fun vs H Q E h=>by obtain⟨x,rfl,_⟩:=h;rfl) (fun cdv A outer s H vs Q E hr h=>?_);have hu:=bF hr;obtain⟨x,rfl,k⟩:=h;refine⟨_,(aD (aR (cI pA (cI gN (pv 0) aN) aN))),?_⟩;exact⟨_,rfl,_,_,rfl,rfl,_,_,rfl,rfl,(by show(0:Int)<4;decide),k⟩
abbrev s_m:Stmt:=(top 7)
theorem sc_m:aK ["place","step"] ["place","step"] (aG s_m):=⟨rfl,rfl,rfl,by decide+kernel,rfl,by decide+kernel,by decide+kernel⟩
noncomputable def sp_m(K:W.Frag)(d:Adr):Sp:=fun vs H Q _=>∃(v u:V)(p q:PI),vs=[v,u]/\C2 K H v p/\C2 K H u q/\∀r H',a9 H H'->T2 H' r (p.1+q.1,p.2+q.2)->Q r H'
theorem ok_m(F:Fun K "moved" "moved" s_m f fd)(T:Txt K mg base d):bK P w K mg base CX0 1 f fd ["place","step"] (sp_m K d):=by refine F.ok sc_m (fun vs H Q E h=>by obtain⟨v,u,p,q,rfl,_⟩:=h;rfl) (fun cdv A outer s H vs Q E hr h=>?_);have hu:=bF hr;obtain⟨v,u,p,q,rfl,⟨a,rfl,ha⟩,⟨b,rfl,hb⟩,k⟩:=h;refine⟨_,(aD (aR (dZ (a8 (cI gN (cN cD (pv 0) aN (fun _ _=>rfl)) (cN cD (pv 1) aN (fun _ _=>rfl))) (a8 (cI gN (cN cD (pv 0) aN (fun _ _=>rfl)) (cN cD (pv 1) aN (fun _ _=>rfl))) aC))))),?_⟩;refine⟨_,rfl,a,_,_,_,rfl,rfl,ha,bQ (by decide) rfl,_,rfl,b,_,_,_,rfl,rfl,hb,bQ (by decide) rfl,_,_,rfl,rfl,_,rfl,a,_,_,_,rfl,rfl,ha,bQ (by decide) rfl,_,rfl,b,_,_,_,rfl,rfl,hb,bQ (by decide) rfl,_,_,rfl,rfl,(by show 2<=sizeLine;decide),fun t ht=>?_⟩;exact k _ _ (a9.upd ht) ⟨t,rfl,a7⟩
abbrev s_b:Stmt:=(top 8)
theorem sc_b:aK ["place","direction"] ["place","direction"] (aG s_b):=⟨rfl,rfl,rfl,by decide+kernel,rfl,by decide+kernel,by decide+kernel⟩
noncomputable def sp_b(K:W.Frag)(d:Adr):Sp:=fun vs H Q _=>∃(v:V)(p:PI)(s:Nat),vs=[v,.int s]/\C2 K H v p/\s<4/\∀r H',a9 H H'->T2 H' r (RM.aO p s)->Q r H'
theorem ok_b(F:Fun K "beyond" "beyond" s_b f fd)(T:Txt K mg base d)(D_m:aQ P w K mg base CX0 1 "moved" ["place","step"] (sp_m K d)):bK P w K mg base CX0 2 f fd ["place","direction"] (sp_b K d):=by
 refine F.ok sc_b (fun vs H Q E h=>by obtain⟨v,p,s,rfl,_⟩:=h;rfl) (fun cdv A outer s H vs Q E hr h=>?_);have hu:=bF hr;obtain⟨aSTEPS,wQ,c_STEPS⟩:=T.wQ;obtain⟨v,p,s,rfl,hv,hs,k⟩:=h;obtain⟨xs,hx,pr⟩:=c_STEPS;obtain⟨q,hq,e⟩:∃q:PI,([(0,-1),(1,0),(0,1),(-1,0)]:List PI)[s]? =some q/\((p.1+q.1,p.2+q.2):PI)=RM.aO p s:=by
  have cs:s=0\/s=1\/s=2\/s=3:=by omega
  rcases cs with rfl|rfl|rfl|rfl
  ·exact⟨_,rfl,by simp[RM.aO];omega⟩
  ·exact⟨_,rfl,by simp[RM.aO]⟩
  ·exact⟨_,rfl,by simp[RM.aO]⟩
  ·exact⟨_,rfl,by simp[RM.aO];omega⟩
 obtain⟨u,hu',ru⟩:=iS pr hq;refine⟨_,(aD (aR (aU D_m (hm hr) aX rfl (a8 (pv 0) (a8 (cN cD (fK wQ rfl) (pv 1) (fun _ _=>rfl)) aC))))),?_⟩;exact⟨_,rfl,_,rfl,_,_,_,_,rfl,rfl,hx _,bQ (by omega) (by simpa using hu'),v,u,p,q,rfl,hv,ru _,fun r H' sm t=>k r H' sm (by rw[<- e];exact t)⟩
abbrev s_ss:Stmt:=(top 9)
theorem sc_ss:aK ["square","side"] ["square","side"] (aG s_ss):=⟨rfl,rfl,rfl,by decide+kernel,rfl,by decide+kernel,by decide+kernel⟩
noncomputable def sp_ss(K:W.Frag)(d:Adr):Sp:=fun vs H Q _=>∃(v:V)(p:PI)(s:Nat),vs=[v,.int s]/\C2 K H v p/\s<4/\∀r H',a9 H H'->T2 H' r (RM.aM p s)->Q r H'
theorem ok_ss(F:Fun K "side_start" "side_start" s_ss f fd)(T:Txt K mg base d)(D_m:aQ P w K mg base CX0 1 "moved" ["place","step"] (sp_m K d)):bK P w K mg base CX0 2 f fd ["square","side"] (sp_ss K d):=by
 refine F.ok sc_ss (fun vs H Q E h=>by obtain⟨v,p,s,rfl,_⟩:=h;rfl) (fun cdv A outer s H vs Q E hr h=>?_);have hu:=bF hr;obtain⟨aSIDE_STARTS,iH,c_SIDE_STARTS⟩:=T.iH;obtain⟨v,p,s,rfl,hv,hs,k⟩:=h;obtain⟨xs,hx,pr⟩:=c_SIDE_STARTS;obtain⟨q,hq,e⟩:∃q:PI,([(0,0),(1,0),(1,1),(0,1)]:List PI)[s]? =some q/\((p.1+q.1,p.2+q.2):PI)=RM.aM p s:=by
  have cs:s=0\/s=1\/s=2\/s=3:=by omega
  rcases cs with rfl|rfl|rfl|rfl<;>exact⟨_,rfl,by simp[RM.aM]⟩
 obtain⟨u,hu',ru⟩:=iS pr hq;refine⟨_,(aD (aR (aU D_m (hm hr) aX rfl (a8 (pv 0) (a8 (cN cD (fK iH rfl) (pv 1) (fun _ _=>rfl)) aC))))),?_⟩;exact⟨_,rfl,_,rfl,_,_,_,_,rfl,rfl,hx _,bQ (by omega) (by simpa using hu'),v,u,p,q,rfl,hv,ru _,fun r H' sm t=>k r H' sm (by rw[<- e];exact t)⟩
abbrev s_se:Stmt:=(top 10)
theorem sc_se:aK ["square","side"] ["square","side"] (aG s_se):=⟨rfl,rfl,rfl,by decide+kernel,rfl,by decide+kernel,by decide+kernel⟩
noncomputable def sp_se(K:W.Frag)(d:Adr):Sp:=fun vs H Q _=>∃(v:V)(p:PI)(s:Nat),vs=[v,.int s]/\C2 K H v p/\s<4/\∀r H',a9 H H'->T2 H' r (RM.aM p (s+1))->Q r H'
theorem ok_se(F:Fun K "side_end" "side_end" s_se f fd)(T:Txt K mg base d)(D_ss:aQ P w K mg base CX0 2 "side_start" ["square","side"] (sp_ss K d))(D_lo:aQ P w K mg base CX0 1 "left_of" ["direction"] (sp_lo K d)):bK P w K mg base CX0 3 f fd ["square","side"] (sp_se K d):=by
 refine F.ok sc_se (fun vs H Q E h=>by obtain⟨v,p,s,rfl,_⟩:=h;rfl) (fun cdv A outer s H vs Q E hr h=>?_);have hu:=bF hr;obtain⟨v,p,s,rfl,hv,hs,k⟩:=h;refine⟨_,(aD (aR (aU D_ss (hm hr) aX rfl (a8 (pv 0) (a8 (aU D_lo (hm hr) aX rfl (a8 (pv 1) aC)) aC))))),?_⟩;refine⟨_,rfl,_,rfl,_,rfl,v,p,(s+1)%4,?_,hv,by omega,fun r H' sm t=>k r H' sm ?_⟩
 ·simp
 ·have e:RM.aM p ((s+1)%4)=RM.aM p (s+1):=by unfold RM.aM;rw[Nat.mod_mod]
  rw[<- e];exact t
abbrev s_br:Stmt:=(top 11)
theorem sc_br:aK ["place"] ["place"] (aG s_br):=⟨rfl,rfl,rfl,by decide+kernel,rfl,by decide+kernel,by decide+kernel⟩
noncomputable def sp_br(K:W.Frag)(d:Adr):Sp:=fun vs H Q _=>∃(v:V)(p:PI),vs=[v]/\C2 K H v p/\∀r H',a9 H H'->T2 H' r (p.2,p.1)->Q r H'
theorem ok_br(F:Fun K "by_row" "by_row" s_br f fd)(T:Txt K mg base d):bK P w K mg base CX0 1 f fd ["place"] (sp_br K d):=by refine F.ok sc_br (fun vs H Q E h=>by obtain⟨v,p,rfl,_⟩:=h;rfl) (fun cdv A outer s H vs Q E hr h=>?_);have hu:=bF hr;obtain⟨v,p,rfl,⟨a,rfl,ha⟩,k⟩:=h;refine⟨_,(aD (aR (dZ (a8 (cN cD (pv 0) aN (fun _ _=>rfl)) (a8 (cN cD (pv 0) aN (fun _ _=>rfl)) aC))))),?_⟩;refine⟨_,rfl,a,_,_,_,rfl,rfl,ha,bQ (by decide) rfl,_,rfl,a,_,_,_,rfl,rfl,ha,bQ (by decide) rfl,(by show 2<=sizeLine;decide),fun t ht=>?_⟩;exact k _ _ (a9.upd ht) ⟨t,rfl,a7⟩
abbrev s_pb:Stmt:=(top 28)
theorem sc_pb:aK ["row","mark","parts","part","value"] ["row","mark"] (aG s_pb):=⟨rfl,rfl,rfl,by decide+kernel,rfl,by decide+kernel,by decide+kernel⟩
theorem CJ{ns:List Int}{i:Nat}{y:V}(h:(ns.map V.int)[i]? =some y):∃z,ns[i]? =some z/\y=V.int z:=by
 rw[List.getElem?_map]at h;cases e:ns[i]? with
 |none=>rw[e]at h;cases h
 |some z=>rw[e]at h;exact⟨z,rfl,(Option.some.inj h).symm⟩
theorem few{n m:Nat}(h:n<=m)(hm:m<=100000:=by omega):n<sizeLine:=Nat.lt_of_le_of_lt (Nat.le_trans h hm) (by decide)
noncomputable def sp_pb(K:W.Frag)(d:Adr):Sp:=fun vs H Q _=>∃(a:Addr)(ns:List Int)(m:Int),vs=[.ref a,.int m]/\SqL K H a (ns.map V.int)/\ns.length<=4096/\∀p H',a9 H H'->H p=none->LLI H' p (RM.parts m ns)->Q (.ref p) H'
theorem ok_pb(F:Fun K "parts_between" "parts_between" s_pb f fd)(T:Txt K mg base d):bK P w K mg base CX0 1 f fd ["row","mark"] (sp_pb K d):=by
 refine F.ok sc_pb (fun vs H Q E h=>by obtain⟨a,ns,m,rfl,_⟩:=h;rfl) (fun cdv A outer s H vs Q E hr h=>?_);have hu:=bF hr;obtain⟨a,ns,m,rfl,hS,hlen,k⟩:=h;refine⟨_,(aB (aP (i:=2) sc_pb.nd rfl (Or.inl rfl) (fE aC))
   (aB (aP (i:=3) sc_pb.nd rfl (Or.inl rfl) (fE aC))
   (aB (c9 PassesOwn.never rfl (cS (pv 0)) (aL (i:=4) sc_pb.nd rfl (Or.inl rfl)) (aD (cR (c8 jO (pv 4) (pv 1) (cC _)) (aB (dC (iR PySem.F.plainAttrs_list PySem.F.slot_list_append PySem.F.type_list_append cM (pv 2) (a8 (pv 3) aC)))
   (aD (aP (i:=3) sc_pb.nd rfl (Or.inl rfl) (fE aC)))) (aD (dC (iR PySem.F.plainAttrs_list PySem.F.slot_list_append PySem.F.type_list_append cM (pv 3) (a8 (pv 4) aC)))))))
   (aB (dC (iR PySem.F.plainAttrs_list PySem.F.slot_list_append PySem.F.type_list_append cM (pv 2) (a8 (pv 3) aC)))
   (aD (aR (pv 2))))))),?_⟩
 refine⟨Nat.zero_le _,fun p hp=>?_⟩;refine⟨Nat.zero_le _,fun q hq=>?_⟩;have npq:p≠q:=aH a7 hq;refine⟨_,rfl,a,rfl,⟨_,(a9.trans (a9.upd hp) (a9.upd hq)).seq hS⟩,iY (K:=K) (a:=a) (xs:=ns.map V.int) (fun i σ H2=>∃(q:Addr)(done:List (List Int))(cur:List Int)(xs:List V)(v:Option V),
  σ=[some (.ref a),some (.int m),some (.ref p),some (.ref q),v]/\a9 H H2/\H q=none/\H2 p=some (.lst xs)/\H2 q=some (.lst (cur.map V.int))/\p≠q/\
  Paired (fun v r=>∃b,v=V.ref b/\b≠p/\b≠q/\H2 b=some (.lst (r.map V.int))) xs done/\done++RM.partsFrom m cur (ns.drop i)=RM.parts m ns/\done.length<=i/\cur.length<=i)
  ⟨q,[],[],[],none,rfl,a9.trans (a9.upd hp) (a9.upd hq),(a9.upd hp).free hq,by rw[aA npq,a7],a7,npq,.nil,RM.iB m ns,Nat.le_refl _,Nat.le_refl _⟩
  (fun i σ H2 _ ⟨_,_,_,_,_,_,s2,_⟩=>s2.seq hS) ?_ ?_⟩
 ·rintro i y σ H2 hi ⟨q,done,cur,xs,v,rfl,s2,fq,h1,h2,npq,pr,hd,l1,l2⟩;obtain⟨z,hz,rfl⟩:=CJ hi;have hil:i<ns.length:=(List.getElem?_eq_some_iff.mp hz).1;have lx:=pairs_len pr;rw[RM.drop_cons hz]at hd;refine⟨_,rfl,_,rfl,rfl,_,rfl,?_⟩;refine cJ (fun c=>?_) (fun c=>?_)
  ·have e:z=m:=by simpa using c
   refine⟨_,rfl,.inl ⟨rfl,_,SqL.of h1⟩,_,rfl,p,xs,.ref q,rfl,rfl,h1,few (m:=4096) (by omega),?_⟩;refine⟨Nat.zero_le _,fun q' hq'=>?_⟩;have hp':(upd H2 p (.lst (xs++[.ref q]))) p=some (.lst (xs++[.ref q])):=a7;have hq2:(upd H2 p (.lst (xs++[.ref q]))) q=some (.lst (cur.map V.int)):=by rw[aA npq.symm];exact h2
   have n1:p≠q':=aH hp' hq';have n2:q≠q':=aH hq2 hq';have s3:a9 H (upd H2 p (.lst (xs++[.ref q]))):=a9.put s2 hp;refine⟨q',done++[cur],[],xs++[.ref q],_,rfl,a9.trans s3 (a9.upd hq'),s3.free hq',by rw[aA n1,a7],a7,n1,?_,?_,by rw[List.length_append];simp;omega,Nat.zero_le _⟩
   ·refine bA ⟨q,rfl,npq.symm,n2,by rw[aA n2];exact hq2⟩ (aI (fun v r ⟨b,e1,e2,e3,e4⟩=>?_) pr);have e5:(upd H2 p (.lst (xs++[.ref q]))) b=some (.lst (r.map V.int)):=by rw[aA e2];exact e4
    have n3:b≠q':=aH e5 hq';exact⟨b,e1,e2,n3,by rw[aA n3];exact e5⟩
   ·rw[RM.iC e]at hd;rw[<- hd];simp
  ·have e:¬z=m:=by simpa using c
   refine⟨_,rfl,.inl ⟨rfl,_,SqL.of h2⟩,_,rfl,q,_,.int z,rfl,rfl,h2,by rw[List.length_map];exact few (m:=4096) (by omega),?_⟩;refine⟨q,done,cur++[z],xs,_,rfl,a9.put s2 fq,fq,by rw[aA npq];exact h1,by rw[a7,List.map_append];rfl,npq,aI (fun v r ⟨b,e1,e2,e3,e4⟩=>⟨b,e1,e2,e3,by rw[aA e3];exact e4⟩) pr,?_,by omega,by rw[List.length_append];simp;omega⟩;rw[RM.gM e]at hd;exact hd
 ·rintro σ H2 ⟨q,done,cur,xs,v,rfl,s2,fq,h1,h2,npq,pr,hd,l1,l2⟩;have lx:=pairs_len pr;rw[List.length_map]at hd l1;rw[List.drop_eq_nil_of_le (Nat.le_refl _)]at hd;have hd:done++[cur]=RM.parts m ns:=hd;refine⟨_,rfl,.inl ⟨rfl,_,SqL.of h1⟩,_,rfl,p,xs,.ref q,rfl,rfl,h1,few (m:=4096) (by omega),?_⟩;refine⟨_,rfl,k p _ (a9.put s2 hp) hp ⟨_,a7,?_⟩⟩;rw[<- hd];refine bA ⟨q,rfl,by rw[aA npq.symm];exact h2⟩ (aI (fun v r ⟨b,e1,e2,e3,e4⟩=>⟨b,e1,by rw[aA e2];exact e4⟩) pr)
abbrev s_dt:Stmt:=(top 29)
theorem sc_dt:aK ["value"] ["value"] (aG s_dt):=⟨rfl,rfl,rfl,by decide+kernel,rfl,by decide+kernel,by decide+kernel⟩
noncomputable def sp_dt(K:W.Frag)(d:Adr):Sp:=fun vs H Q E=>∃n:Int,vs=[.int n]/\(∀z,RM.kP n=some z->Q (.int z) H)/\(RM.kP n=none->E (.ref d.bZ) none H)
theorem ok_dt(F:Fun K "digit_told" "digit_told" s_dt f fd)(T:Txt K mg base d):bK P w K mg base CXf 1 f fd ["value"] (sp_dt K d):=by
 refine okX F sc_dt (fun vs H Q E h=>by obtain⟨n,rfl,_⟩:=h;rfl) (fun cdv A outer s H vs Q E hr hok h=>?_);have hu:=bF hr;obtain⟨n,rfl,k1,k2⟩:=h;refine⟨_,(aB (cR (PW.pt (xU (c8 GD (pv 0) (cX T.jH rfl) (cC _)) (sF (c8 uY (pv 0) (cX T.wU rfl) (cC _))))) (aD (dR hok PySem.F.excBase_Exception T.eO rfl)) bJ)
   (aD (aR (cI AK (pv 0) (cX T.jH rfl))))),?_⟩
 refine⟨_,rfl,_,_,rfl,rfl,_,rfl,?_⟩;refine cJ (fun c=>?_) (fun c=>?_)
 ·have c:n<48:=by simpa using c
  exact ED (k2 (by unfold RM.kP;rw[if_pos (.inl c)]))
 ·have c:¬n<48:=by simpa using c
  refine⟨_,rfl,_,_,rfl,rfl,_,rfl,?_⟩;refine cJ (fun c2=>?_) (fun c2=>?_)
  ·have c2:57<n:=by simpa using c2
   exact k2 (by unfold RM.kP;rw[if_pos (.inr c2)])
  ·have c2:¬57<n:=by simpa using c2
   exact⟨_,rfl,_,_,rfl,rfl,k1 _ (by unfold RM.kP;rw[if_neg (by omega)])⟩
abbrev s_nt:Stmt:=(top 30)
theorem sc_nt:aK ["row","number","value"] ["row"] (aG s_nt):=⟨rfl,rfl,rfl,by decide+kernel,rfl,by decide+kernel,by decide+kernel⟩
noncomputable def sp_nt(K:W.Frag)(d:Adr):Sp:=fun vs H Q E=>∃(v:V)(ns:List Int),vs=[v]/\LI H v ns/\ns.length<=4096/\(∀z,RM.dD ns=some z->Q (.int z) H)/\(RM.dD ns=none->E (.ref d.bZ) none H)
theorem ok_nt(F:Fun K "number_told" "number_told" s_nt f fd)(T:Txt K mg base d)(D_dt:aQ P w K mg base CXf 1 "digit_told" ["value"] (sp_dt K d)):bK P w K mg base CXf 2 f fd ["row"] (sp_nt K d):=by
 refine okX F sc_nt (fun vs H Q E h=>by obtain⟨v,ns,rfl,_⟩:=h;rfl) (fun cdv A outer s H vs Q E hr hok h=>?_);have hu:=bF hr;obtain⟨v,ns,rfl,⟨a,rfl,ha⟩,hl,k1,k2⟩:=h;have hS:SqL K H a (ns.map V.int):=SqL.of ha;have el:(ns.map V.int).length=ns.length:=List.length_map ..;refine⟨_,(aB (cR (PW.pt (xU (c8 jO (bM cF (by rfl) T.len PySem.boot_len (a8 (pv 0) aC)) aN (cC _)) (sF (c8 uY (bM cF (by rfl) T.len PySem.boot_len (a8 (pv 0) aC)) (cX T.u5 rfl) (cC _))))) (aD (dR hok PySem.F.excBase_Exception T.eO rfl)) bJ)
   (aB (cR (PW.pt (oV (c8 uY (bM cF (by rfl) T.len PySem.boot_len (a8 (pv 0) aC)) aN (cC _)) (mZ (c8 jO (cN nM (pv 0) aN (fun _ _=>rfl)) (cX T.jH rfl) (cC _))))) (aD (dR hok PySem.F.excBase_Exception T.eO rfl)) bJ)
   (aB (aP (i:=1) sc_nt.nd rfl (Or.inl rfl) aN)
   (aB (c9 PassesOwn.leaving rfl (cS (pv 0)) (aL (i:=2) sc_nt.nd rfl (Or.inl rfl)) (aD (aP (i:=1) sc_nt.nd rfl (Or.inl rfl) (cI gN (cI p9 (pv 1) aN) (aU D_dt (hm hr) (y8 hok) rfl (a8 (pv 2) aC))))))
   (aB (cR (c8 uY (pv 1) (cX T.nQ rfl) (cC _)) (aD (dR hok PySem.F.excBase_Exception T.eO rfl)) bJ)
   (aD (aR (pv 1)))))))),?_⟩
 refine⟨_,rfl,a,_,rfl,.inl hS,rfl,_,rfl,?_⟩;refine cJ (fun c=>?_) (fun c=>?_)
 ·have c:ns.length=0:=by simpa using c
  exact ED (k2 (by unfold RM.dD;rw[if_pos (.inl c)]))
 have c:¬ns.length=0:=by simpa using c
 refine⟨_,rfl,a,_,rfl,.inl hS,_,_,rfl,rfl,_,rfl,?_⟩;refine cJ (fun c2=>?_) (fun c2=>?_)
 ·have c2:2<ns.length:=by have:=of_decide_eq_true c2;rw[el]at this;omega
  exact k2 (by unfold RM.dD;rw[if_pos (.inr c2)])
 have c2:¬2<ns.length:=by intro z;exact c2 (decide_eq_true (by rw[el];omega))
 have n1:¬(ns.length=0\/2<ns.length):=by omega
 refine(fun(rest:¬(1<ns.length/\ns.head?=some 48)->?R)=>?main) ?hr;case main=>
  refine⟨_,rfl,a,_,rfl,.inl hS,_,_,rfl,rfl,_,rfl,?_⟩;refine cJ (fun c3=>?_) (fun c3=>?_)
  ·have c3:1<ns.length:=by have:=of_decide_eq_true c3;rw[el]at this;omega
   obtain⟨y,hy⟩:∃y,ns[0]? =some y:=⟨ns[0],List.getElem?_eq_getElem (by omega)⟩
   refine⟨_,rfl,a,_,_,_,rfl,rfl,hS,bQ (v:=V.int y) (by decide) (by rw[List.getElem?_map];show ns[0]?.map V.int=_;rw[hy];rfl),rfl,_,rfl,?_⟩;have hh:ns.head?=some y:=by rw[List.head?_eq_getElem?];exact hy
   refine cJ (fun c4=>?_) (fun c4=>?_)
   ·have c4:y=48:=by simpa using c4
    exact k2 (by unfold RM.dD;rw[if_neg n1,if_pos ⟨c3,by rw[hh,c4]⟩])
   ·have c4:¬y=48:=by simpa using c4
    exact rest fun z=>c4 (by have:=z.2;rw[hh]at this;exact Option.some.inj this)
  ·have c3:¬1<ns.length:=by intro z;exact c3 (decide_eq_true (by rw[el];omega))
   exact GS (rest fun z=>c3 z.1)
 case hr=>
  intro c3;have nb:∀o,ns.foldlM RM.gX 0=o->RM.dD ns=o.bind fun n=>if 64<n then none else some n:=fun o e=>by unfold RM.dD;rw[if_neg n1,if_neg c3,e]
  refine⟨_,rfl,a,rfl,⟨_,hS⟩,iY (K:=K) (a:=a) (xs:=ns.map V.int) (fun i σ H2=>H2=H/\∃(n:Int)(v:Option V),σ=[some (.ref a),some (.int n),v]/\(ns.take i).foldlM RM.gX 0=some n)
   ⟨rfl,0,none,rfl,rfl⟩ (fun i σ H2 _ ⟨e,_⟩=>by rw[e];exact hS) ?_ ?_⟩
  ·rintro i y σ H2 hi ⟨rfl,n,v,rfl,hn⟩;obtain⟨z,hz,rfl⟩:=CJ hi;refine⟨_,rfl,_,_,rfl,rfl,.inr ⟨by decide,by decide⟩,_,rfl,z,rfl,fun q hq=>⟨_,_,rfl,rfl,rfl,_,_,rfl,?_⟩,fun hq=>?_⟩
   ·rw[RM.qQ hn hz];unfold RM.gX;rw[hq];rfl
   ·refine k2 ?_;have e:RM.gX n z=none:=by unfold RM.gX;rw[hq];rfl
    rw[nb _ (RM.zF hn hz e)];rfl
  ·rintro σ H2 ⟨rfl,n,v,rfl,hn⟩;rw[el,List.take_of_length_le (Nat.le_refl _)]at hn;refine⟨_,rfl,_,_,rfl,rfl,_,rfl,?_⟩;refine cJ (fun c4=>?_) (fun c4=>?_)
   ·have c4:64<n:=by simpa using c4
    exact k2 (by rw[nb _ hn];show(if 64<n then none else some n)=none;rw[if_pos c4])
   ·have c4:¬64<n:=by simpa using c4
    exact⟨_,rfl,k1 n (by rw[nb _ hn];show(if 64<n then none else some n)=some n;rw[if_neg c4])⟩
abbrev s_ct:Stmt:=(top 31)
theorem sc_ct:aK ["row","numbers","part"] ["row"] (aG s_ct):=⟨rfl,rfl,rfl,by decide+kernel,rfl,by decide+kernel,by decide+kernel⟩
def MD:List Int->Option (Int×Int)
 |[a,b]=>some (a,b)
 |_=>none
noncomputable def sp_ct(K:W.Frag)(d:Adr):Sp:=fun vs H Q E=>∃(v:V)(ns:List Int),vs=[v]/\LI H v ns/\ns.length<=4096/\(∀z,RM.dF ns=some z->∀r H',a9 H H'->T2 H' r z->Q r H')/\(RM.dF ns=none->E (.ref d.bZ) none H)
theorem ok_ct(F:Fun K "corner_told" "corner_told" s_ct f fd)(T:Txt K mg base d)(D_pb:aQ P w K mg base CX0 1 "parts_between" ["row","mark"] (sp_pb K d))(D_nt:aQ P w K mg base CXf 2 "number_told" ["row"] (sp_nt K d)):bK P w K mg base CXf 3 f fd ["row"] (sp_ct K d):=by
 refine okX F sc_ct (fun vs H Q E h=>by obtain⟨v,ns,rfl,_⟩:=h;rfl) (fun cdv A outer s H vs Q E hr hok h=>?_);have hu:=bF hr;obtain⟨v,ns,rfl,⟨a,rfl,ha⟩,hl,k1,k2⟩:=h;refine⟨_,(aB (uR hok (i:=1) (own:=[("part",2)]) rfl sc_ct.nd rfl rfl (by exact r8 rfl rfl rfl rfl) (cS (aU D_pb (hm hr) aX rfl (a8 (pv 0) (a8 (cX T.JN rfl) aC)))) (cU (by first|decide+kernel|kernel_rfl)) (fun _ _ _ _ _=>(aL (i:=2) sc_ct.nd rfl (Or.inl rfl))) (fun _ _ _ _ _ hk=>(aU D_nt (hm hr) (GA (E':=fun c=>E c none H) hk) rfl (a8 (pv 2) aC))))
   (aB (cR (c8 K7 (bM cF (by rfl) T.len PySem.boot_len (a8 (pv 1) aC)) aN (cC _)) (aD (dR hok PySem.F.excBase_Exception T.eO rfl)) bJ)
   (aD (aR (dZ (a8 (cN nM (pv 1) aN (fun _ _=>rfl)) (a8 (cN nM (pv 1) aN (fun _ _=>rfl)) aC))))))),?_⟩
 refine⟨_,rfl,a,ns,44,rfl,SqL.of ha,hl,fun p H1 sm fp ⟨xs,hp,pr⟩=>⟨p,rfl,⟨_,SqL.of hp⟩,fun D hD=>fL (K:=K) (a:=p) (xs:=xs)
  (fun i H2=>a9 H1 H2/\∃zs,H2 D=some (.lst (zs.map V.int))/\((RM.parts 44 ns).take i).mapM RM.dD=some zs) ⟨a9.upd hD,[],a7,rfl⟩ (fun i H2 _ ⟨s2,_⟩=>s2.seq (SqL.of hp)) ?_ ?_⟩⟩
 ·rintro i x H2 hx ⟨s2,zs,h2,hz⟩;obtain⟨row,hrow,lrow⟩:=pairs_at pr hx;have hm:=List.mem_of_getElem? hrow;have l1:zs.length<=4097:=by have:=RM.sO hz;have h3:=RM.p8 44 ns;rw[List.length_take]at this;omega
  refine⟨rfl,?_⟩;refine⟨_,rfl,x,row,rfl,lrow.mono s2,Nat.le_trans (RM.iA hm) hl,fun z hz'=>⟨_,h2,by rw[List.length_map];exact few l1,a9.put s2 hD,zs++[z],by rw[a7,List.map_append];rfl,RM.pD hz hrow hz'⟩,fun hn=>k2 ?_⟩;unfold RM.dF;rw[RM.pE hm hn];rfl
 ·rintro H2 ⟨s2,zs,h2,hz⟩;rw[pairs_len pr,List.take_of_length_le (Nat.le_refl _)]at hz;refine⟨_,rfl,D,_,rfl,.inl (SqL.of h2),rfl,_,rfl,?_⟩;have hc:RM.dF ns=MD zs:=by
   unfold RM.dF;rw[hz];match zs with
   |[]=>rfl
   |[_]=>rfl
   |[_,_]=>rfl
   |_::_::_::_=>rfl
  refine cJ (fun c=>k2 ?_) (fun c=>?_)
  ·rw[hc];match zs,c with
   |[],_=>rfl
   |[_],_=>rfl
   |[_,_],c=>simp at c
   |_::_::_::_,_=>rfl
  ·match zs,c,hc,h2 with
   |[],c,_,_=>simp at c
   |[_],c,_,_=>simp at c
   |_::_::_::_,c,_,_=>simp at c;omega
   |[x,y],_,hc,h2=>refine⟨_,rfl,D,_,_,_,rfl,rfl,SqL.of h2,bQ (v:=V.int x) (by decide) rfl,_,rfl,D,_,_,_,rfl,rfl,SqL.of h2,bQ (v:=V.int y) (by decide) rfl,(by show 2<=sizeLine;decide),fun t ht=>?_⟩;exact k1 (x,y) hc _ _ (a9.trans sm (a9.trans s2 (a9.upd ht))) ⟨t,rfl,a7⟩
abbrev s_wt:Stmt:=(top 32)
theorem sc_wt:aK ["row","corners","part"] ["row"] (aG s_wt):=⟨rfl,rfl,rfl,by decide+kernel,rfl,by decide+kernel,by decide+kernel⟩
noncomputable def sp_wt(K:W.Frag)(d:Adr):Sp:=fun vs H Q E=>∃(v:V)(ns:List Int),vs=[v]/\LI H v ns/\ns.length<=4096/\(∀z,RM.iO ns=some z->∀r H',a9 H H'->H r=none->LT H' (.ref r) z->Q (.ref r) H')/\(RM.iO ns=none->E (.ref d.bZ) none H)
theorem ok_wt(F:Fun K "walk_told" "walk_told" s_wt f fd)(T:Txt K mg base d)(D_pb:aQ P w K mg base CX0 1 "parts_between" ["row","mark"] (sp_pb K d))(D_ct:aQ P w K mg base CXf 3 "corner_told" ["row"] (sp_ct K d)):bK P w K mg base CXf 4 f fd ["row"] (sp_wt K d):=by
 refine okX F sc_wt (fun vs H Q E h=>by obtain⟨v,ns,rfl,_⟩:=h;rfl) (fun cdv A outer s H vs Q E hr hok h=>?_);have hu:=bF hr;obtain⟨v,ns,rfl,⟨a,rfl,ha⟩,hl,k1,k2⟩:=h;refine⟨_,(aB (uR hok (i:=1) (own:=[("part",2)]) rfl sc_wt.nd rfl rfl (by exact r8 rfl rfl rfl rfl) (cS (aU D_pb (hm hr) aX rfl (a8 (pv 0) (a8 (cX T.JO rfl) aC)))) (cU (by first|decide+kernel|kernel_rfl)) (fun _ _ _ _ _=>(aL (i:=2) sc_wt.nd rfl (Or.inl rfl))) (fun _ _ _ _ _ hk=>(aU D_ct (hm hr) (GA (E':=fun c=>E c none H) hk) rfl (a8 (pv 2) aC))))
   (aB (cR (c8 GD (bM cF (by rfl) T.len PySem.boot_len (a8 (pv 1) aC)) (cX T.pN rfl) (cC _)) (aD (dR hok PySem.F.excBase_Exception T.eO rfl)) bJ)
   (aD (aR (pv 1))))),?_⟩
 refine⟨_,rfl,a,ns,32,rfl,SqL.of ha,hl,fun p H1 sm fp ⟨xs,hp,pr⟩=>⟨p,rfl,⟨_,SqL.of hp⟩,fun D hD=>fL (K:=K) (a:=p) (xs:=xs)
  (fun i H2=>a9 H1 H2/\∃ys zs,H2 D=some (.lst ys)/\Paired (T2 H2) ys zs/\((RM.parts 32 ns).take i).mapM RM.dF=some zs) ⟨a9.upd hD,[],[],a7,.nil,rfl⟩ (fun i H2 _ ⟨s2,_⟩=>s2.seq (SqL.of hp)) ?_ ?_⟩⟩
 ·rintro i x H2 hx ⟨s2,ys,zs,h2,py,hz⟩;obtain⟨row,hrow,lrow⟩:=pairs_at pr hx;have hm:=List.mem_of_getElem? hrow;have l1:ys.length<=4097:=by have:=RM.sO hz;have h3:=RM.p8 32 ns;rw[List.length_take]at this;have:=pairs_len py;omega
  refine⟨rfl,?_⟩;refine⟨_,rfl,x,row,rfl,lrow.mono s2,Nat.le_trans (RM.iA hm) hl,fun z hz' r H3 s3 t3=>?_,fun hn=>k2 ?_⟩
  ·have h3:=s3 _ _ h2;refine⟨ys,h3,few l1,a9.put (a9.trans s2 s3) hD,ys++[r],zs++[z],a7,bA (t3.upd h3) (aI (fun _ _ q=>(q.mono s3).upd h3) py),RM.pD hz hrow hz'⟩
  ·unfold RM.iO;rw[RM.pE hm hn];rfl
 ·rintro H2 ⟨s2,ys,zs,h2,py,hz⟩;rw[pairs_len pr,List.take_of_length_le (Nat.le_refl _)]at hz;have hc:RM.iO ns=(if zs.length<4 then none else some zs):=by unfold RM.iO;rw[hz];rfl
  have ly:=pairs_len py;refine⟨_,rfl,D,_,rfl,.inl (SqL.of h2),_,_,rfl,rfl,_,rfl,?_⟩;refine cJ (fun c=>k2 ?_) (fun c=>?_)
  ·have c:=of_decide_eq_true c;rw[hc,if_pos (by omega)]
  ·have c:¬zs.length<4:=fun z=>c (decide_eq_true (by omega))
   exact⟨_,rfl,k1 zs (by rw[hc,if_neg c]) D H2 (a9.trans sm s2) (sm.free hD) ⟨D,ys,rfl,h2,py⟩⟩
abbrev s_wt2:Stmt:=(top 33)
theorem sc_wt2:aK ["t","rows","rest","row"] ["t"] (aG s_wt2):=⟨rfl,rfl,rfl,by decide+kernel,rfl,by decide+kernel,by decide+kernel⟩
noncomputable def sp_wt2(K:W.Frag)(d:Adr):Sp:=fun vs H Q E=>∃(a:Addr)(ns:List Int),vs=[.ref a]/\SqL K H a (ns.map V.int)/\ns.length<=4096/\(∀z,RM.eJ ns=some z->∀r H',a9 H H'->LLT H' r z->Q r H')/\(RM.eJ ns=none->E (.ref d.bZ) none H)
theorem ok_wt2(F:Fun K "walks_told" "walks_told" s_wt2 f fd)(T:Txt K mg base d)(D_pb:aQ P w K mg base CX0 1 "parts_between" ["row","mark"] (sp_pb K d))(D_wt:aQ P w K mg base CXf 4 "walk_told" ["row"] (sp_wt K d)):bK P w K mg base CXf 5 f fd ["t"] (sp_wt2 K d):=by
 refine okX F sc_wt2 (fun vs H Q E h=>by obtain⟨a,ns,rfl,_⟩:=h;rfl) (fun cdv A outer s H vs Q E hr hok h=>?_);have hu:=bF hr;obtain⟨a,ns,rfl,hS,hl,k1,k2⟩:=h;refine⟨_,(aB (aP (i:=1) sc_wt2.nd rfl (Or.inl rfl) (aU D_pb (hm hr) aX rfl (a8 (pv 0) (a8 (cX T.zB rfl) aC))))
   (aB (aP (i:=2) sc_wt2.nd rfl (Or.inl rfl) (AE PySem.F.plainAttrs_list PySem.F.slot_list_pop PySem.F.type_list_pop AR (pv 1)))
   (aB (cR (PW.pt (xU (c8 uY (bM cF (by rfl) T.len PySem.boot_len (a8 (pv 2) aC)) aN (cC _)) (sF (c8 jO (bM cF (by rfl) T.len PySem.boot_len (a8 (pv 1) aC)) aN (cC _))))) (aD (dR hok PySem.F.excBase_Exception T.eO rfl)) bJ)
   (aD (aR (L8 hok (own:=[("row",3)]) rfl sc_wt2.nd (cS (pv 1)) (cU (by first|decide+kernel|kernel_rfl)) (fun _ _ _ _ _=>(aL (i:=3) sc_wt2.nd rfl (Or.inl rfl))) (fun _ _ _ _ _ hk=>(aU D_wt (hm hr) (GA (E':=fun c=>E c none H) hk) rfl (a8 (pv 3) aC))))))))),?_⟩
 refine⟨_,rfl,a,ns,10,rfl,hS,hl,fun p H1 sm fp ⟨xs,hp,pr⟩=>?_⟩;have lp:=RM.p8 10 ns;have lx:=pairs_len pr;have hne:RM.parts 10 ns≠[]:=RM.y9 10 ns;have l0:0<(RM.parts 10 ns).length:=List.length_pos_iff.mpr hne;obtain⟨last,hlast⟩:∃last,(RM.parts 10 ns)[(RM.parts 10 ns).length - 1]? =some last:=⟨_,List.getElem?_eq_getElem (by omega)⟩
 obtain⟨y,hy,ly⟩:=iS pr hlast;have hgl:(RM.parts 10 ns).getLast?=some last:=by rw[List.getLast?_eq_getElem?];exact hlast
 obtain⟨b,rfl,nb,hb⟩:=LLI.apart hp (List.mem_of_getElem? hy) ly;refine⟨_,rfl,.inl ⟨rfl,_,SqL.of hp⟩,p,xs,.ref b,rfl,rfl,hp,by rw[lx];exact hy,?_⟩;have hb2:(upd H1 p (.lst xs.dropLast)) b=some (.lst (last.map V.int)):=by rw[aA nb];exact hb
 have hp2:(upd H1 p (.lst xs.dropLast)) p=some (.lst xs.dropLast):=a7;have s2:a9 H (upd H1 p (.lst xs.dropLast)):=a9.put sm fp;have pr2:Paired (LI (upd H1 p (.lst xs.dropLast))) xs.dropLast (RM.parts 10 ns).dropLast:=by refine aI (fun v r ⟨h1,h2,h3⟩=>?_) (eX (lK pr));obtain⟨c,rfl,nc,hc⟩:=LLI.apart hp h1 h3;exact⟨c,rfl,by rw[aA nc];exact hc⟩
 have ld:xs.dropLast.length=(RM.parts 10 ns).dropLast.length:=pairs_len pr2;refine⟨_,rfl,b,_,rfl,.inl (SqL.of hb2),_,_,rfl,rfl,_,rfl,?_⟩;refine cJ (fun c=>?_) (fun c=>?_)
 ·have c:0<last.length:=by have:=of_decide_eq_true c;rw[List.length_map]at this;omega
  have hx:(RM.parts 10 ns).getLast?≠some []:=by rw[hgl];intro z;cases z;simp at c
  refine ED (k2 ?_);unfold RM.eJ;rw[if_pos (.inl hx)]
 have c:last=[]:=by
  apply List.eq_nil_of_length_eq_zero;have:¬((0:Int)<((last.map V.int).length:Int)):=fun z=>c (decide_eq_true z)
  rw[List.length_map]at this;omega
 refine⟨_,rfl,p,_,rfl,.inl (SqL.of hp2),rfl,_,rfl,?_⟩;refine cJ (fun c2=>k2 ?_) (fun c2=>?_)
 ·have c2:xs.dropLast.length=0:=by have:=of_decide_eq_true c2;simpa using this
  unfold RM.eJ;rw[if_pos (.inr (List.eq_nil_of_length_eq_zero (by omega)))]
 have c2:¬(RM.parts 10 ns).dropLast=[]:=fun z=>c2 (decide_eq_true (by rw[ld,z];rfl))
 have hw:RM.eJ ns=(RM.parts 10 ns).dropLast.mapM RM.iO:=by unfold RM.eJ;rw[if_neg (by rintro(z|z);exact z (by rw[hgl,c]);exact c2 z)]
 refine⟨_,rfl,p,rfl,⟨_,SqL.of hp2⟩,fun D hD=>fL (K:=K) (a:=p) (xs:=xs.dropLast)
  (fun i H2=>a9 (upd H1 p (.lst xs.dropLast)) H2/\∃ys zs,H2 D=some (.lst ys)/\Paired (fun v z=>∃b,v=.ref b/\b≠D/\LT H2 (.ref b) z) ys zs/\((RM.parts 10 ns).dropLast.take i).mapM RM.iO=some zs) ⟨a9.upd hD,[],[],a7,.nil,rfl⟩ (fun i H2 _ ⟨s2,_⟩=>s2.seq (SqL.of hp2)) ?_ ?_⟩
 ·rintro i x H2 hx ⟨s3,ys,zs,h2,py,hz⟩;obtain⟨row,hrow,lrow⟩:=pairs_at pr2 hx;have hm:=List.mem_of_getElem? hrow;have l1:ys.length<=4097:=by
   have:=RM.sO hz;rw[List.length_take]at this;have:=pairs_len py;have:(RM.parts 10 ns).dropLast.length<=(RM.parts 10 ns).length:=by rw[List.length_dropLast];omega
   omega
  refine⟨rfl,?_⟩;refine⟨_,rfl,x,row,rfl,lrow.mono s3,Nat.le_trans (RM.iA (nL hm)) hl,fun z hz' r H3 s4 fr t3=>?_,fun hn=>k2 ?_⟩
  ·have h3:=s4 _ _ h2;have nr:r≠D:=fun z=>by rw[z,h2]at fr;cases fr
   refine⟨ys,h3,few l1,a9.put (a9.trans s3 s4) hD,ys++[.ref r],zs++[z],a7,bA ⟨r,rfl,nr,t3.upd h3 nr⟩ (aI (fun _ _ ⟨b,e,n,q⟩=>⟨b,e,n,(q.mono s4).upd h3 n⟩) py),RM.pD hz hrow hz'⟩
  ·rw[hw];exact RM.pE hm hn
 ·rintro H2 ⟨s3,ys,zs,h2,py,hz⟩;rw[ld,List.take_of_length_le (Nat.le_refl _)]at hz;exact k1 zs (by rw[hw,hz]) _ H2 (a9.trans s2 s3) ⟨D,ys,rfl,h2,aI (fun _ _ ⟨b,e,n,q⟩=>by rw[e];exact q) py⟩
abbrev s_far:Stmt:=(top 37)
theorem sc_far:aK ["walks","feet","walk","number","corner","before","y"] ["walks"] (aG s_far):=⟨rfl,rfl,rfl,by decide+kernel,rfl,by decide+kernel,by decide+kernel⟩
noncomputable def sp_far(K:W.Frag)(d:Adr):Sp:=fun vs H Q _=>∃(v:V)(W:List Roof.Walk),vs=[v]/\LLT H v (RM.iWs W)/\RM.sL W/\∀a kvs H',a9 H H'->H a=none->D2 H' a kvs->(∀x y:Nat,((((x:Int),(y:Int)):PI)∈kvs.map (·.1))↔RM.dM W x y=true)->Q (.ref a) H'
theorem ok_far(F:Fun K "feet_across_rows" "feet_across_rows" s_far f fd)(T:Txt K mg base d):bK P w K mg base CX0 1 f fd ["walks"] (sp_far K d):=by
 refine F.ok sc_far (fun vs H Q E h=>by obtain⟨v,W,rfl,_⟩:=h;rfl) (fun cdv A outer s H vs Q E hr h=>?_);have hu:=bF hr;obtain⟨v,W,rfl,⟨a,xs,rfl,ha,pr⟩,ok,k⟩:=h;have hin:=RM.J0 ok;refine⟨_,(aB (aP (i:=1) sc_far.nd rfl (Or.inl rfl) dG)
   (aB (c9 PassesOwn.never rfl (cS (pv 0)) (aL (i:=2) sc_far.nd rfl (Or.inl rfl)) (aD (c9 PassesOwn.never rfl (IW rfl T.enumerate (a8 (pv 2) aC)) (kA rfl (bE (aL (i:=3) sc_far.nd rfl (Or.inl rfl)) (bE (aL (i:=4) sc_far.nd rfl (Or.inl rfl)) fJ))) (aB (aP (i:=5) sc_far.nd rfl (Or.inl rfl) (cN nM (pv 2) (cI AK (pv 3) aN) (fun _ _=>rfl)))
   (aD (cR (c8 jO (cN cD (pv 4) aN (fun _ _=>rfl)) (cN cD (pv 5) aN (fun _ _=>rfl)) (cC _)) (aD (c9 PassesOwn.never rfl (DT rfl T.range (a8 (bM (F3 rfl) (by rfl) T.min (by rfl) (a8 (cN cD (pv 4) aN (fun _ _=>rfl)) (a8 (cN cD (pv 5) aN (fun _ _=>rfl)) aC))) (a8 (bM (F4 rfl) (by rfl) T.max (by rfl) (a8 (cN cD (pv 4) aN (fun _ _=>rfl)) (a8 (cN cD (pv 5) aN (fun _ _=>rfl)) aC))) aC))) (aL (i:=6) sc_far.nd rfl (Or.inl rfl)) (aD (eV hu (pv 1) (dZ (a8 (cN cD (pv 4) aN (fun _ _=>rfl)) (a8 (pv 6) aC))) jN rfl)))) bJ))))))
   (aD (aR (pv 1))))),?_⟩
 refine fun p hp=>?_
 have s1:a9 H (upd H p (.dT [])):=a9.upd hp;refine⟨_,rfl,a,rfl,⟨_,s1.seq (SqL.of ha)⟩,iY (K:=K) (a:=a) (xs:=xs) (fun i σ H2=>∃(kvs:List (PI×V))(v2 v3 v4 v5 v6:Option V),σ=[some (.ref a),some (.ref p),v2,v3,v4,v5,v6]/\a9 H H2/\D2 H2 p kvs/\RM.Tbl kvs (RM.jJ (RM.iWs W) i))
  ⟨[],none,none,none,none,none,rfl,s1,a7,RM.Tbl.nil.iff fun q=>(RM.zC _ q).symm⟩ (fun i σ H2 _ ⟨_,_,_,_,_,_,_,s2,_⟩=>s2.seq (SqL.of ha)) ?_ ?_⟩
 ·rintro i y σ H2 hi ⟨kvs,v2,v3,v4,v5,v6,rfl,s2,hD,tb⟩;obtain⟨w,hw,b,ys,rfl,hb,prw⟩:=pairs_at pr hi;have hwm:=List.mem_of_getElem? hw;have lw:=pairs_len prw;refine⟨_,rfl,b,ys,rfl,s2.seq (SqL.of hb),HF (K:=K) (a:=b) (xs:=ys) (fun k σ H3=>∃(kvs:List (PI×V))(v3 v4 v5 v6:Option V),σ=[some (.ref a),some (.ref p),some (.ref b),v3,v4,v5,v6]/\a9 H H3/\D2 H3 p kvs/\RM.Tbl kvs (RM.m6 (RM.iWs W) i w k))
   ⟨kvs,v3,v4,v5,v6,rfl,s2,hD,tb.iff fun q=>(RM.BE _ _ _ q).symm⟩ (fun i σ H2 _ ⟨_,_,_,_,_,_,s2,_⟩=>s2.seq (SqL.of hb)) ?_ ?_⟩
  ·rintro j z σ H3 Tt hj ⟨kvs,v3,v4,v5,v6,rfl,s3,hD,tb⟩ hT;obtain⟨c,hc,ca,rfl,hca⟩:=pairs_at prw hj;have hjl:j<ys.length:=(List.getElem?_eq_some_iff.mp hj).1;have hpl:RM.n6 w.length j<w.length:=by unfold RM.n6;split<;>omega
   obtain⟨e,he⟩:∃e,w[RM.n6 w.length j]? =some e:=⟨_,List.getElem?_eq_getElem hpl⟩
   obtain⟨ye,hye,ea,rfl,hea⟩:=iS prw he;have s4:a9 H (upd H3 Tt (.tup [.int (j:Nat),.ref ca])):=a9.trans s3 (a9.upd hT);have o1:=hin w hwm c (List.mem_of_getElem? hc);have o2:=hin w hwm e (List.mem_of_getElem? he);have nT:p≠Tt:=aH hD hT;have hD4:D2 (upd H3 Tt (.tup [.int (j:Nat),.ref ca])) p kvs:=by unfold D2;rw[aA nT];exact hD
   refine⟨Tt,_,rfl,SqT.of a7,rfl,_,_,rfl,_,_,rfl,rfl,_,rfl,_,rfl,_,_,rfl,rfl,b,_,_,_,rfl,rfl,s4.seq (SqL.of hb),HW hjl (by unfold RM.n6 at hye;rw[lw];exact hye),?_⟩;generalize (upd H3 Tt (.tup [.int (j:Nat),.ref ca]))=H4 at s4 hD4 ⊢;refine⟨_,rfl,ca,_,_,_,rfl,rfl,SqT.of (s4 _ _ hca),bQ (by decide) rfl,_,rfl,ea,_,_,_,rfl,rfl,SqT.of (s4 _ _ hea),bQ (by decide) rfl,rfl,_,rfl,?_⟩;refine cJ (fun cq=>?_) (fun cq=>?_)
   ·have cq:c.1=e.1:=by simpa using cq
    refine⟨_,rfl,ca,_,_,_,rfl,rfl,SqT.of (s4 _ _ hca),bQ (by decide) rfl,_,rfl,ea,_,_,_,rfl,rfl,SqT.of (s4 _ _ hea),bQ (by decide) rfl,_,_,rfl,_,rfl,ca,_,_,_,rfl,rfl,SqT.of (s4 _ _ hca),bQ (by decide) rfl,_,rfl,ea,_,_,_,rfl,rfl,SqT.of (s4 _ _ hea),bQ (by decide) rfl,_,_,rfl,_,_,rfl,⟨by split<;>omega,by split<;>omega,by split<;>omega,by split<;>omega⟩,?_⟩;have emin:(if e.2<c.2 then e.2 else c.2)=min c.2 e.2:=by split<;>omega
    have emax:(if e.2>c.2 then e.2 else c.2)=max c.2 e.2:=by split<;>omega
    rw[emin,emax];refine pO (lo:=min c.2 e.2) (n:=(max c.2 e.2 - min c.2 e.2).toNat) (fun m σ H5=>∃(kvs:List (PI×V))(v6:Option V),σ=[some (.ref a),some (.ref p),some (.ref b),some (.int (j:Nat)),some (.ref ca),some (.ref ea),v6]/\a9 H H5/\D2 H5 p kvs/\RM.Tbl kvs (fun q=>RM.m6 (RM.iWs W) i w j q\/(q.1=c.1/\min c.2 e.2<=q.2/\q.2<min c.2 e.2+m)))
     ⟨kvs,v6,rfl,s4,hD4,tb.iff fun q=>⟨.inl,fun z=>z.elim id fun z=>by omega⟩⟩ ?_ ?_
    ·rintro m σ H5 hm ⟨kvs,v6,rfl,s5,hD5,tb⟩;refine⟨_,rfl,_,rfl,ca,_,_,_,rfl,rfl,SqT.of (s5 _ _ hca),bQ (by decide) rfl,_,rfl,(by show 2<=sizeLine;decide),fun t ht=>?_⟩;have nt:p≠t:=aH hD5 ht;have hD6:D2 (upd H5 t (.tup [.int c.1,.int (min c.2 e.2+m)])) p kvs:=by unfold D2;rw[aA nt];exact hD5
     have hl:kvs.length<=4225:=by
      rw[<- RM.JW];refine tb.len fun q z=>?_
      rcases z with z|z
      ·exact RM.EI hin hwm z
      ·exact RM.CY (by omega) (by omega) (by omega) (by omega)
     refine⟨p,_,rfl,D2.put (p:=(c.1,min c.2 e.2+m)) hD6 a7 (.bl true) (few hl),RM.cV kvs (c.1,min c.2 e.2+m) (.bl true),_,rfl,a9.put (a9.trans s5 (a9.upd ht)) hp,a7,(tb.put _ _).iff fun q=>?_⟩;constructor
     ·rintro((z|z)|z)
      ·exact .inl z
      ·exact .inr (by omega)
      ·subst z;exact .inr ⟨rfl,by simp only;omega,by simp only;omega⟩
     ·rintro(z|⟨z1,z2,z3⟩)
      ·exact .inl (.inl z)
      ·by_cases hq:q.2=min c.2 e.2+m
       ·exact .inr (Prod.ext z1 hq)
       ·exact .inl (.inr ⟨z1,z2,by omega⟩)
    ·rintro σ H5 ⟨kvs,v6,rfl,s5,hD5,tb⟩;refine⟨kvs,_,_,_,_,rfl,s5,hD5,tb.iff fun q=>?_⟩;rw[RM.sZ];constructor
     ·rintro(z|⟨z1,z2,z3⟩)
      ·exact .inl z
      ·exact .inr ⟨c,e,hc,he,cq,z1.symm,z2,by omega⟩
     ·rintro(z|⟨c',e',h1,h2,z0,z1,z2,z3⟩)
      ·exact .inl z
      ·rw[hc]at h1;rw[he]at h2;cases h1;cases h2;exact .inr ⟨z1.symm,z2,by omega⟩
   ·have cq:¬c.1=e.1:=by simpa using cq
    refine⟨kvs,_,_,_,_,rfl,s4,hD4,tb.iff fun q=>?_⟩;rw[RM.sZ];constructor
    ·exact .inl
    ·rintro(z|⟨c',e',h1,h2,z0,z1,z2,z3⟩)
     ·exact z
     ·rw[hc]at h1;rw[he]at h2;cases h1;cases h2;exact absurd z0 cq
  ·rintro σ H3 ⟨kvs,v3,v4,v5,v6,rfl,s3,hD,tb⟩;refine⟨kvs,_,_,_,_,_,rfl,s3,hD,tb.iff fun q=>?_⟩;rw[lw];exact RM.EJ hw q
 ·rintro σ H2 ⟨kvs,v2,v3,v4,v5,v6,rfl,s2,hD,tb⟩;refine⟨_,rfl,k p kvs H2 s2 hp hD fun x y=>?_⟩;rw[tb.2,pairs_len pr];exact RM.BD W x y
abbrev s_cw:Stmt:=(top 38)
theorem sc_cw:aK ["walks","feet","cells","y","inside","x"] ["walks"] (aG s_cw):=⟨rfl,rfl,rfl,by decide+kernel,rfl,by decide+kernel,by decide+kernel⟩
noncomputable def sp_cw(K:W.Frag)(d:Adr):Sp:=fun vs H Q _=>∃(v:V)(W:List Roof.Walk),vs=[v]/\LLT H v (RM.iWs W)/\RM.sL W/\∀a H',a9 H H'->H a=none->D2 H' a (CS (RM.aT (RM.dM W)))->Q (.ref a) H'
theorem ok_cw(F:Fun K "cells_within" "cells_within" s_cw f fd)(T:Txt K mg base d)(D_far:aQ P w K mg base CX0 1 "feet_across_rows" ["walks"] (sp_far K d)):bK P w K mg base CX0 2 f fd ["walks"] (sp_cw K d):=by
 refine F.ok sc_cw (fun vs H Q E h=>by obtain⟨v,W,rfl,_⟩:=h;rfl) (fun cdv A outer s H vs Q E hr h=>?_);have hu:=bF hr;obtain⟨v,W,rfl,hW,ok,k⟩:=h;refine⟨_,(aB (aP (i:=1) sc_cw.nd rfl (Or.inl rfl) (aU D_far (hm hr) aX rfl (a8 (pv 0) aC)))
   (aB (aP (i:=2) sc_cw.nd rfl (Or.inl rfl) dG)
   (aB (c9 PassesOwn.never rfl (uS rfl T.range (a8 (cX T.iX rfl) aC)) (aL (i:=3) sc_cw.nd rfl (Or.inl rfl)) (aB (aP (i:=4) sc_cw.nd rfl (Or.inl rfl) jN)
   (aD (c9 PassesOwn.never rfl (uS rfl T.range (a8 (cX T.iX rfl) aC)) (aL (i:=5) sc_cw.nd rfl (Or.inl rfl)) (aB (cR (fD (AF hu (dZ (a8 (pv 5) (a8 (pv 3) aC))) (pv 1))) (aD (aP (i:=4) sc_cw.nd rfl (Or.inl rfl) (L6 (pv 4)))) bJ)
   (aD (cR (hZ (pv 4) (fun _=>rfl)) (aD (eV hu (pv 2) (dZ (a8 (pv 5) (a8 (pv 3) aC))) jN rfl)) bJ)))))))
   (aD (aR (pv 2)))))),?_⟩
 refine⟨_,rfl,v,W,rfl,hW,ok,fun f kvs H1 s1 hf hF keys p hp=>?_⟩;generalize hFd:RM.dM W=F at keys k;have s2:a9 H1 (upd H1 p (.dT [])):=a9.upd hp;refine⟨_,rfl,by decide,by decide,pO (lo:=0) (n:=64) (fun y σ H2=>∃(v3 v4 v5:Option V),σ=[some v,some (.ref f),some (.ref p),v3,v4,v5]/\a9 H1 H2/\D2 H2 p (CS (RM.iQ F y)))
  ⟨none,none,none,rfl,s2,a7⟩ ?_ ?_⟩
 ·rintro y σ H2 hy ⟨v3,v4,v5,rfl,s3,hD⟩;refine⟨_,rfl,by decide,by decide,pO (lo:=0) (n:=64) (fun x σ H3=>∃(v5:Option V),σ=[some v,some (.ref f),some (.ref p),some (.int (0+(y:Nat))),some (.bl (if x=0 then false else RM.bX F y (x - 1))),v5]/\a9 H1 H3/\D2 H3 p (CS (RM.iQ F y++RM.mC F y x)))
   ⟨v5,rfl,s3,by rw[show RM.mC F y 0=[]from rfl,List.append_nil];exact hD⟩ ?_ ?_⟩
  ·rintro x σ H3 hx ⟨v5,rfl,s3,hD⟩;refine⟨_,rfl,_,rfl,(by show 2<=sizeLine;decide),fun t ht=>?_⟩;have nt:p≠t:=aH hD ht;have s4:a9 H1 (upd H3 t (.tup [.int (0+(x:Nat)),.int (0+(y:Nat))])):=a9.trans s3 (a9.upd ht);have hD4:D2 (upd H3 t (.tup [.int (0+(x:Nat)),.int (0+(y:Nat))])) p (CS (RM.iQ F y++RM.mC F y x)):=by unfold D2;rw[aA nt];exact hD
   refine⟨_,rfl,f,_,rfl,R2.get (p:=((0+(x:Int),0+(y:Int)):PI)) (D2.rd (s4 _ _ hF)) a7,_,rfl,?_⟩;generalize (upd H3 t (.tup [.int (0+(x:Nat)),.int (0+(y:Nat))]))=H4 at s4 hD4 ⊢;have hk:(RM.aJ kvs ((0+(x:Int),0+(y:Int)):PI)).isSome=true↔F x y=true:=by rw[RM.aS,Int.zero_add,Int.zero_add];exact keys x y
   have hnx:=RM.yW F y x;refine cJ (fun c=>?_) (fun c=>?_)
   ·have c:=hk.mp c;refine⟨_,rfl,_,rfl,?_⟩;have eI:(!(if x=0 then false else RM.bX F y (x - 1)))=RM.bX F y x:=by rw[hnx,c];simp
    rw[eI];refine⟨_,rfl,_,rfl,?_⟩;refine cJ (fun ci=>?_) (fun ci=>?_)
    ·refine⟨_,rfl,_,rfl,_,rfl,(by show 2<=sizeLine;decide),fun t ht=>?_⟩;have nt:p≠t:=aH hD4 ht;have hD5:D2 (upd H4 t (.tup [.int (0+(x:Nat)),.int (0+(y:Nat))])) p (CS (RM.iQ F y++RM.mC F y x)):=by unfold D2;rw[aA nt];exact hD4
     refine⟨p,_,rfl,D2.put (p:=((0+(x:Int),0+(y:Int)):PI)) hD5 a7 (.bl true) ?_,some (.int (0+(x:Nat))),by simp,a9.put (a9.trans s4 (a9.upd ht)) hp,?_⟩
     ·rw[pW,List.length_append];have h1:=RM.oU F y;have h2:=RM.rX F y x;exact few (m:=5000) (by omega)
     ·unfold D2;rw[a7,Int.zero_add,Int.zero_add,show(((x:Int),(y:Int)):PI)=RM.iP (x,y)from rfl,D4,RM.lH,if_pos ci,List.append_assoc];intro z;rcases List.mem_append.mp z with z|z
      ·have:=RM.uL z;simp at this
      ·have:=RM.rW z;simp at this
    ·refine⟨some (.int (0+(x:Nat))),by simp,s4,?_⟩;rw[RM.lH,if_neg ci];exact hD4
   ·have c:F x y=false:=by
     have c:¬F x y=true:=fun z=>c (hk.mpr z)
     simpa using c
    have eI:(if x=0 then false else RM.bX F y (x - 1))=RM.bX F y x:=by rw[hnx,c];simp
    rw[eI];refine⟨_,rfl,_,rfl,?_⟩;refine cJ (fun ci=>?_) (fun ci=>?_)
    ·refine⟨_,rfl,_,rfl,_,rfl,(by show 2<=sizeLine;decide),fun t ht=>?_⟩;have nt:p≠t:=aH hD4 ht;have hD5:D2 (upd H4 t (.tup [.int (0+(x:Nat)),.int (0+(y:Nat))])) p (CS (RM.iQ F y++RM.mC F y x)):=by unfold D2;rw[aA nt];exact hD4
     refine⟨p,_,rfl,D2.put (p:=((0+(x:Int),0+(y:Int)):PI)) hD5 a7 (.bl true) ?_,some (.int (0+(x:Nat))),by simp,a9.put (a9.trans s4 (a9.upd ht)) hp,?_⟩
     ·rw[pW,List.length_append];have h1:=RM.oU F y;have h2:=RM.rX F y x;exact few (m:=5000) (by omega)
     ·unfold D2;rw[a7,Int.zero_add,Int.zero_add,show(((x:Int),(y:Int)):PI)=RM.iP (x,y)from rfl,D4,RM.lH,if_pos ci,List.append_assoc];intro z;rcases List.mem_append.mp z with z|z
      ·have:=RM.uL z;simp at this
      ·have:=RM.rW z;simp at this
    ·refine⟨some (.int (0+(x:Nat))),by simp,s4,?_⟩;rw[RM.lH,if_neg ci];exact hD4
  ·rintro σ H3 ⟨v5,rfl,s3,hD⟩;refine⟨_,_,_,rfl,s3,?_⟩;rw[RM.rT];exact hD
 ·rintro σ H2 ⟨v3,v4,v5,rfl,s3,hD⟩;exact⟨_,rfl,k p H2 (a9.trans s1 s3) (s1.free hp) hD⟩
abbrev s_miap:Stmt:=(top 40)
theorem sc_miap:aK ["cell","cells","side","near","far"] ["cell","cells"] (aG s_miap):=⟨rfl,rfl,rfl,by decide+kernel,rfl,by decide+kernel,by decide+kernel⟩
noncomputable def sp_miap(K:W.Frag)(d:Adr):Sp:=fun vs H Q _=>∃(v:V)(p:PI)(c:Addr)(C:List (Nat×Nat)),vs=[v,.ref c]/\T2 H v p/\R2 H c (CS C)/\∀H',a9 H H'->Q (.bl (RM.bB C p 0||(RM.bB C p 1||(RM.bB C p 2||RM.bB C p 3)))) H'
theorem ok_miap(F:Fun K "meets_in_a_point" "meets_in_a_point" s_miap f fd)(T:Txt K mg base d)(D_b:aQ P w K mg base CX0 2 "beyond" ["place","direction"] (sp_b K d))(D_lo:aQ P w K mg base CX0 1 "left_of" ["direction"] (sp_lo K d)):bK P w K mg base CX0 3 f fd ["cell","cells"] (sp_miap K d):=by
 refine F.ok sc_miap (fun vs H Q E h=>by obtain⟨v,p,c,C,rfl,_⟩:=h;rfl) (fun cdv A outer s H vs Q E hr h=>?_);have hu:=bF hr;obtain⟨aALL_SIDES,bI,c_ALL_SIDES⟩:=T.bI;obtain⟨v,p,c,C,rfl,hv,hC,k⟩:=h;have yes:∀i,i<4->RM.bB C p i=true->(RM.bB C p 0||(RM.bB C p 1||(RM.bB C p 2||RM.bB C p 3)))=true:=by
  intro i hi e;have cs:i=0\/i=1\/i=2\/i=3:=by omega
  rcases cs with rfl|rfl|rfl|rfl<;>simp[e]
 refine⟨_,(aB (c9 PassesOwn.never rfl (k9 (fK bI rfl)) (aL (i:=2) sc_miap.nd rfl (Or.inl rfl)) (aB (aP (i:=3) sc_miap.nd rfl (Or.inl rfl) (aU D_b (hm hr) aX rfl (a8 (pv 0) (a8 (pv 2) aC))))
   (aB (aP (i:=4) sc_miap.nd rfl (Or.inl rfl) (aU D_b (hm hr) aX rfl (a8 (pv 0) (a8 (aU D_lo (hm hr) aX rfl (a8 (pv 2) aC)) aC))))
   (aD (cR (PW.pt (oV (fD (d7 hu (pv 3) (pv 1))) (oV (fD (d7 hu (pv 4) (pv 1))) (mZ (fD (AF hu (aU D_b (hm hr) aX rfl (a8 (pv 3) (a8 (aU D_lo (hm hr) aX rfl (a8 (pv 2) aC)) aC))) (pv 1))))))) (aD (aR jN)) bJ)))))
   (aD (aR jN))),?_⟩
 refine⟨_,rfl,⟨_,c_ALL_SIDES _⟩,jI (K:=K) (a:=aALL_SIDES) (xs:=[.int 0,.int 1,.int 2,.int 3]) (fun i σ H2=>∃(v2 v3 v4:Option V),σ=[some v,some (.ref c),v2,v3,v4]/\a9 H H2/\∀j,j<i->RM.bB C p j=false)
  ⟨none,none,none,rfl,(a9.refl _),by intro j hj;omega⟩ (fun i σ H2 _ _=>c_ALL_SIDES H2) ?_ ?_⟩
 ·rintro i x σ H2 hx ⟨v2,v3,v4,rfl,s2,old⟩;obtain⟨hi,rfl⟩:=mX hx;have nxt:RM.bB C p i=false->∀j,j<i+1->RM.bB C p j=false:=fun e j hj=>by
   by_cases h:j=i
   ·rw[h];exact e
   ·exact old j (by omega)
  refine⟨_,rfl,_,rfl,v,p,i,rfl,(hv.mono s2).c,hi,fun n H3 s3 t3=>?_⟩;refine⟨_,rfl,_,rfl,_,rfl,v,p,(i+1)%4,by simp,(hv.mono (a9.trans s2 s3)).c,by omega,fun f H4 s4 t4=>?_⟩;have s24:a9 H H4:=a9.trans s2 (a9.trans s3 s4);obtain⟨na,rfl,hna⟩:=t3.mono s4;obtain⟨fa,rfl,hfa⟩:=t4;refine⟨_,rfl,_,rfl,c,_,rfl,R2.get (p:=RM.aO p i) (hC.mono s24) hna,_,rfl,?_⟩;rw[zU];refine cJ (fun c1=>?_) (fun c1=>GS ?_)
  ·refine⟨_,rfl,_,rfl,c,_,rfl,R2.get (p:=RM.aO p ((i+1)%4)) (hC.mono s24) hfa,_,rfl,?_⟩;rw[zU];refine cJ (fun c2=>?_) (fun c2=>GS ?_)
   ·refine⟨_,rfl,_,rfl,_,rfl,.ref na,RM.aO p i,(i+1)%4,by simp,T2.c ⟨na,rfl,hna⟩,by omega,fun g H5 s5 t5=>?_⟩;obtain⟨ga,rfl,hga⟩:=t5;refine⟨_,rfl,c,_,rfl,R2.get (p:=RM.aO (RM.aO p i) ((i+1)%4)) (hC.mono (a9.trans s24 s5)) hga,_,rfl,?_⟩;rw[zU];refine cJ (fun c3=>?_) (fun c3=>?_)
    ·have e:RM.bB C p i=true:=by unfold RM.bB;rw[c1,c2,c3];rfl
     have h:=k H5 (a9.trans s24 s5);rw[yes i hi e]at h;exact h
    ·exact⟨_,_,_,rfl,a9.trans s24 s5,nxt (by unfold RM.bB;rw[not_true c3];simp)⟩
   ·exact⟨_,_,_,rfl,s24,nxt (by unfold RM.bB;rw[not_true c2];simp)⟩
  ·exact⟨_,_,_,rfl,s24,nxt (by unfold RM.bB;rw[not_true c1];simp)⟩
 ·rintro σ H2 ⟨v2,v3,v4,rfl,s2,old⟩;have h:=k H2 s2;rw[old 0 (by decide),old 1 (by decide),old 2 (by decide),old 3 (by decide)]at h;exact h
abbrev s_ij:Stmt:=(top 39)
theorem sc_ij:aK ["cells","waiting","reached","cell","side"] ["cells"] (aG s_ij):=⟨rfl,rfl,rfl,by decide+kernel,rfl,by decide+kernel,by decide+kernel⟩
noncomputable def sp_ij(K:W.Frag)(d:Adr):Sp:=fun vs H Q _=>∃(c:Addr)(C:List (Nat×Nat))(c0:Nat×Nat)(r:List (Nat×Nat)),vs=[.ref c]/\R2 H c (CS C)/\C=c0::r/\C.Nodup/\C.length<=256/\∀H',a9 H H'->Q (.bl ((Roof.reach C C.length [c0] [c0]).length==C.length)) H'
theorem ok_ij(F:Fun K "is_joined" "is_joined" s_ij f fd)(T:Txt K mg base d)(D_b:aQ P w K mg base CX0 2 "beyond" ["place","direction"] (sp_b K d)):bK P w K mg base CX0 3 f fd ["cells"] (sp_ij K d):=by
 refine F.ok sc_ij (fun vs H Q E h=>by obtain⟨c,C,c0,r,rfl,_⟩:=h;rfl) (fun cdv A outer s H vs Q E hr h=>?_);have hu:=bF hr;obtain⟨aALL_SIDES,bI,c_ALL_SIDES⟩:=T.bI;obtain⟨c,C,c0,r,rfl,hC,eC,nd,hl,k⟩:=h;have hc0:c0∈C:=by rw[eC];exact List.mem_cons_self
 have cl:(CS C).length=C.length:=pW C;refine⟨_,(aB (aP (i:=1) sc_ij.nd rfl (Or.inl rfl) (G6 IL (uU (BO rfl) (by rfl) T.list (by rfl) (a8 (pv 0) aC)) IU (IT aN)))
   (aB (aP (i:=2) sc_ij.nd rfl (Or.inl rfl) dG)
   (aB (n4 PassesOwn.never (sH (pv 1) (fun _=>rfl)) (aB (aP (i:=3) sc_ij.nd rfl (Or.inl rfl) (AE PySem.F.plainAttrs_list PySem.F.slot_list_pop PySem.F.type_list_pop AR (pv 1)))
   (aD (cR (PW.pt (oV (fD (AF hu (pv 3) (pv 0))) (mZ (fD (d7 hu (pv 3) (pv 2)))))) (aB (eV hu (pv 2) (pv 3) jN rfl)
   (aD (c9 PassesOwn.never rfl (k9 (fK bI rfl)) (aL (i:=4) sc_ij.nd rfl (Or.inl rfl)) (aD (dC (iR PySem.F.plainAttrs_list PySem.F.slot_list_append PySem.F.type_list_append cM (pv 1) (a8 (aU D_b (hm hr) aX rfl (a8 (pv 3) (a8 (pv 4) aC))) aC))))))) bJ))))
   (aD (aR (n8 jO (bM lT (by rfl) T.len PySem.boot_len (a8 (pv 2) aC)) (bM lT (by rfl) T.len PySem.boot_len (a8 (pv 0) aC)) (cC _))))))),?_⟩
 refine⟨_,rfl,c,_,rfl,hC,fun l qs hl0 hk=>⟨_,rfl,l,qs,rfl,SqL.of a7,fun p hp=>?_⟩⟩;have hk:=yQ hk;obtain⟨q0,qr,rfl,t0⟩:∃q0 qr,qs=q0::qr/\T2 H q0 (RM.iP c0):=by
  rw[lV,eC,List.map_cons]at hk;cases hk with
  |cons t0 _=>exact⟨_,_,rfl,t0⟩
 rw[EX];have s1:a9 H (upd H l (.lst (q0::qr))):=a9.upd hl0;have s2:a9 H (upd (upd H l (.lst (q0::qr))) p (.lst ((q0::qr).take 1))):=a9.trans s1 (a9.upd hp);have hp2:(upd (upd H l (.lst (q0::qr))) p (.lst ((q0::qr).take 1))) p=some (.lst [q0]):=a7;have fp:H p=none:=s1.free hp;generalize (upd (upd H l (.lst (q0::qr))) p (.lst ((q0::qr).take 1)))=H1 at s2 hp2 ⊢;refine fun rd hrd=>?_
 have npr:p≠rd:=aH hp2 hrd;have frd:H rd=none:=s2.free hrd;dsimp only[kI,FP];refine mR (fun σ H2=>∃(xs:List V)(ws:List PI)(kvs:List (PI×V))(v3 v4:Option V),σ=[some (.ref c),some (.ref p),some (.ref rd),v3,v4]/\a9 H H2/\H2 p=some (.lst xs)/\Paired (T2 H2) xs ws/\D2 H2 rd kvs/\RM.Dfs C c0 (kvs.map (·.1)) ws/\xs.length<=1+4*kvs.length)
  (fun _ H2=>tW H2 p+5*(C.length+1 - lW H2 rd))
  ⟨[q0],[RM.iP c0],[],none,none,rfl,a9.trans s2 (a9.upd hrd),by rw[aA npr];exact hp2,.cons (t0.mono (a9.trans s2 (a9.upd hrd))) .nil,a7,RM.Dfs.first,by simp⟩ ?_ (fun _ _ _ _ f ⟨v,e,k,t,q⟩=>⟨v,e,k,t,f _ _ q⟩)
 rintro σ H2 ⟨xs,ws,kvs,v3,v4,rfl,s3,h1,pr,hD,dfs,len⟩;have hlr:=dfs.len;rw[List.length_map]at hlr;refine⟨_,rfl,_,.inl ⟨_,SqL.of h1,rfl⟩,?_⟩;refine cJ (fun cq=>?_) (fun cq=>?_)
 ·have hne:xs≠[]:=by intro z;rw[z]at cq;cases cq
  have hpos:0<xs.length:=List.length_pos_iff.mpr hne;obtain⟨y,hy⟩:∃y,xs[xs.length - 1]? =some y:=⟨_,List.getElem?_eq_getElem (by omega)⟩
  obtain⟨q,hq,ty⟩:=pairs_at pr hy;have lxw:=pairs_len pr;have ews:ws=ws.dropLast++[q]:=by
   have:ws≠[]:=by intro z;rw[z]at hq;cases hq
   have e:=(List.dropLast_concat_getLast this).symm;rw[List.getLast_eq_getElem]at e;have e2:ws[ws.length - 1]'(by omega)=q:=by have:=(List.getElem?_eq_some_iff.mp (by rw[<- lxw];exact hq:ws[ws.length - 1]? =some q)).2;exact this
   rw[e2]at e;exact e
  refine⟨_,rfl,.inl ⟨rfl,_,SqL.of h1⟩,p,xs,y,rfl,rfl,h1,hy,?_⟩;have s4:a9 H (upd H2 p (.lst xs.dropLast)):=a9.put s3 fp;have pr4:Paired (T2 (upd H2 p (.lst xs.dropLast))) xs.dropLast ws.dropLast:=aI (fun _ _ z=>z.upd h1) (eX pr);have hD4:D2 (upd H2 p (.lst xs.dropLast)) rd kvs:=by unfold D2;rw[aA npr.symm];exact hD
  have ty4:T2 (upd H2 p (.lst xs.dropLast)) y q:=ty.upd h1;have h14:(upd H2 p (.lst xs.dropLast)) p=some (.lst xs.dropLast):=a7;have ml:tW H2 p=xs.length:=lO h1;have mt:lW H2 rd=kvs.length:=yN hD;generalize (upd H2 p (.lst xs.dropLast))=H4 at s4 pr4 hD4 ty4 h14 ⊢;rw[ews]at dfs;obtain⟨ya,rfl,hya⟩:=ty4;have ld:xs.dropLast.length=xs.length - 1:=List.length_dropLast ..;have skip:(q∉RM.iW C\/q∈kvs.map (·.1))->∃(xs':List V)(ws:List PI)(kvs':List (PI×V))(v3 v4':Option V),([some (.ref c),some (.ref p),some (.ref rd),some (.ref ya),v4]:List (Option V))=[some (.ref c),some (.ref p),some (.ref rd),v3,v4']/\a9 H H4/\H4 p=some (.lst xs')/\Paired (T2 H4) xs' ws/\D2 H4 rd kvs'/\RM.Dfs C c0 (kvs'.map (·.1)) ws/\xs'.length<=1+4*kvs'.length:=
   fun z=>⟨xs.dropLast,ws.dropLast,kvs,some (.ref ya),v4,rfl,s4,h14,pr4,hD4,dfs.skip hc0 z,by omega⟩
  have less:tW H4 p+5*(C.length+1 - lW H4 rd)<tW H2 p+5*(C.length+1 - lW H2 rd):=by rw[ml,mt,lO h14,yN hD4,ld];omega
  refine⟨_,rfl,_,rfl,c,_,rfl,R2.get (p:=q) (hC.mono s4) hya,_,rfl,?_⟩;rw[zU];refine cJ (fun c1=>?_) (fun c1=>GS ⟨skip (.inl (by simpa using c1)),less⟩);have c1:q∈RM.iW C:=by simpa using c1
  refine⟨_,rfl,_,rfl,rd,_,rfl,R2.get (p:=q) hD4.rd hya,_,rfl,?_⟩;refine cJ (fun c2=>?_) (fun c2=>?_)
  ·have c2:q∉kvs.map (·.1):=fun z=>by rw[(RM.aS q kvs).mpr z]at c2;cases c2
   refine⟨_,rfl,_,rfl,rd,_,rfl,D2.put hD4 hya (.bl true) (few (m:=256) (by omega)),?_⟩;rw[RM.fT _ c2];have hd5:=dfs.take c1 c2;have hD4':H4 rd=some (.dT (kvF k2 kvs)):=hD4;refine⟨_,rfl,⟨_,c_ALL_SIDES _⟩,jI (K:=K) (a:=aALL_SIDES) (xs:=[.int 0,.int 1,.int 2,.int 3]) (fun i σ H2=>∃(xs':List V)(v4:Option V),σ=[some (.ref c),some (.ref p),some (.ref rd),some (.ref ya),v4]/\a9 H H2/\H2 p=some (.lst xs')/\Paired (T2 H2) xs' (ws.dropLast++([RM.aO q 0,RM.aO q 1,RM.aO q 2,RM.aO q 3].take i))/\D2 H2 rd (kvs++[(q,V.bl true)])/\T2 H2 (.ref ya) q)
    ⟨xs.dropLast,v4,rfl,a9.put s4 frd,by rw[aA npr];exact h14,by rw[List.take_zero,List.append_nil];exact aI (fun _ _ z=>z.qW hD4' (by intro _ z;cases z)) pr4,a7,T2.qW ⟨ya,rfl,hya⟩ hD4' (by intro _ z;cases z)⟩ (fun i σ H2 _ _=>c_ALL_SIDES H2) ?_ ?_⟩
   ·rintro i x σ H5 hx ⟨xs',v4,rfl,s5,h5,pr5,hD5,t5⟩;obtain⟨hi,rfl⟩:=mX hx;have l5:=pairs_len pr5;rw[List.length_append,List.length_take,List.length_dropLast]at l5;refine⟨_,rfl,.inl ⟨rfl,_,SqL.of h5⟩,_,rfl,_,rfl,.ref ya,q,i,rfl,t5.c,hi,fun n H6 s6 t6=>?_⟩;have h6:=s6 _ _ h5;refine⟨p,xs',n,rfl,rfl,h6,few (m:=2000) (by omega),xs'++[n],_,rfl,a9.put (a9.trans s5 s6) fp,a7,?_,by unfold D2;rw[aA npr.symm];exact s6 _ _ hD5,(t5.mono s6).upd h6⟩;have e4:[RM.aO q 0,RM.aO q 1,RM.aO q 2,RM.aO q 3].take (i+1)=[RM.aO q 0,RM.aO q 1,RM.aO q 2,RM.aO q 3].take i++[RM.aO q i]:=by
     have cs:i=0\/i=1\/i=2\/i=3:=by omega
     rcases cs with rfl|rfl|rfl|rfl<;>rfl
    rw[e4,<- List.append_assoc];exact bA (t6.upd h6) (aI (fun _ _ z=>(z.mono s6).upd h6) pr5)
   ·rintro σ H5 ⟨xs',v4,rfl,s5,h5,pr5,hD5,t5⟩;have l5:=pairs_len pr5;rw[List.length_append,List.length_take,List.length_dropLast]at l5;have l6:([RM.aO q 0,RM.aO q 1,RM.aO q 2,RM.aO q 3].length)=4:=rfl;have l7:([V.int 0,V.int 1,V.int 2,V.int 3].length)=4:=rfl;have hlr2:=hd5.len;rw[List.length_append,List.length_map]at hlr2;simp only[List.length_cons,List.length_nil]at hlr2 l5;refine⟨⟨xs',_,kvs++[(q,V.bl true)],_,_,rfl,s5,h5,pr5,hD5,by rw[List.map_append];exact hd5,by rw[List.length_append];simp only[List.length_cons,List.length_nil];omega⟩,?_⟩;rw[ml,mt,lO h5,yN hD5,List.length_append];simp only[List.length_cons,List.length_nil];omega
  ·have c2:q∈kvs.map (·.1):=by
    refine(RM.aS q kvs).mp ?_;cases e:(RM.aJ kvs q).isSome with
    |true=>rfl
    |false=>rw[e]at c2;exact absurd rfl c2
   exact⟨skip (.inr c2),less⟩
 ·have e:xs=[]:=by
   cases xs with
   |nil=>rfl
   |cons _ _=>exact absurd rfl cq
  subst e;cases pr;refine⟨_,rfl,rd,_,rfl,hD.rd,_,rfl,c,_,rfl,hC.mono s3,rfl,?_⟩;have h:=k H2 s3;have e2:=dfs.done nd hc0;rw[List.length_map]at e2;rw[<- e2]at h;refine cast (congrArg (fun b=>Q (V.bl b) H2) ?_) h;rw[eM,eM,cl,Bool.eq_iff_iff,decide_eq_true_iff,decide_eq_true_iff];constructor
  ·intro z;rw[z]
  ·intro z;have:=V.int.inj z;omega
abbrev s_ih:Stmt:=(top 41)
theorem sc_ih:aK ["cells","cell"] ["cells"] (aG s_ih):=⟨rfl,rfl,rfl,by decide+kernel,rfl,by decide+kernel,by decide+kernel⟩
theorem F2(F:Nat->Nat->Bool):(RM.aT F).length<=4096:=by have:=RM.oU F 64;rw[RM.DK]at this;omega
theorem kW(F:Nat->Nat->Bool):(RM.aT F).Nodup:=(RM.m9 F).imp fun{a b} h e=>by rw[e,RM.cP]at h;omega
noncomputable def sp_ih(K:W.Frag)(d:Adr):Sp:=fun vs H Q _=>∃(c:Addr)(F:Nat->Nat->Bool),vs=[.ref c]/\D2 H c (CS (RM.aT F))/\∀H',a9 H H'->Q (.bl (Roof.isHouse (RM.aT F))) H'
theorem ok_ih(F:Fun K "is_house" "is_house" s_ih f fd)(T:Txt K mg base d)(D_miap:aQ P w K mg base CX0 3 "meets_in_a_point" ["cell","cells"] (sp_miap K d))(D_ij:aQ P w K mg base CX0 3 "is_joined" ["cells"] (sp_ij K d)):bK P w K mg base CX0 4 f fd ["cells"] (sp_ih K d):=by
 refine F.ok sc_ih (fun vs H Q E h=>by obtain⟨c,F,rfl,_⟩:=h;rfl) (fun cdv A outer s H vs Q E hr h=>?_);have hu:=bF hr;obtain⟨c,F,rfl,hC,k⟩:=h;have hlen:=F2 F;have hnd:=kW F;have hpe:=RM.AB (l:=RM.aT F);have hhe:=@RM.sS F;generalize RM.aT F=C at*;have ekl:(kvF k2 (CS C)).length=C.length:=by rw[eM,pW]
 refine⟨_,(aB (cR (PW.pt (xU (c8 GD (bM lT (by rfl) T.len PySem.boot_len (a8 (pv 0) aC)) aN (cC _)) (sF (c8 uY (bM lT (by rfl) T.len PySem.boot_len (a8 (pv 0) aC)) (cX T.wR rfl) (cC _))))) (aD (aR jN)) bJ)
   (aB (cR (hZ (bM (M6 rfl) (by rfl) T.any (by rfl) (a8 (C6 (qE (own:=[("cell",1)]) rfl sc_ih.nd (lI (pv 0)) (cU (by first|decide+kernel|kernel_rfl)) (fun _ _ _ _ _=>(aL (i:=1) sc_ih.nd rfl (Or.inl rfl))) (fun _ _ _ _ _=>gC) (fun _ _ _ _ _=>(aU D_miap (hm hr) aX rfl (a8 (pv 1) (a8 (pv 0) aC)))))) aC)) (fun _=>rfl)) (aD (aR jN)) bJ)
   (aD (aR (aU D_ij (hm hr) aX rfl (a8 (pv 0) aC)))))),?_⟩
 refine⟨_,rfl,c,_,rfl,hC.rd,_,_,rfl,rfl,_,rfl,?_⟩;rw[ekl];refine cJ (fun c1=>ED ?_) (fun c1=>?_)
 ·have c1:C=[]:=List.eq_nil_of_length_eq_zero (by have:=of_decide_eq_true c1;omega);have h:=k H (a9.refl _);rw[c1,RM.yS]at h;exact h
 have c1:¬C.length<1:=fun z=>c1 (decide_eq_true (by omega))
 obtain⟨c0,r,eC⟩:∃c0 r,C=c0::r:=by
  cases C with
  |nil=>simp at c1
  |cons c0 r=>exact⟨c0,r,rfl⟩
 have hhe:=hhe eC;refine⟨_,rfl,c,_,rfl,hC.rd,_,_,rfl,rfl,_,rfl,?_⟩;rw[ekl];refine cJ (fun c2=>?_) (fun c2=>?_)
 ·have c2:256<C.length:=by have:=of_decide_eq_true c2;omega
  have h:=k H (a9.refl _);rw[hhe,decide_eq_false (by omega)]at h;exact h
 have c2:C.length<=256:=by apply Nat.le_of_not_lt;intro z;exact c2 (decide_eq_true (by omega))
 refine⟨c,_,hC,trivial,fun od=>⟨_,rfl,c,od,rfl,.inr ⟨_,a7,fun D hD=>CC (d:=c) (od:=od) (kvs:=kvF k2 (CS C))
  (fun i H2=>a9 (upd H c (.frz od (.dT (kvF k2 (CS C))))) H2/\H2 D=some (.lst ((((RM.iW C).take i).map fun p=>RM.bB C p 0||(RM.bB C p 1||(RM.bB C p 2||RM.bB C p 3))).map V.bl))) ⟨a9.upd hD,a7⟩ (fun i H2 ⟨s2,_⟩=>s2 _ _ a7) ?_ ?_⟩⟩⟩
 ·rintro i kk vv q H2 hi hq ⟨s2,h2⟩;obtain⟨p,hp,rfl⟩:=mH hi;have hp2:(RM.iW C)[i]? =some p:=by have:=congrArg (Option.map Prod.fst) hp;rw[<- List.getElem?_map,lV]at this;exact this
  have hil:i<C.length:=by have:=(List.getElem?_eq_some_iff.mp hp2).1;simpa[RM.iW]using this
  refine⟨rfl,_,rfl,_,rfl,.ref q,p,c,C,rfl,⟨q,rfl,hq⟩,.inr ⟨od,s2 _ _ a7⟩,fun H3 s3=>⟨_,s3 _ _ h2,?_,a9.put (a9.trans s2 s3) hD,?_⟩⟩
  ·rw[List.length_map,List.length_map,List.length_take];exact few (m:=256) (by omega)
  ·rw[a7,RM.take_snoc hp2];simp
 ·rintro H2 ⟨s2,h2⟩;have nD:D≠c:=(aH (H:=upd H c (.frz od (.dT (kvF k2 (CS C))))) a7 hD).symm;refine⟨s2 _ _ a7,D,_,rfl,SqL.of (by rw[aA nD];exact h2),_,rfl,?_⟩;have s3:a9 H (upd H2 c (.dT (kvF k2 (CS C)))):=a9.unlock hC s2;have el:(kvF k2 (CS C)).length=(RM.iW C).length:=by rw[ekl];simp[RM.iW]
  rw[el,List.take_of_length_le (Nat.le_refl _)];have ea:(((RM.iW C).map fun p=>RM.bB C p 0||(RM.bB C p 1||(RM.bB C p 2||RM.bB C p 3))).any id)=Roof.pinched C:=by rw[hpe,List.any_map];rfl
  rw[ea];refine cJ (fun c3=>?_) (fun c3=>?_)
  ·have h:=k _ s3;rw[hhe,c3]at h;simp at h;exact h
  ·refine⟨_,rfl,c,C,c0,r,rfl,.inl a7,eC,hnd,c2,fun H3 s4=>?_⟩;have h:=k _ (a9.trans s3 s4);rw[hhe,not_true c3,decide_eq_true c2]at h;simpa using h
abbrev s_haw:Stmt:=(top 42)
theorem sc_haw:aK ["cells","headings","cell","side"] ["cells"] (aG s_haw):=⟨rfl,rfl,rfl,by decide+kernel,rfl,by decide+kernel,by decide+kernel⟩
noncomputable def sp_haw(K:W.Frag)(d:Adr):Sp:=fun vs H Q _=>∃(c:Addr)(C:List (Nat×Nat)),vs=[.ref c]/\D2 H c (CS C)/\C.length<=256/\∀h H',a9 H H'->H h=none->D2 H' h (IV (RM.d9 (RM.iW C)))->Q (.ref h) H'
theorem ok_haw(F:Fun K "headings_along_walls" "headings_along_walls" s_haw f fd)(T:Txt K mg base d)(D_b:aQ P w K mg base CX0 2 "beyond" ["place","direction"] (sp_b K d))(D_ss:aQ P w K mg base CX0 2 "side_start" ["square","side"] (sp_ss K d))(D_lo:aQ P w K mg base CX0 1 "left_of" ["direction"] (sp_lo K d)):bK P w K mg base CX0 3 f fd ["cells"] (sp_haw K d):=by
 refine F.ok sc_haw (fun vs H Q E h=>by obtain⟨c,C,rfl,_⟩:=h;rfl) (fun cdv A outer s H vs Q E hr h=>?_);have hu:=bF hr;obtain⟨aALL_SIDES,bI,c_ALL_SIDES⟩:=T.bI;obtain⟨c,C,rfl,hC,hl,k⟩:=h;refine⟨_,(aB (aP (i:=1) sc_haw.nd rfl (Or.inl rfl) dG)
   (aB (j7 (c9 PassesOwn.never rfl (lI (pv 0)) (aL (i:=2) sc_haw.nd rfl (Or.inl rfl)) (aD (c9 PassesOwn.never rfl (k9 (fK bI rfl)) (aL (i:=3) sc_haw.nd rfl (Or.inl rfl)) (aD (cR (fD (d7 hu (aU D_b (hm hr) aX rfl (a8 (pv 2) (a8 (pv 3) aC))) (pv 0))) (aD (eV hu (pv 1) (aU D_ss (hm hr) aX rfl (a8 (pv 2) (a8 (pv 3) aC))) (aU D_lo (hm hr) aX rfl (a8 (pv 3) aC)) rfl)) bJ))))))
   (aD (aR (pv 1))))),?_⟩
 refine fun h hh=>?_
 have nc:c≠h:=aH hC hh;have lockd:∀od,(upd H c (.frz od (.dT (kvF k2 (CS C))))) h=none:=fun od=>fG hC hh
 refine⟨c,.dT (kvF k2 (CS C)),by rw[aA nc];exact hC,trivial,fun od=>⟨_,rfl,c,od,rfl,.inr ⟨_,a7,nS (d:=c) (od:=od) (kvs:=kvF k2 (CS C))
  (fun i σ H2=>∃(v2 v3:Option V),σ=[some (.ref c),some (.ref h),v2,v3]/\a9 (upd H c (.frz od (.dT (kvF k2 (CS C))))) H2/\D2 H2 h (IV (RM.cK [] (RM.dE (RM.iW C) i))))
  ⟨none,none,rfl,a9.both (a9.upd hh),by unfold D2;rw[aA nc.symm,a7];rfl⟩ (fun i σ H2 ⟨_,_,_,s2,_⟩=>s2 _ _ a7) ?_ ?_⟩⟩⟩
 ·rintro i kk vv q σ H2 hi hq ⟨v2,v3,rfl,s2,hD⟩;obtain⟨p,hp,rfl⟩:=mH hi;have hp2:(RM.iW C)[i]? =some p:=by have:=congrArg (Option.map Prod.fst) hp;rw[<- List.getElem?_map,lV]at this;exact this
  have hil:i<C.length:=by have:=(List.getElem?_eq_some_iff.mp hp2).1;simpa[RM.iW]using this
  refine⟨_,rfl,⟨_,c_ALL_SIDES _⟩,jI (K:=K) (a:=aALL_SIDES) (xs:=[.int 0,.int 1,.int 2,.int 3]) (fun j σ H3=>∃(v3:Option V),σ=[some (.ref c),some (.ref h),some (.ref q),v3]/\a9 (upd H c (.frz od (.dT (kvF k2 (CS C))))) H3/\T2 H3 (.ref q) p/\D2 H3 h (IV (RM.cK [] (RM.dE (RM.iW C) i++RM.cO (RM.iW C) p j))))
   ⟨v3,rfl,s2,⟨q,rfl,hq⟩,by rw[show RM.cO (RM.iW C) p 0=[]from rfl,List.append_nil];exact hD⟩ (fun i σ H2 _ _=>c_ALL_SIDES H2) ?_ ?_⟩
  ·rintro j x σ H3 hx ⟨v3,rfl,s3,tq,hD⟩;obtain⟨hj,rfl⟩:=mX hx;refine⟨_,rfl,_,rfl,.ref q,p,j,rfl,tq.c,hj,fun n H4 s4 t4=>?_⟩;obtain⟨na,rfl,hna⟩:=t4;refine⟨_,rfl,c,_,rfl,R2.get (kvs:=CS C) (p:=RM.aO p j) (.inr ⟨od,(a9.trans s3 s4) _ _ a7⟩) hna,_,rfl,?_⟩;rw[zU];have hnx:=RM.qZ (RM.iW C) p hj;refine cJ (fun c1=>?_) (fun c1=>?_)
   ·have c1:¬RM.aO p j∈RM.iW C:=by simpa using c1
    rw[if_neg c1]at hnx;refine⟨_,rfl,_,rfl,_,rfl,_,rfl,_,rfl,.ref q,p,j,rfl,(tq.mono s4).c,hj,fun n H5 s5 t5=>?_⟩;obtain⟨ma,rfl,hma⟩:=t5;have hD5:D2 H5 h (IV (RM.cK [] (RM.dE (RM.iW C) i++RM.cO (RM.iW C) p j))):=s5 _ _ (s4 _ _ hD);refine⟨h,_,rfl,D2.put hD5 hma _ ?_,_,rfl,a9.put (a9.trans s3 (a9.trans s4 s5)) (lockd od),T2.qW (tq.mono (a9.trans s4 s5)) hD5 (by intro _ z;cases z),?_⟩
    ·rw[dN];have h1:=RM.gG (RM.dE (RM.iW C) i++RM.cO (RM.iW C) p j) [];have h2:=RM.z5 (RM.iW C) i;have h3:=RM.kX (RM.iW C) p j;rw[List.length_append]at h1;simp only[List.length_nil]at h1;exact few (m:=2000) (by omega)
    ·unfold D2;rw[a7,lE,hnx,<- List.append_assoc,RM.tJ];rfl
   ·have c1:RM.aO p j∈RM.iW C:=by simpa using c1
    rw[if_pos c1,List.append_nil]at hnx;exact⟨_,rfl,a9.trans s3 s4,tq.mono s4,by rw[hnx];exact s4 _ _ hD⟩
  ·rintro σ H3 ⟨v3,rfl,s3,tq,hD⟩;refine⟨_,_,rfl,s3,?_⟩;rw[RM.nO hp2];exact hD
 ·rintro σ H2 ⟨v2,v3,rfl,s2,hD⟩;have el:(kvF k2 (CS C)).length=(RM.iW C).length:=by rw[eM,pW];simp[RM.iW]
  rw[el,RM.z6]at hD;exact⟨s2 _ _ a7,_,rfl,k h _ (a9.unlock hC s2) hh (by unfold D2;rw[aA nc.symm];exact hD)⟩
abbrev s_wf:Stmt:=(top 43)
theorem sc_wf:aK ["start","headings","walked","corners","point","came","heading"] ["start","headings","walked"] (aG s_wf):=⟨rfl,rfl,rfl,by decide+kernel,rfl,by decide+kernel,by decide+kernel⟩
noncomputable def sp_wf(K:W.Frag)(d:Adr):Sp:=fun vs H Q _=>∃(v:V)(hA wA:Addr)(hs:List (PI×Int))(wk:List PI)(s0:PI)(f:List (PI×Int)),vs=[v,.ref hA,.ref wA]/\T2 H v s0/\R2 H hA (IV hs)/\D2 H wA (KS wk)/\hA≠wA/\RM.mB (RM.aJ hs) s0 f s0/\f≠[]/\(f.map (·.1)).Nodup/\(∀y∈f.map (·.1),y∉wk)/\wk.length+f.length<=5000/\∀r H',But wA H H'->H r=none->LT H' (.ref r) (RM.bN none f)->D2 H' wA (KS (wk++f.map (·.1)))->Q (.ref r) H'
theorem ok_wf(F:Fun K "walk_from" "walk_from" s_wf f fd)(T:Txt K mg base d)(D_b:aQ P w K mg base CX0 2 "beyond" ["place","direction"] (sp_b K d)):bK P w K mg base CX0 3 f fd ["start","headings","walked"] (sp_wf K d):=by
 refine F.ok sc_wf (fun vs H Q E h=>by obtain⟨v,hA,wA,hs,wk,s0,f,rfl,_⟩:=h;rfl) (fun cdv A outer s H vs Q E hr h=>?_);have hu:=bF hr;obtain⟨v,hA,wA,hs,wk,s0,f,rfl,tv,hH,hW,nHW,path,fne,fnd,fnew,flen,k⟩:=h;have hHb:∀H',But wA H H'->R2 H' hA (IV hs):=fun H' e=>by
  rcases hH with h|⟨o,h⟩
  ·exact .inl (e _ _ nHW h)
  ·exact .inr ⟨o,e _ _ nHW h⟩
 refine⟨_,(aB (aP (i:=3) sc_wf.nd rfl (Or.inl rfl) (fE aC))
   (aB (aP (i:=4) sc_wf.nd rfl (Or.inl rfl) (pv 0))
   (aB (aP (i:=5) sc_wf.nd rfl (Or.inl rfl) L7)
   (aB (n4 PassesOwn.never (fD (d7 hu (pv 4) (pv 2))) (aB (eV hu (pv 2) (pv 4) jN rfl)
   (aB (aP (i:=6) sc_wf.nd rfl (Or.inl rfl) (lJ hu (pv 1) (pv 4) (fun _ _=>rfl)))
   (aB (cR (c8 K7 (pv 6) (pv 5) (cC _)) (aD (dC (iR PySem.F.plainAttrs_list PySem.F.slot_list_append PySem.F.type_list_append cM (pv 3) (a8 (pv 4) aC)))) bJ)
   (aB (aP (i:=5) sc_wf.nd rfl (Or.inl rfl) (pv 6))
   (aD (aP (i:=4) sc_wf.nd rfl (Or.inl rfl) (aU D_b (hm hr) aX rfl (a8 (pv 4) (a8 (pv 6) aC))))))))))
   (aD (aR (pv 3))))))),?_⟩
 refine⟨Nat.zero_le _,fun r hr0=>⟨_,rfl,?_⟩⟩;have nrw:r≠wA:=(aH hW hr0).symm;dsimp only[kI,FP];refine mR (fun σ H2=>∃(g rest:List (PI×Int))(q:PI)(vq:V)(came:Option Int)(xs:List V)(cs:List PI)(v6:Option V),σ=[some v,some (.ref hA),some (.ref wA),some (.ref r),some vq,some (match came with|none=>V.non|some h=>V.int h),v6]/\f=g++rest/\RM.mB (RM.aJ hs) q rest s0/\T2 H2 vq q/\But wA H H2/\H2 r=some (.lst xs)/\Paired (T2 H2) xs cs/\cs++RM.bN came rest=RM.bN none f/\cs.length<=g.length/\D2 H2 wA (KS (wk++g.map (·.1))))
  (fun _ H2=>10000 - lW H2 wA)
  ⟨[],f,s0,v,none,[],[],none,rfl,rfl,path,tv.mono (a9.upd hr0),a9.but (a9.upd hr0),a7,.nil,rfl,Nat.le_refl _,by unfold D2;rw[aA nrw.symm,List.map_nil,List.append_nil];exact hW⟩ ?_ (fun _ _ _ _ f ⟨v,e,w,e2,a,o,ex,g,b,eb,q⟩=>⟨v,e,w,e2,a,o,ex,g,b,eb,f _ _ q⟩)
 rintro σ H2 ⟨g,rest,q,vq,came,xs,cs,v6,rfl,hf,pq,⟨qa,rfl,hqa⟩,b2,h2,pr,hcs,lcs,hD⟩;refine⟨_,rfl,_,rfl,wA,_,rfl,R2.get (p:=q) hD.rd hqa,_,rfl,?_⟩;rw[I0];cases pq with
 |nil=>
  have hin:s0∈wk++g.map (·.1):=by
   rw[List.append_nil]at hf;subst hf;refine List.mem_append_right _ ?_;cases path with
   |nil=>exact absurd rfl fne
   |cons _ _ _ _=>simp
  refine cJ (fun c1=>?_) (fun c1=>?_)
  ·exact absurd hin (rC c1)
  ·rw[List.append_nil]at hf;subst hf;have hcs:cs=RM.bN none f:=by rw[<- hcs];simp[RM.bN]
   subst hcs;exact⟨_,rfl,k r H2 b2 hr0 ⟨r,xs,rfl,h2,pr⟩ hD⟩
 | @cons _ _ hd rest' hq h0 h4 pn=>
  have hout:q∉wk++g.map (·.1):=by
   intro z;rcases List.mem_append.mp z with z|z
   ·exact fnew q (by rw[hf];simp) z
   ·rw[hf,List.map_append,List.nodup_append]at fnd;exact fnd.2.2 q z q (by simp) rfl
  refine cJ (fun c1=>?_) (fun c1=>absurd (nK c1) hout);have hlen:(wk++g.map (·.1)).length<=5000:=by rw[hf]at flen;simp only[List.length_append,List.length_cons,List.length_map]at flen ⊢;omega
  refine⟨_,rfl,_,rfl,wA,_,rfl,D2.put hD hqa (.bl true) (by rw[BU];exact few hlen),?_⟩;rw[K3 hout];have hD':H2 wA=some (.dT (kvF k2 (KS (wk++g.map (·.1))))):=hD;have tq3:T2 (upd H2 wA (.dT (kvF k2 (KS (wk++g.map (·.1)++[q]))))) (.ref qa) q:=T2.qW ⟨qa,rfl,hqa⟩ hD' (by intro _ z;cases z);have b3:But wA H (upd H2 wA (.dT (kvF k2 (KS (wk++g.map (·.1)++[q]))))):=b2.here;have h3:(upd H2 wA (.dT (kvF k2 (KS (wk++g.map (·.1)++[q]))))) r=some (.lst xs):=by rw[aA nrw];exact h2
  have pr3:Paired (T2 (upd H2 wA (.dT (kvF k2 (KS (wk++g.map (·.1)++[q])))))) xs cs:=aI (fun _ _ z=>z.qW hD' (by intro _ z;cases z)) pr;have hD3:D2 (upd H2 wA (.dT (kvF k2 (KS (wk++g.map (·.1)++[q]))))) wA (KS (wk++(g++[(q,hd)]).map (·.1))):=by unfold D2;rw[a7];simp
  have m2:lW H2 wA=(wk++g.map (·.1)).length:=by rw[yN hD,BU]
  generalize (upd H2 wA (.dT (kvF k2 (KS (wk++g.map (·.1)++[q])))))=H3 at tq3 b3 h3 pr3 hD3 ⊢;obtain⟨_,e,hqa⟩:=tq3;cases e;have dg:lF H3 hA (.ref qa) (some (.int hd)):=by have dg:=(hHb H3 b3).get (p:=q) hqa;rw[f9,hq]at dg;exact dg
  refine⟨_,rfl,_,rfl,hA,_,rfl,dg,?_⟩;have hrest:f=g++[(q,hd)]++rest':=by rw[hf];simp
  have fin:∀(xs:List V)(cs:List PI)(H4:Hp),But wA H H4->H4 r=some (.lst xs)->Paired (T2 H4) xs cs->T2 H4 (.ref qa) q->D2 H4 wA (KS (wk++(g++[(q,hd)]).map (·.1)))->cs++RM.bN (some hd) rest'=RM.bN none f->cs.length<=g.length+1->∀(vn:V)(H5:Hp),a9 H4 H5->T2 H5 vn (RM.aO q hd.toNat) ->
   (∃(g rest:List (PI×Int))(q:PI)(vq:V)(came:Option Int)(xs:List V)(cs:List PI)(v6:Option V),([some v,some (.ref hA),some (.ref wA),some (.ref r),some vn,some (.int hd),some (.int hd)]:List (Option V))=[some v,some (.ref hA),some (.ref wA),some (.ref r),some vq,some (match came with|none=>V.non|some h=>V.int h),v6]/\f=g++rest/\RM.mB (RM.aJ hs) q rest s0/\T2 H5 vq q/\But wA H H5/\H5 r=some (.lst xs)/\Paired (T2 H5) xs cs/\cs++RM.bN came rest=RM.bN none f/\cs.length<=g.length/\D2 H5 wA (KS (wk++g.map (·.1))))/\10000 - lW H5 wA<10000 - lW H2 wA:=by
   intro xs cs H4 b4 h4 pr4 t4 hD4 e4 l4 vn H5 s5 t5;refine⟨⟨g++[(q,hd)],rest',_,vn,some hd,xs,cs,_,rfl,hrest,pn,t5,b4.trans (a9.but s5),s5 _ _ h4,aI (fun _ _ z=>z.mono s5) pr4,e4,by rw[List.length_append];exact l4,s5 _ _ hD4⟩,?_⟩;have hD5:D2 H5 wA (KS (wk++(g++[(q,hd)]).map (·.1))):=s5 _ _ hD4;rw[m2,yN hD5,BU];simp only[List.length_append,List.length_map,List.length_cons,List.length_nil]at hlen ⊢;omega
  have lcs5:cs.length<=5000:=by rw[List.length_append,List.length_map]at hlen;omega
  have lx:=pairs_len pr3;cases came with
  |none=>refine⟨_,rfl,_,rfl,rfl,_,rfl,ED ?_⟩;refine⟨_,rfl,.inl ⟨rfl,_,SqL.of h3⟩,_,rfl,r,xs,.ref qa,rfl,rfl,h3,few (m:=5000) (by omega),?_⟩;refine⟨_,rfl,_,rfl,_,rfl,.ref qa,q,hd.toNat,congrArg (fun z=>[V.ref qa,V.int z]) (Int.toNat_of_nonneg h0).symm,T2.c ((T2.upd (D:=r) ⟨qa,rfl,hqa⟩ h3)),by omega,fun vn H5 s5 t5=>?_⟩;refine fin (xs++[.ref qa]) (cs++[q]) _ (b3.put hr0) a7 (bA (T2.upd (D:=r) ⟨qa,rfl,hqa⟩ h3) (aI (fun _ _ z=>z.upd h3) pr3)) (T2.upd (D:=r) ⟨qa,rfl,hqa⟩ h3) (by unfold D2;rw[aA nrw.symm];exact hD3) ?_ (by rw[List.length_append];simp;omega) vn H5 s5 t5;rw[<- hcs];simp[RM.bN]
  |some cm=>
   refine⟨_,rfl,_,rfl,rfl,_,rfl,?_⟩;refine cJ (fun c2=>?_) (fun c2=>?_)
   ·have c2:¬hd=cm:=by intro z;rw[z]at c2;simp at c2
    refine⟨_,rfl,.inl ⟨rfl,_,SqL.of h3⟩,_,rfl,r,xs,.ref qa,rfl,rfl,h3,few (m:=5000) (by omega),?_⟩;refine⟨_,rfl,_,rfl,_,rfl,.ref qa,q,hd.toNat,congrArg (fun z=>[V.ref qa,V.int z]) (Int.toNat_of_nonneg h0).symm,T2.c ((T2.upd (D:=r) ⟨qa,rfl,hqa⟩ h3)),by omega,fun vn H5 s5 t5=>?_⟩;refine fin (xs++[.ref qa]) (cs++[q]) _ (b3.put hr0) a7 (bA (T2.upd (D:=r) ⟨qa,rfl,hqa⟩ h3) (aI (fun _ _ z=>z.upd h3) pr3)) (T2.upd (D:=r) ⟨qa,rfl,hqa⟩ h3) (by unfold D2;rw[aA nrw.symm];exact hD3) ?_ (by rw[List.length_append];simp;omega) vn H5 s5 t5;rw[<- hcs];simp[RM.bN,c2]
   ·have c2:hd=cm:=by
     have:decide (V.int hd=V.int cm)=true:=by
      cases e:decide (V.int hd=V.int cm)with
      |true=>rfl
      |false=>rw[e]at c2;exact absurd rfl c2
     exact V.int.inj (of_decide_eq_true this)
    subst c2;refine⟨_,rfl,_,rfl,_,rfl,.ref qa,q,hd.toNat,congrArg (fun z=>[V.ref qa,V.int z]) (Int.toNat_of_nonneg h0).symm,T2.c ⟨qa,rfl,hqa⟩,by omega,fun vn H5 s5 t5=>?_⟩;refine fin xs cs _ b3 h3 pr3 ⟨qa,rfl,hqa⟩ hD3 ?_ (by omega) vn H5 s5 t5;rw[<- hcs];simp[RM.bN]
abbrev s_wr:Stmt:=(top 44)
theorem sc_wr:aK ["cells","headings","walks","walked","point"] ["cells"] (aG s_wr):=⟨rfl,rfl,rfl,by decide+kernel,rfl,by decide+kernel,by decide+kernel⟩
theorem xI{K:W.Frag}{d:Adr}{H:Hp}{as:List Addr}{ps:List PI}(h:Paired (T2 H) (as.map V.ref) ps):∀a∈as,∀H2,a9 H H2->sp_br K d [.ref a] H2 (fun r H3=>a9 H2 H3/\∃b,r=.ref b/\H3 b=some (.tup ((hY H a).map V.int))) E0:=by intro a ha H2 s2;have t:=(yA h a ha).mono s2;refine⟨.ref a,pairOf H a,rfl,t.c,fun r H3 s3 ⟨b,e,hb⟩=>⟨s3,b,e,hb⟩⟩
noncomputable def sp_wr(K:W.Frag)(d:Adr):Sp:=fun vs H Q _=>∃(c:Addr)(C:List (Nat×Nat)),vs=[.ref c]/\D2 H c (CS C)/\C.length<=256/\Roof.pinched C=false/\∀r H',a9 H H'->LLT H' (.ref r) (RM.iWs (Roof.walksOf C))->Q (.ref r) H'
theorem ok_wr(F:Fun K "walks_round" "walks_round" s_wr f fd)(T:Txt K mg base d)(D_haw:aQ P w K mg base CX0 3 "headings_along_walls" ["cells"] (sp_haw K d))(D_br:aQ P w K mg base CX0 1 "by_row" ["place"] (sp_br K d))(D_wf:aQ P w K mg base CX0 3 "walk_from" ["start","headings","walked"] (sp_wf K d)):bK P w K mg base CX0 5 f fd ["cells"] (sp_wr K d):=by
 refine F.ok sc_wr (fun vs H Q E h=>by obtain⟨c,C,rfl,_⟩:=h;rfl) (fun cdv A outer s H vs Q E hr h=>?_);have hu:=bF hr;obtain⟨c,C,rfl,hC,hl,hpin,k⟩:=h;refine⟨_,(aB (aP (i:=1) sc_wr.nd rfl (Or.inl rfl) (aU D_haw (hm hr) aX rfl (a8 (pv 0) aC)))
   (aB (aP (i:=2) sc_wr.nd rfl (Or.inl rfl) (fE aC))
   (aB (aP (i:=3) sc_wr.nd rfl (Or.inl rfl) dG)
   (aB (c9 PassesOwn.never rfl (cS (G5 rfl D_br (hm hr) rfl T.sorted rfl (a8 (pv 1) aC))) (aL (i:=4) sc_wr.nd rfl (Or.inl rfl)) (aD (cR (fD (d7 hu (pv 4) (pv 3))) (aD (dC (iR PySem.F.plainAttrs_list PySem.F.slot_list_append PySem.F.type_list_append cM (pv 2) (a8 (aU D_wf (hm hr) aX rfl (a8 (pv 4) (a8 (pv 1) (a8 (pv 3) aC)))) aC)))) bJ)))
   (aD (aR (pv 2))))))),?_⟩
 refine⟨_,rfl,c,C,rfl,hC,hl,fun h H1 s1 hh hH=>?_⟩;refine⟨Nat.zero_le _,fun w hw=>fun wk hwk=>?_⟩;have nhw:w≠wk:=aH a7 hwk;have fwk:H1 wk=none:=(a9.upd hw).free hwk;have s2:a9 H1 (upd (upd H1 w (.lst [])) wk (.dT [])):=a9.trans (a9.upd hw) (a9.upd hwk);refine⟨_,rfl,h,_,rfl,R2.mono s2 hH.rd,fun as hk=>?_⟩;have hk2:=yQ hk;rw[xC]at hk2;refine⟨hY (upd (upd H1 w (.lst [])) wk (.dT [])),fun a _=>by unfold hY;exact List.cons_ne_nil _ _,xI hk2,fun L out H2 hL pm pw s3 h2=>?_⟩;obtain⟨ys,pr,yp,yr⟩:=qA hk2 pm pw;have ey:=RM.tS hpin yp yr;subst ey;have nLw:L≠w:=(aH (by rw[aA nhw,a7]) hL).symm;have nLk:L≠wk:=(aH a7 hL).symm;have prT:∀{i:Nat}{v:V},(out.map V.ref)[i]? =some v->∃q,(RM.c7 C)[i]? =some q/\T2 H1 v (RM.iP q)\/(RM.c7 C)[i]? =some q/\T2 (upd (upd H1 w (.lst [])) wk (.dT [])) v (RM.iP q):=fun{i v} hv=>by
  obtain⟨z,hz,t⟩:=pairs_at pr hv;unfold RM.iW at hz;rw[List.getElem?_map]at hz;cases e:(RM.c7 C)[i]? with
  |none=>rw[e]at hz;cases hz
  |some q=>rw[e]at hz;cases hz;exact⟨q,.inr ⟨rfl,t⟩⟩
 have w2:(upd (upd H1 w (.lst [])) wk (.dT [])) w=some (.lst []):=by rw[aA nhw,a7]
 have k2':(upd (upd H1 w (.lst [])) wk (.dT [])) wk=some (.dT []):=a7;generalize hHa:(upd (upd H1 w (.lst [])) wk (.dT []))=Ha at*;refine⟨L,rfl,⟨_,SqL.of h2⟩,iY (K:=K) (a:=L) (xs:=out.map V.ref) (fun i σ H3=>∃(seen:List Roof.Point)(ws:List Roof.Walk)(xs:List V)(v4:Option V),σ=[some (.ref c),some (.ref h),some (.ref w),some (.ref wk),v4]/\a9 H1 H3/\(∀a p,T2 Ha (.ref a) p->T2 H3 (.ref a) p)/\H3 L=some (.lst (out.map V.ref))/\H3 w=some (.lst xs)/\Paired (fun v z=>∃b,v=V.ref b/\b≠w/\LT H3 (.ref b) z) xs (RM.iWs ws)/\D2 H3 wk (KS (RM.iW seen))/\RM.f7 C seen i ws/\ws.length<=i)
  ⟨[],[],[],none,rfl,a9.trans s2 s3,fun a p t=>t.mono s3,h2,s3 _ _ w2,.nil,s3 _ _ k2',RM.f7.start C,Nat.le_refl _⟩ (fun i σ H3 _ ⟨_,_,_,_,_,_,_,h3,_⟩=>SqL.of h3) ?_ ?_⟩
 ·rintro i v σ H3 hv ⟨seen,ws,xs,v4,rfl,s4,tup,hL3,hw3,prw,hD3,st,lws⟩;obtain⟨q,hq,t⟩:∃q,(RM.c7 C)[i]? =some q/\T2 Ha v (RM.iP q):=by
   obtain⟨q,z|z⟩:=prT hv
   ·exact⟨q,z.1,z.2.mono s2⟩
   ·exact⟨q,z⟩
  obtain⟨a,rfl,ha⟩:=t;obtain⟨_,e,ha3⟩:=tup a _ ⟨a,rfl,ha⟩;cases e;have hil:i<out.length:=by have:=(List.getElem?_eq_some_iff.mp hv).1;simpa using this
  refine⟨_,rfl,_,rfl,wk,_,rfl,R2.get (p:=RM.iP q) hD3.rd ha3,_,rfl,?_⟩;rw[I0];refine cJ (fun c1=>?_) (fun c1=>?_)
  ·have c1:q∉seen:=fun z=>rC c1 (RM.gQ.mpr z)
   obtain⟨f,f1,f2,f3,f4,seen',w',e1,e2,st'⟩:=st.next hpin hq c1;have nhk:h≠wk:=aH hH fwk;have ls:=st'.len hpin;have el:(RM.iW seen').length=seen'.length:=by simp[RM.iW]
   refine⟨_,rfl,.inl ⟨rfl,_,SqL.of hw3⟩,_,rfl,_,rfl,_,rfl,.ref a,h,wk,RM.d9 (RM.iW C),RM.iW seen,RM.iP q,f,rfl,⟨a,rfl,ha3⟩,R2.mono s4 hH.rd,hD3,nhk,f1,f2,f3,f4,?_,fun r H4 b4 hr4 lt4 hD4=>?_⟩
   ·have:(RM.iW seen++f.map (·.1)).length<=4*256:=by rw[<- e1,el];omega
    rw[List.length_append,List.length_map]at this;omega
   ·have hw4:H4 w=some (.lst xs):=b4 _ _ nhw hw3;have nrw:r≠w:=fun z=>by rw[z,hw3]at hr4;cases hr4
    have hDwk:H3 wk=some (.dT (kvF k2 (KS (RM.iW seen)))):=hD3;have lx:=pairs_len prw;have lws2:xs.length<=1024:=by
     have h1:(RM.iWs ws).length=ws.length:=by simp[RM.iWs]
     have h2:out.length=(RM.c7 C).length:=by have:=pairs_len pr;simpa[RM.iW]using this
     have h3:(RM.c7 C).length<=4*C.length:=by have a1:=RM.nN (RM.iW C);have a2:=yp.length_eq;simp only[RM.iW,List.length_map]at a1 a2;omega
     omega
    have T4:∀{v:V}{p:PI},T2 H3 v p->T2 (upd H4 w (.lst (xs++[.ref r]))) v p:=fun t=>(t.but b4 hDwk (by intro _ z;cases z)).upd hw4
    refine⟨w,xs,.ref r,rfl,rfl,hw4,few lws2,seen',ws++[w'],xs++[.ref r],_,rfl,a9.put (But.same b4 s4 fwk) hw,fun a p t=>T4 (tup a p t),by rw[aA nLw];exact b4 _ _ nLk hL3,a7,?_,by unfold D2;rw[aA nhw.symm,e1];exact hD4,st',by rw[List.length_append];simp;omega⟩;have e3:RM.iWs (ws++[w'])=RM.iWs ws++[RM.bN none f]:=by simp[RM.iWs,e2]
    rw[e3];refine bA ⟨r,rfl,nrw,lt4.upd hw4 nrw⟩ (aI (fun v z ⟨b,e,nb,b0,ys,eb,hb,py⟩=>⟨b,e,nb,?_⟩) prw);cases eb;have nbk:b≠wk:=fC hb hDwk (by intro z;cases z);exact LT.upd ⟨b,ys,rfl,b4 _ _ nbk hb,aI (fun _ _ t=>t.but b4 hDwk (by intro _ z;cases z)) py⟩ hw4 nb
  ·have c1:q∈seen:=RM.gQ.mp (nK c1);exact⟨seen,ws,xs,_,rfl,s4,tup,hL3,hw3,prw,hD3,st.skip hq c1,by omega⟩
 ·rintro σ H3 ⟨seen,ws,xs,v4,rfl,s4,tup,hL3,hw3,prw,hD3,st,lws⟩;have h2:(out.map V.ref).length=(RM.c7 C).length:=by have:=pairs_len pr;simpa[RM.iW]using this
  rw[h2]at st;have e:=st.done;subst e;exact⟨_,rfl,k w H3 (a9.trans s1 s4) ⟨w,xs,rfl,hw3,aI (fun v z ⟨b,e,nb,t⟩=>by rw[e];exact t) prw⟩⟩
abbrev s_ht:Stmt:=(top 45)
theorem sc_ht:aK ["t","walks","cells"] ["t"] (aG s_ht):=⟨rfl,rfl,rfl,by decide+kernel,rfl,by decide+kernel,by decide+kernel⟩
theorem JH{a b:List Roof.Walk}(h:RM.iWs a=RM.iWs b):a=b:=RM.map_inj (fun x _ y _ q=>RM.map_inj (fun p _ p' _ r=>fX r) q) h
theorem iE{F:Nat->Nat->Bool}(h:Roof.isHouse (RM.aT F)=true):(RM.aT F).length<=256/\Roof.pinched (RM.aT F)=false/\RM.aT F≠[]:=by
 cases e:RM.aT F with
 |nil=>rw[e]at h;cases h
 |cons c r=>have h2:=RM.sS e;rw[h]at h2;rw[e]at h2;simp only[Bool.true_eq,Bool.and_eq_true,decide_eq_true_iff,Bool.not_eq_true']at h2;exact⟨h2.1,h2.2.1,List.cons_ne_nil _ _⟩
noncomputable def sp_ht(K:W.Frag)(d:Adr):Sp:=fun vs H Q E=>∃(a:Addr)(ns:List Int),vs=[.ref a]/\SqL K H a (ns.map V.int)/\ns.length<=4096/\RM.inB ns/\(∀F,Roof.houseOf (RoofBNeutral.text ns)=some (RM.aT F)->Roof.isHouse (RM.aT F)=true->∀r H',a9 H H'->H r=none->D2 H' r (CS (RM.aT F))->Q (.ref r) H')/\(Roof.houseOf (RoofBNeutral.text ns)=none->E (.ref d.bZ) none H)
theorem ok_ht(F:Fun K "house_told" "house_told" s_ht f fd)(T:Txt K mg base d)(D_wt2:aQ P w K mg base CXf 5 "walks_told" ["t"] (sp_wt2 K d))(D_cw:aQ P w K mg base CX0 2 "cells_within" ["walks"] (sp_cw K d))(D_wr:aQ P w K mg base CX0 5 "walks_round" ["cells"] (sp_wr K d))(D_ih:aQ P w K mg base CX0 4 "is_house" ["cells"] (sp_ih K d)):bK P w K mg base CXf 6 f fd ["t"] (sp_ht K d):=by
 refine okX F sc_ht (fun vs H Q E h=>by obtain⟨a,ns,rfl,_⟩:=h;rfl) (fun cdv A outer s H vs Q E hr hok h=>?_);have hu:=bF hr;obtain⟨a,ns,rfl,hS,hl,hB,k1,k2⟩:=h;refine⟨_,(aB (aP (i:=1) sc_ht.nd rfl (Or.inl rfl) (aU D_wt2 (hm hr) (y8 hok) rfl (a8 (pv 0) aC)))
   (aB (aP (i:=2) sc_ht.nd rfl (Or.inl rfl) (aU D_cw (hm hr) aX rfl (a8 (pv 1) aC)))
   (aB (cR (PW.pt (xU (G1 (hZ (aU D_ih (hm hr) aX rfl (a8 (pv 2) aC)) (fun _=>rfl))) (sF (c8 (LB hr.units) (aU D_wr (hm hr) aX rfl (a8 (pv 2) aC)) (pv 1) (cC _))))) (aD (dR hok PySem.F.excBase_Exception T.eO rfl)) bJ)
   (aD (aR (pv 2)))))),?_⟩
 refine⟨_,rfl,a,ns,rfl,hS,hl,fun z hz v H1 s1 llt=>?_,fun hn=>k2 (RM.B5 hB hn)⟩;obtain⟨W,oW,rfl,_⟩:=RM.pX hz;have hh:=RM.B4 hB oW hz;have okp:RM.sL W:=fun w hw=>(oW.2 w hw).2
 refine⟨_,rfl,v,W,rfl,llt,okp,fun c H2 s2 hc hD=>?_⟩;have hhe:Roof.houseOf (RoofBNeutral.text ns)=(if Roof.isHouse (RM.aT (RM.dM W))=true/\Roof.walksOf (RM.aT (RM.dM W))=W then some (RM.aT (RM.dM W))else none):=hh;generalize RM.dM W=F at hD hhe;refine⟨_,rfl,c,F,rfl,hD,fun H3 s3=>⟨_,rfl,?_⟩⟩;refine cJ (fun c1=>ED (k2 ?_)) (fun c1=>?_)
 ·rw[hhe,if_neg];intro z;rw[z.1]at c1;cases c1
 have c1:Roof.isHouse (RM.aT F)=true:=by
  cases e:Roof.isHouse (RM.aT F)with
  |true=>rfl
  |false=>rw[e]at c1;exact absurd rfl c1
 obtain⟨h256,hpin,hne⟩:=iE c1;have hD3:D2 H3 c (CS (RM.aT F)):=s3 _ _ hD;refine⟨_,rfl,c,RM.aT F,rfl,hD3,h256,hpin,fun r H4 s4 llt4=>?_⟩;refine⟨_,rfl,dWs (RM.iWs (Roof.walksOf (RM.aT F))),dWs (RM.iWs W),KA llt4,KA (llt.mono (a9.trans s2 (a9.trans s3 s4))),uJ _,uJ _,_,rfl,?_⟩;rw[LY];refine cJ (fun c2=>k2 ?_) (fun c2=>?_)
 ·rw[hhe,if_neg];intro z;exact rC c2 (by rw[z.2])
 ·have e:Roof.walksOf (RM.aT F)=W:=JH (nK c2);exact⟨_,rfl,k1 F (by rw[hhe,if_pos ⟨c1,e⟩]) c1 c H4 (a9.trans s1 (a9.trans s2 (a9.trans s3 s4))) (s1.free hc) (s4 _ _ hD3)⟩
abbrev s_hco:Stmt:=(top 50)
theorem sc_hco:aK ["cells","found","cell","quarter"] ["cells"] (aG s_hco):=⟨rfl,rfl,rfl,by decide+kernel,rfl,by decide+kernel,by decide+kernel⟩
noncomputable def sp_hco(K:W.Frag)(d:Adr):Sp:=fun vs H Q _=>∃(c:Addr)(C:List (Nat×Nat)),vs=[.ref c]/\D2 H c (CS C)/\C.Nodup/\(∀x∈C,x.1<64/\x.2<64)/\C.length<=256/\∀r H',a9 H H'->H r=none->LT H' (.ref r) ((Roof.halvesOf C).map RM.hP)->Q (.ref r) H'
theorem ok_hco(F:Fun K "half_cells_of" "half_cells_of" s_hco f fd)(T:Txt K mg base d)(D_m:aQ P w K mg base CX0 1 "moved" ["place","step"] (sp_m K d))(D_br:aQ P w K mg base CX0 1 "by_row" ["place"] (sp_br K d)):bK P w K mg base CX0 5 f fd ["cells"] (sp_hco K d):=by
 refine F.ok sc_hco (fun vs H Q E h=>by obtain⟨c,C,rfl,_⟩:=h;rfl) (fun cdv A outer s H vs Q E hr h=>?_);have hu:=bF hr;obtain⟨aQUARTERS,mI,c_QUARTERS⟩:=T.mI;obtain⟨c,C,rfl,hC,nd,bd,hl,k⟩:=h;refine⟨_,(aB (aP (i:=1) sc_hco.nd rfl (Or.inl rfl) (fE aC))
   (aB (j7 (c9 PassesOwn.never rfl (lI (pv 0)) (aL (i:=2) sc_hco.nd rfl (Or.inl rfl)) (aD (c9 PassesOwn.never rfl (k9 (fK mI rfl)) (aL (i:=3) sc_hco.nd rfl (Or.inl rfl)) (aD (dC (iR PySem.F.plainAttrs_list PySem.F.slot_list_append PySem.F.type_list_append cM (pv 1) (a8 (aU D_m (hm hr) aX rfl (a8 (dZ (a8 (cI p9 aN (cN cD (pv 2) aN (fun _ _=>rfl))) (a8 (cI p9 aN (cN cD (pv 2) aN (fun _ _=>rfl))) aC))) (a8 (pv 3) aC))) aC))))))))
   (aD (aR (G4 D_br (hm hr) rfl T.sorted rfl (a8 (pv 1) aC)))))),?_⟩
 obtain⟨qs,hqs,prq⟩:=c_QUARTERS;refine⟨Nat.zero_le _,fun f hf=>?_⟩;have nc:c≠f:=aH hC hf;have lockd:∀od,(upd H c (.frz od (.dT (kvF k2 (CS C))))) f=none:=fun od=>fG hC hf
 refine⟨c,.dT (kvF k2 (CS C)),by rw[aA nc];exact hC,trivial,fun od=>⟨_,rfl,c,od,rfl,.inr ⟨_,a7,nS (d:=c) (od:=od) (kvs:=kvF k2 (CS C))
  (fun i σ H2=>∃(xs:List V)(v2 v3:Option V),σ=[some (.ref c),some (.ref f),v2,v3]/\a9 (upd H c (.frz od (.dT (kvF k2 (CS C))))) H2/\H2 f=some (.lst xs)/\Paired (T2 H2) xs (RM.fU ((RM.iW C).take i)))
  ⟨[],none,none,rfl,a9.both (a9.upd hf),by rw[aA nc.symm,a7],.nil⟩ (fun i σ H2 ⟨_,_,_,_,s2,_⟩=>s2 _ _ a7) ?_ ?_⟩⟩⟩
 ·rintro i kk vv q σ H2 hi hq ⟨xs,v2,v3,rfl,s2,h2,pr⟩;obtain⟨p,hp,rfl⟩:=mH hi;have hp2:(RM.iW C)[i]? =some p:=by have:=congrArg (Option.map Prod.fst) hp;rw[<- List.getElem?_map,lV]at this;exact this
  have hil:i<C.length:=by have:=qY hp2;simpa[RM.iW]using this
  refine⟨_,rfl,⟨_,hqs _⟩,jI (K:=K) (a:=aQUARTERS) (xs:=qs) (fun j σ H3=>∃(xs:List V)(v3:Option V),σ=[some (.ref c),some (.ref f),some (.ref q),v3]/\a9 (upd H c (.frz od (.dT (kvF k2 (CS C))))) H3/\T2 H3 (.ref q) p/\H3 f=some (.lst xs)/\Paired (T2 H3) xs (RM.fU ((RM.iW C).take i)++(RM.uP p).take j))
   ⟨xs,v3,rfl,s2,⟨q,rfl,hq⟩,h2,by rw[List.take_zero,List.append_nil];exact pr⟩ (fun i σ H2 _ _=>hqs H2) ?_ ?_⟩
  ·rintro j x σ H3 hx ⟨xs,v3,rfl,s3,tq,h3,pr⟩;obtain⟨z,hz,cz⟩:=pairs_at prq hx;have lx:=pairs_len pr;rw[List.length_append,RM.A9,List.length_take,List.length_take]at lx;have lq:(RM.uP p).length=4:=rfl;obtain⟨_,e,hq3⟩:=id tq;cases e;refine⟨_,rfl,.inl ⟨rfl,_,SqL.of h3⟩,_,rfl,q,_,_,_,rfl,rfl,SqT.of hq3,bQ (by decide) rfl,_,_,rfl,rfl,.inl ⟨by decide,by decide⟩,_,rfl,q,_,_,_,rfl,rfl,SqT.of hq3,bQ (by decide) rfl,_,_,rfl,rfl,.inl ⟨by decide,by decide⟩,(by show 2<=sizeLine;decide),fun t ht=>?_⟩;have s4:a9 H3 (upd H3 t (.tup [.int (2*p.1),.int (2*p.2)])):=a9.upd ht;refine⟨_,rfl,.ref t,x,(2*p.1,2*p.2),z,rfl,T2.c ⟨t,rfl,a7⟩,cz _,fun n H5 s5 t5=>?_⟩;have h5:=s5 _ _ (s4 _ _ h3);have s35:=a9.trans s4 s5;refine⟨f,xs,n,rfl,rfl,h5,few (m:=2000) (by omega),xs++[n],_,rfl,a9.put (a9.trans s3 s35) (lockd od),(tq.mono s35).upd h5,a7,?_⟩;rw[RM.DR p hz,<- List.append_assoc];exact bA (t5.upd h5) (aI (fun _ _ y=>(y.mono s35).upd h5) pr)
  ·rintro σ H3 ⟨xs,v3,rfl,s3,tq,h3,pr⟩;refine⟨xs,_,_,rfl,s3,h3,?_⟩;rw[RM.xT hp2];have e:qs.length=4:=pairs_len prq;rw[e]at pr;exact pr
 ·rintro σ H2 ⟨xs,v2,v3,rfl,s2,h2,pr⟩;have el:(kvF k2 (CS C)).length=(RM.iW C).length:=by rw[eM,pW];simp[RM.iW]
  rw[el,List.take_of_length_le (Nat.le_refl _)]at pr;have s3:a9 H (upd H2 c (.dT (kvF k2 (CS C)))):=a9.unlock hC s2;have h3:(upd H2 c (.dT (kvF k2 (CS C)))) f=some (.lst xs):=by rw[aA nc.symm];exact h2
  have hC2:H2 c=some (.frz od (.dT (kvF k2 (CS C)))):=s2 _ _ a7;have pr3:Paired (T2 (upd H2 c (.dT (kvF k2 (CS C))))) xs (RM.fU (RM.iW C)):=aI (fun _ _ z=>z.qW hC2 (by intro _ z;cases z)) pr;refine⟨hC2,?_⟩;generalize (upd H2 c (.dT (kvF k2 (CS C))))=H3 at s3 h3 pr3 ⊢;obtain⟨as,rfl⟩:=BY pr3;refine⟨_,rfl,f,as,hY H3,rfl,SqL.of h3,fun a _=>by unfold hY;exact List.cons_ne_nil _ _,xI pr3,fun L out H4 hL pm pw s4 h4=>?_⟩;obtain⟨ys,py,yp,yr⟩:=qA pr3 pm pw;have ey:=RM.tZ nd bd yp yr;subst ey;exact k L H4 (a9.trans s3 s4) (s3.free hL) ⟨L,_,rfl,h4,aI (fun _ _ z=>z.mono s4) py⟩
abbrev s_id:Stmt:=(top 51)
theorem sc_id:aK ["half","layer","step"] ["half","layer"] (aG s_id):=⟨rfl,rfl,rfl,by decide+kernel,rfl,by decide+kernel,by decide+kernel⟩
noncomputable def sp_id(K:W.Frag)(d:Adr):Sp:=fun vs H Q _=>∃(v:V)(p:PI)(l:Addr)(L:List PI),vs=[v,.ref l]/\T2 H v p/\R2 H l (KS L)/\∀H',a9 H H'->Q (.bl ((RM.f6 p).all fun q=>L.contains q)) H'
theorem ok_id(F:Fun K "is_deeper" "is_deeper" s_id f fd)(T:Txt K mg base d)(D_m:aQ P w K mg base CX0 1 "moved" ["place","step"] (sp_m K d)):bK P w K mg base CX0 2 f fd ["half","layer"] (sp_id K d):=by
 refine F.ok sc_id (fun vs H Q E h=>by obtain⟨v,p,l,L,rfl,_⟩:=h;rfl) (fun cdv A outer s H vs Q E hr h=>?_);have hu:=bF hr;obtain⟨aHALVES_ABOUT,gR,c_HALVES_ABOUT⟩:=T.gR;obtain⟨v,p,l,L,rfl,hv,hL,k⟩:=h;refine⟨_,(aB (c9 PassesOwn.never rfl (k9 (fK gR rfl)) (aL (i:=2) sc_id.nd rfl (Or.inl rfl)) (aD (cR (fD (d7 hu (aU D_m (hm hr) aX rfl (a8 (pv 0) (a8 (pv 2) aC))) (pv 1))) (aD (aR jN)) bJ)))
   (aD (aR jN))),?_⟩
 obtain⟨qs,hqs,prq⟩:=c_HALVES_ABOUT;have e8:qs.length=8:=pairs_len prq;refine⟨_,rfl,⟨_,hqs _⟩,jI (K:=K) (a:=aHALVES_ABOUT) (xs:=qs) (fun j σ H2=>∃(v2:Option V),σ=[some v,some (.ref l),v2]/\a9 H H2/\∀m,m<j->∀q,(RM.f6 p)[m]? =some q->q∈L)
  ⟨none,rfl,a9.refl _,by intro m hm;omega⟩ (fun i σ H2 _ _=>hqs H2) ?_ ?_⟩
 ·rintro j x σ H2 hx ⟨v2,rfl,s2,old⟩;obtain⟨z,hz,cz⟩:=pairs_at prq hx;have ha:=RM.BS p hz;refine⟨_,rfl,_,rfl,v,x,p,z,rfl,(hv.mono s2).c,cz _,fun n H3 s3 t3=>?_⟩;obtain⟨na,rfl,hna⟩:=t3;refine⟨_,rfl,l,_,rfl,R2.get (hL.mono (a9.trans s2 s3)) hna,_,rfl,?_⟩;rw[I0];refine cJ (fun c1=>?_) (fun c1=>?_)
  ·have c1:=rC c1;have h:=k H3 (a9.trans s2 s3);have e:((RM.f6 p).all fun q=>L.contains q)=false:=by rw[Bool.eq_false_iff];intro z;rw[List.all_eq_true]at z;have:=z _ (List.mem_of_getElem? ha);exact c1 (by simpa using this)
   rw[e]at h;exact h
  ·have c1:=nK c1;refine⟨_,rfl,a9.trans s2 s3,fun m hm q hq=>?_⟩;by_cases e:m=j
   ·subst e;rw[ha]at hq;cases hq;exact c1
   ·exact old m (by omega) q hq
 ·rintro σ H2 ⟨v2,rfl,s2,old⟩;have h:=k H2 s2;have e:((RM.f6 p).all fun q=>L.contains q)=true:=by rw[List.all_eq_true];intro q hq;obtain⟨m,hm⟩:=List.mem_iff_getElem?.mp hq;have hlt:=qY hm;have hl8:(RM.f6 p).length=8:=rfl;have:=old m (by rw[e8];omega) q hm;simpa using this
  rw[e]at h;exact h
abbrev s_do:Stmt:=(top 52)
theorem sc_do:aK ["cells","depths","layer","depth","half","layer_above"] ["cells"] (aG s_do):=⟨rfl,rfl,rfl,by decide+kernel,rfl,by decide+kernel,by decide+kernel⟩
noncomputable def sp_do(K:W.Frag)(d:Adr):Sp:=fun vs H Q _=>∃(c:Addr)(C:List (Nat×Nat)),vs=[.ref c]/\D2 H c (CS C)/\C.Nodup/\(∀x∈C,x.1<64/\x.2<64)/\C.length<=256/\C≠[]/\∀r H',a9 H H'->H r=none->D2 H' r (IV (RM.bS (Roof.halvesOf C)))->Q (.ref r) H'
theorem ok_do(F:Fun K "depths_of" "depths_of" s_do f fd)(T:Txt K mg base d)(D_hco:aQ P w K mg base CX0 5 "half_cells_of" ["cells"] (sp_hco K d))(D_id:aQ P w K mg base CX0 2 "is_deeper" ["half","layer"] (sp_id K d)):bK P w K mg base CX0 6 f fd ["cells"] (sp_do K d):=by
 refine F.ok sc_do (fun vs H Q E h=>by obtain⟨c,C,rfl,_⟩:=h;rfl) (fun cdv A outer s H vs Q E hr h=>?_);have hu:=bF hr;obtain⟨c,C,rfl,hC,nd,bd,hl,hne,k⟩:=h;have hok:=RM.dU bd;have hhl:=RM.iG C;have hlhs:((Roof.halvesOf C).map RM.hP).length<=1024:=by rw[List.length_map];omega
 have hnd:((Roof.halvesOf C).map RM.hP).Nodup:=RM.d8 ((RM.fM nd bd).imp fun{a b} h e=>by omega) fun x hx y hy e=>RM.pM (hok x hx) (hok y hy) e
 have hend:∀n,64<=n->RM.aW ((Roof.halvesOf C).map RM.hP) n=[]:=fun n hn=>by rw[RM.dI hok,RM.fH hok hn];rfl
 have hdep:∀n,0<n->RM.aW ((Roof.halvesOf C).map RM.hP) n=[]->RM.iI ((Roof.halvesOf C).map RM.hP) n=RM.bS (Roof.halvesOf C):=fun n h0 e=>RM.BL hok h0 e
 have hne0:RM.aW ((Roof.halvesOf C).map RM.hP) 0≠[]:=by
  intro z;have:((Roof.halvesOf C).map RM.hP).length=0:=by rw[show(Roof.halvesOf C).map RM.hP=[]from z];rfl
  rw[List.length_map,hhl]at this;exact hne (List.eq_nil_of_length_eq_zero (by omega))
 refine⟨_,(aB (aP (i:=1) sc_do.nd rfl (Or.inl rfl) dG)
   (aB (aP (i:=2) sc_do.nd rfl (Or.inl rfl) (aU D_hco (hm hr) aX rfl (a8 (pv 0) aC)))
   (aB (aP (i:=3) sc_do.nd rfl (Or.inl rfl) aN)
   (aB (n4 PassesOwn.never (sH (pv 2) (fun _=>rfl)) (aB (c9 PassesOwn.never rfl (cS (pv 2)) (aL (i:=4) sc_do.nd rfl (Or.inl rfl)) (aD (eV hu (pv 1) (pv 4) (pv 3) rfl)))
   (aB (aP (i:=5) sc_do.nd rfl (Or.inr rfl) (uU (BP rfl (LQ hr)) (by rfl) T.dict (by rfl) (a8 (qE (own:=[("half",4)]) rfl sc_do.nd (cS (pv 2)) (cU (by first|decide+kernel|kernel_rfl)) (fun _ _ _ _ _=>(aL (i:=4) sc_do.nd rfl (Or.inl rfl))) (fun _ _ _ _ _=>gC) (fun _ _ _ _ _=>(dZ (a8 (pv 4) (a8 jN aC))))) aC)))
   (aB (xX (i:=2) (own:=[("half",4)]) rfl sc_do.nd rfl rfl (by exact r8 rfl rfl rfl rfl) (cS (pv 2)) (cU (by first|decide+kernel|kernel_rfl)) (fun _ _ _ _ _=>(aL (i:=4) sc_do.nd rfl (Or.inl rfl))) (fun _ _ _ _ _=>(IS (hZ (aU D_id (hm hr) aX rfl (a8 (pv 4) (a8 (pv 5) aC))) (fun _=>rfl)))) (fun _ _ _ _ _=>(pv 4)))
   (aD (G2 (i:=3) sc_do.nd rfl (Or.inl rfl) aN GX))))))
   (aD (aR (pv 1))))))),?_⟩
 refine fun d0 hd0=>?_
 have nc:c≠d0:=aH hC hd0;refine⟨_,rfl,c,C,rfl,by unfold D2;rw[aA nc];exact hC,nd,bd,hl,fun r H1 s1 fr lt=>?_⟩;generalize (Roof.halvesOf C).map RM.hP=hs at*;have s01:a9 H H1:=a9.trans (a9.upd hd0) s1;have hD1:D2 H1 d0 []:=s1 _ _ a7;dsimp only[kI,FP,DJ,tC];refine mR (fun σ H2=>∃(n:Nat)(la:Addr)(v4 v5:Option V),σ=[some (.ref c),some (.ref d0),some (.ref la),some (.int (n:Int)),v4,v5]/\a9 H H2/\LT H2 (.ref la) (RM.aW hs n)/\D2 H2 d0 (IV (RM.iI hs n)))
  (fun σ _=>100 - cnt σ 3)
  ⟨0,r,none,none,rfl,s01,lt,hD1⟩ ?_ (fun _ _ _ _ f ⟨v,e,k,t,q⟩=>⟨v,e,k,t,f _ _ q⟩)
 rintro σ H2 ⟨n,la,v4,v5,rfl,s2,⟨_,xs,e,hla,pr⟩,hD⟩;cases e;have lx:=pairs_len pr;have lL:(RM.aW hs n).length<=hs.length:=by
  have hndl:∀n,(RM.aW hs n).Nodup:=fun n=>by
   induction n with
   |zero=>exact hnd
   |succ n ih=>exact ih.filter _
  exact RM.bU (hndl n) fun p hp=>RM.mG hs n p hp
 have hndl:(RM.aW hs n).Nodup:=by
  clear hD pr lx lL;induction n with
  |zero=>exact hnd
  |succ n ih=>exact ih.filter _
 refine⟨_,rfl,_,.inl ⟨_,SqL.of hla,rfl⟩,?_⟩;refine cJ (fun cq=>?_) (fun cq=>?_)
 ·have hn64:n<64:=by apply Nat.lt_of_not_le;intro z;rw[hend n z]at pr;cases pr;cases cq
  have ldT:(RM.iI hs n).length<=1024:=by
   unfold RM.iI;split
   ·simp
   ·rw[List.length_map];exact hlhs
  have nla:la≠d0:=fC hla hD (by intro z;cases z);refine⟨_,rfl,la,rfl,⟨_,SqL.of hla⟩,iY (K:=K) (a:=la) (xs:=xs) (fun i σ H3=>∃(v4:Option V),σ=[some (.ref c),some (.ref d0),some (.ref la),some (.int (n:Int)),v4,v5]/\But d0 H2 H3/\D2 H3 d0 (IV (RM.cK (RM.iI hs n) (((RM.aW hs n).take i).map fun p=>(p,(n:Int))))))
   ⟨v4,rfl,But.refl _ _,hD⟩ (fun i σ H3 _ ⟨_,_,b3,_⟩=>SqL.of (b3 _ _ nla hla)) ?_ ?_⟩
  ·rintro i x σ H3 hx ⟨v4,rfl,b3,hD3⟩;obtain⟨p,hp,tp⟩:=pairs_at pr hx;obtain⟨a,rfl,ha⟩:=tp.RA b3 hD;refine⟨_,rfl,_,rfl,_,rfl,d0,_,rfl,D2.put hD3 ha _ ?_,_,rfl,b3.here,?_⟩
   ·rw[dN];have h1:=RM.gG (((RM.aW hs n).take i).map fun p=>(p,(n:Int))) (RM.iI hs n);rw[List.length_map,List.length_take]at h1;exact few (m:=5000) (Nat.le_trans h1 (by omega))
   ·unfold D2;rw[a7,lE,<- RM.tJ,RM.take_snoc hp,List.map_append];rfl
  ·rintro σ H3 ⟨v4,rfl,b3,hD3⟩;rw[lx,List.take_of_length_le (Nat.le_refl _),RM.zK hnd]at hD3;have hla3:H3 la=some (.lst xs):=b3 _ _ nla hla;have pr3:Paired (T2 H3) xs (RM.aW hs n):=aI (fun _ _ z=>z.RA b3 hD) pr;have s3:a9 H H3:=But.same b3 s2 hd0;refine⟨_,rfl,la,rfl,⟨_,SqL.of hla3⟩,fun D hD0=>fL (K:=K) (a:=la) (xs:=xs)
    (fun i H4=>a9 H3 H4/\∃ps:List Addr,H4 D=some (.lst (ps.map V.ref))/\Paired (fun p (q:PI)=>∃a,H4 p=some (.tup [.ref a,.bl true])/\H4 a=some (.tup [.int q.1,.int q.2])) ps ((RM.aW hs n).take i)) ⟨a9.upd hD0,[],a7,.nil⟩ (fun i H4 _ ⟨s4,_⟩=>s4.seq (SqL.of hla3)) ?_ ?_⟩
   ·rintro i x H4 hx ⟨s4,ps,h4,pp⟩;obtain⟨p,hp,tp⟩:=pairs_at pr3 hx;obtain⟨a,rfl,ha⟩:=tp.mono s4;have lp:=pairs_len pp;rw[List.length_take]at lp;have hil:=qY hp;refine⟨rfl,_,rfl,(by show 2<=sizeLine;decide),fun t ht=>?_⟩;have s5:a9 H4 (upd H4 t (.tup [.ref a,.bl true])):=a9.upd ht;have h5:=s5 _ _ h4;have kT:∀b ys,(upd H4 t (.tup [.ref a,.bl true])) b=some (.tup ys)->(upd (upd H4 t (.tup [.ref a,.bl true])) D (.lst (ps.map V.ref++[.ref t]))) b=some (.tup ys):=fun b ys e=>by rw[aA (fC e h5 (by intro z;cases z))];exact e
    refine⟨_,h5,by rw[List.length_map];exact few (m:=2000) (by omega),a9.put (a9.trans s4 s5) hD0,ps++[t],by rw[a7,List.map_append];rfl,?_⟩;rw[RM.take_snoc hp];exact bA (R:=fun p' (q:PI)=>∃a',(upd (upd H4 t (.tup [.ref a,.bl true])) D (.lst (ps.map V.ref++[.ref t]))) p'=some (.tup [.ref a',.bl true])/\(upd (upd H4 t (.tup [.ref a,.bl true])) D (.lst (ps.map V.ref++[.ref t]))) a'=some (.tup [.int q.1,.int q.2]))
     ⟨a,kT _ _ a7,kT _ _ (s5 _ _ ha)⟩ (aI (fun p' q ⟨a',e1,e2⟩=>⟨a',kT _ _ (s5 _ _ e1),kT _ _ (s5 _ _ e2)⟩) pp)
   ·rintro H4 ⟨s4,ps,h4,pp⟩;rw[lx,List.take_of_length_le (Nat.le_refl _)]at pp;have pk:Paired (fun p (kv:List Key×V)=>∃q,H4 p=some (.tup [.ref q,kv.2])/\H4 q=some (.tup (kv.1.map kV))) ps (kvF k2 (KS (RM.aW hs n))):=by
     clear hla3 pr3 lx lL hndl hD3 hla pr hD h4;generalize RM.aW hs n=L at pp;induction pp with
     |nil=>exact .nil
     |cons h _ ih=>exact .cons h ih
    refine⟨D,ps,_,rfl,SqL.of h4,pk,fun ab hab=>?_⟩;rw[DS hndl];have s5:a9 H4 (upd H4 ab (.dT (kvF k2 (KS (RM.aW hs n))))):=a9.upd hab;have hA5:D2 (upd H4 ab (.dT (kvF k2 (KS (RM.aW hs n))))) ab (KS (RM.aW hs n)):=a7;have s35:a9 H3 (upd H4 ab (.dT (kvF k2 (KS (RM.aW hs n))))):=a9.trans s4 s5;generalize (upd H4 ab (.dT (kvF k2 (KS (RM.aW hs n)))))=H5 at s5 hA5 s35 ⊢;have hla5:=s35 _ _ hla3;refine⟨_,rfl,la,rfl,⟨_,SqL.of hla5⟩,fun D2' hD2=>fL (K:=K) (a:=la) (xs:=xs)
     (fun i H6=>a9 H5 H6/\∃ys,H6 D2'=some (.lst ys)/\Paired (T2 H6) ys (((RM.aW hs n).take i).filter fun p=>(RM.f6 p).all fun q=>(RM.aW hs n).contains q)) ⟨a9.upd hD2,[],a7,.nil⟩ (fun i H6 _ ⟨s6,_⟩=>s6.seq (SqL.of hla5)) ?_ ?_⟩
    ·rintro i x H6 hx ⟨s6,ys,h6,py⟩;obtain⟨p,hp,tp⟩:=pairs_at pr3 hx;have tp6:=tp.mono (a9.trans s35 s6);have ly:=pairs_len py;have lf:=List.length_filter_le (fun p=>(RM.f6 p).all fun q=>(RM.aW hs n).contains q) ((RM.aW hs n).take i);rw[List.length_take]at lf;refine⟨rfl,_,rfl,_,rfl,x,p,ab,RM.aW hs n,rfl,tp6,R2.mono s6 hA5.rd,fun H7 s7=>⟨_,rfl,?_⟩⟩;have h7:=s7 _ _ h6;refine cJ (fun c1=>?_) (fun c1=>?_)
     ·refine⟨_,rfl,ys,h7,few (m:=2000) (Nat.le_trans (Nat.le_of_eq ly) (Nat.le_trans lf (by omega))),a9.put (a9.trans s6 s7) hD2,ys++[x],a7,?_⟩;rw[RM.take_snoc hp,List.filter_append,List.filter_cons_of_pos (by exact c1),List.filter_nil];exact bA ((tp6.mono s7).upd h7) (aI (fun _ _ z=>(z.mono s7).upd h7) py)
     ·refine⟨a9.trans s6 s7,ys,h7,?_⟩;rw[RM.take_snoc hp,List.filter_append,List.filter_cons_of_neg (by exact c1),List.filter_nil,List.append_nil];exact aI (fun _ _ z=>z.mono s7) py
    ·rintro H6 ⟨s6,ys,h6,py⟩;rw[lx,List.take_of_length_le (Nat.le_refl _)]at py;have s36:a9 H3 H6:=a9.trans s35 s6;refine⟨_,rfl,_,_,rfl,rfl,⟨n+1,D2',_,_,rfl,a9.trans s3 s36,⟨D2',ys,rfl,h6,py⟩,s36 _ _ hD3⟩,?_⟩;show 100 - ((n:Int)+1).toNat<100 - ((n:Int)).toNat
     omega
 ·have e:xs=[]:=by
   cases xs with
   |nil=>rfl
   |cons _ _=>exact absurd rfl cq
  subst e;have en:RM.aW hs n=[]:=by
   cases h:RM.aW hs n with
   |nil=>rfl
   |cons _ _=>rw[h]at pr;cases pr
  have n0:0<n:=by apply Nat.pos_of_ne_zero;intro z;subst z;exact hne0 en
  rw[hdep n n0 en]at hD;exact⟨_,rfl,k d0 H2 s2 hd0 hD⟩
abbrev s_ho:Stmt:=(top 53)
theorem sc_ho:aK ["point","depths","step"] ["point","depths"] (aG s_ho):=⟨rfl,rfl,rfl,by decide+kernel,rfl,by decide+kernel,by decide+kernel⟩
noncomputable def sp_ho(K:W.Frag)(d:Adr):Sp:=fun vs H Q _=>∃(v:V)(p:PI)(dA:Addr)(h:List Nat),vs=[v,.ref dA]/\T2 H v p/\R2 H dA (IV (RM.bS h))/\∀m H',a9 H H'->m∈RM.dX h p->(∀x∈RM.dX h p,m<=x)->Q (.int m) H'
theorem ok_ho(F:Fun K "height_over" "height_over" s_ho f fd)(T:Txt K mg base d)(D_m:aQ P w K mg base CX0 1 "moved" ["place","step"] (sp_m K d)):bK P w K mg base CX0 2 f fd ["point","depths"] (sp_ho K d):=by
 refine F.ok sc_ho (fun vs H Q E h=>by obtain⟨v,p,dA,h,rfl,_⟩:=h;rfl) (fun cdv A outer s H vs Q E hr h=>?_);have hu:=bF hr;obtain⟨aHALVES_AT_A_POINT,e7,c_HALVES_AT_A_POINT⟩:=T.e7;obtain⟨v,p,dA,h,rfl,hv,hA,k⟩:=h;refine⟨_,(aD (aR (bM (M5 rfl) (by rfl) T.min (by rfl) (a8 (qE (own:=[("step",2)]) rfl sc_ho.nd (k9 (fK e7 rfl)) (cU (by first|decide+kernel|kernel_rfl)) (fun _ _ _ _ _=>(aL (i:=2) sc_ho.nd rfl (Or.inl rfl))) (fun _ _ _ _ _=>gC) (fun _ _ _ _ _=>(cI gN (sI hu (pv 1) (aU D_m (hm hr) aX rfl (a8 (pv 0) (a8 (pv 2) aC))) (K6 FI aN) ⟨rfl,rfl,rfl,rfl⟩) aN))) aC)))),?_⟩;obtain⟨qs,hqs,prq⟩:=c_HALVES_AT_A_POINT;have e4:qs.length=4:=pairs_len prq;refine⟨_,rfl,⟨_,hqs _⟩,fun D hD=>LJ (K:=K) (a:=aHALVES_AT_A_POINT) (xs:=qs)
  (fun i H2=>a9 H H2/\H2 D=some (.lst (((RM.dX h p).take i).map V.int))) ⟨a9.upd hD,a7⟩ (fun i H2 _ _=>hqs H2) ?_ ?_⟩
 ·rintro i x H2 hx ⟨s2,h2⟩;obtain⟨z,hz,cz⟩:=pairs_at prq hx;have hat:=RM.JZ h p hz;refine⟨rfl,_,rfl,dA,rfl,.inr ⟨_,hA.mono s2⟩,_,rfl,_,rfl,v,x,p,z,rfl,(hv.mono s2).c,cz _,fun n H3 s3 t3=>?_⟩;obtain⟨na,rfl,hna⟩:=t3;have h3:=s3 _ _ h2;have eg:(RM.aJ (IV (RM.bS h)) (p.1+z.1,p.2+z.2)).getD (V.int (-1))=V.int (RM.d5 h (p.1+z.1,p.2+z.2)):=by rw[f9,<- RM.HN];cases RM.aJ (RM.bS h) (p.1+z.1,p.2+z.2)<;>rfl
  refine⟨_,rfl,_,R2.get (p:=(p.1+z.1,p.2+z.2)) (hA.mono (a9.trans s2 s3)) hna,RM.d5 h (p.1+z.1,p.2+z.2),1,eg,rfl,_,h3,?_,a9.put (a9.trans s2 s3) hD,?_⟩
  ·rw[List.length_map,List.length_take];have:(RM.dX h p).length=4:=rfl;exact few (m:=10) (by omega)
  ·rw[a7,RM.take_snoc hat];simp
 ·rintro H2 ⟨s2,h2⟩;rw[e4]at h2;have h2:H2 D=some (.lst ((RM.dX h p).map V.int)):=h2;exact⟨D,RM.dX h p,rfl,SqL.of h2,by show 0<4;decide,fun m hm hle=>k m H2 s2 hm hle⟩
abbrev s_ho2:Stmt:=(top 54)
theorem sc_ho2:aK ["depths","heights","half","side","point"] ["depths"] (aG s_ho2):=⟨rfl,rfl,rfl,by decide+kernel,rfl,by decide+kernel,by decide+kernel⟩
noncomputable def sp_ho2(K:W.Frag)(d:Adr):Sp:=fun vs H Q _=>∃(dA:Addr)(h:List Nat),vs=[.ref dA]/\D2 H dA (IV (RM.bS h))/\(∀r∈h,RM.okR r)/\h.length<=1024/\∀r ht H',a9 H H'->H r=none->D2 H' r (IV ht)->RM.F9 h ht->Q (.ref r) H'
theorem ok_ho2(F:Fun K "heights_of" "heights_of" s_ho2 f fd)(T:Txt K mg base d)(D_ss:aQ P w K mg base CX0 2 "side_start" ["square","side"] (sp_ss K d))(D_ho:aQ P w K mg base CX0 2 "height_over" ["point","depths"] (sp_ho K d)):bK P w K mg base CX0 3 f fd ["depths"] (sp_ho2 K d):=by
 refine F.ok sc_ho2 (fun vs H Q E h=>by obtain⟨dA,h,rfl,_⟩:=h;rfl) (fun cdv A outer s H vs Q E hr h=>?_);have hu:=bF hr;obtain⟨aALL_SIDES,bI,c_ALL_SIDES⟩:=T.bI;obtain⟨dA,h,rfl,hA,hok,hl,k⟩:=h;refine⟨_,(aB (aP (i:=1) sc_ho2.nd rfl (Or.inl rfl) dG)
   (aB (j7 (c9 PassesOwn.never rfl (lI (pv 0)) (aL (i:=2) sc_ho2.nd rfl (Or.inl rfl)) (aD (c9 PassesOwn.never rfl (k9 (fK bI rfl)) (aL (i:=3) sc_ho2.nd rfl (Or.inl rfl)) (aB (aP (i:=4) sc_ho2.nd rfl (Or.inl rfl) (aU D_ss (hm hr) aX rfl (a8 (pv 2) (a8 (pv 3) aC))))
   (aD (cR (fD (d7 hu (pv 4) (pv 1))) (aD (eV hu (pv 1) (pv 4) (aU D_ho (hm hr) aX rfl (a8 (pv 4) (a8 (pv 0) aC))) rfl)) bJ)))))))
   (aD (aR (pv 1))))),?_⟩
 refine fun f hf=>?_
 have nc:dA≠f:=aH hA hf;have lockd:∀od,(upd H dA (.frz od (.dT (kvF k2 (IV (RM.bS h)))))) f=none:=fun od=>fG hA hf
 have ekeys:(IV (RM.bS h)).map (·.1)=h.map RM.hP:=by rw[xC];unfold RM.bS;rw[RM.gO]
 refine⟨dA,.dT (kvF k2 (IV (RM.bS h))),by rw[aA nc];exact hA,trivial,fun od=>⟨_,rfl,dA,od,rfl,.inr ⟨_,a7,nS (d:=dA) (od:=od) (kvs:=kvF k2 (IV (RM.bS h)))
  (fun i σ H2=>∃(ht:List (PI×Int))(v2 v3 v4:Option V),σ=[some (.ref dA),some (.ref f),v2,v3,v4]/\a9 (upd H dA (.frz od (.dT (kvF k2 (IV (RM.bS h)))))) H2/\D2 H2 f (IV ht)/\RM.gB h ht i 0)
  ⟨[],none,none,none,rfl,a9.both (a9.upd hf),by unfold D2;rw[aA nc.symm,a7];rfl,RM.gB.start h⟩ (fun i σ H2 ⟨_,_,_,_,_,s2,_⟩=>s2 _ _ a7) ?_ ?_⟩⟩⟩
 ·rintro i kk vv q σ H2 hi hq ⟨ht,v2,v3,v4,rfl,s2,hD,pre⟩;obtain⟨p,hp,rfl⟩:=mH hi;have hp2:(h.map RM.hP)[i]? =some p:=by have:=congrArg (Option.map Prod.fst) hp;rw[<- List.getElem?_map,ekeys]at this;exact this
  obtain⟨r,hr,rfl⟩:∃r,h[i]? =some r/\p=RM.hP r:=by
   rw[List.getElem?_map]at hp2;cases e:h[i]? with
   |none=>rw[e]at hp2;cases hp2
   |some r=>rw[e]at hp2;exact⟨r,rfl,(Option.some.inj hp2).symm⟩
  have hil:=qY hr;refine⟨_,rfl,⟨_,c_ALL_SIDES _⟩,jI (K:=K) (a:=aALL_SIDES) (xs:=[.int 0,.int 1,.int 2,.int 3]) (fun j σ H3=>∃(ht:List (PI×Int))(v3 v4:Option V),σ=[some (.ref dA),some (.ref f),some (.ref q),v3,v4]/\a9 (upd H dA (.frz od (.dT (kvF k2 (IV (RM.bS h)))))) H3/\T2 H3 (.ref q) (RM.hP r)/\D2 H3 f (IV ht)/\RM.gB h ht i j)
   ⟨ht,v3,v4,rfl,s2,⟨q,rfl,hq⟩,hD,pre⟩ (fun i σ H2 _ _=>c_ALL_SIDES H2) ?_ ?_⟩
  ·rintro j x σ H3 hx ⟨ht,v3,v4,rfl,s3,tq,hD,pre⟩;obtain⟨hj,rfl⟩:=mX hx;refine⟨_,rfl,_,rfl,.ref q,RM.hP r,j,rfl,tq.c,hj,fun n H4 s4 t4=>?_⟩;obtain⟨na,rfl,hna⟩:=t4;have hD4:D2 H4 f (IV ht):=s4 _ _ hD;refine⟨_,rfl,_,rfl,f,_,rfl,R2.get (p:=RM.aM (RM.hP r) j) hD4.rd hna,_,rfl,?_⟩;rw[IB];refine cJ (fun c1=>?_) (fun c1=>?_)
   ·refine⟨_,rfl,_,rfl,.ref na,RM.aM (RM.hP r) j,dA,h,rfl,⟨na,rfl,hna⟩,.inr ⟨od,(a9.trans s3 s4) _ _ a7⟩,fun m H5 s5 hm hle=>?_⟩;have em:=RM.JK hok (List.mem_of_getElem? hr) hm hle;subst em;have hD5:D2 H5 f (IV ht):=s5 _ _ hD4;have lp:=pre.len;refine⟨_,rfl,_,rfl,f,_,rfl,D2.put hD5 (s5 _ _ hna) _ (by rw[dN];exact few (m:=5000) (by omega)),_,_,_,rfl,a9.put (a9.trans s3 (a9.trans s4 s5)) (lockd od),T2.qW (tq.mono (a9.trans s4 s5)) hD5 (by intro _ z;cases z),?_,pre.put hr⟩;unfold D2;rw[a7,lE]
   ·have c1:(RM.aJ ht (RM.aM (RM.hP r) j)).isSome=true:=by
     cases e:(RM.aJ ht (RM.aM (RM.hP r) j)).isSome with
     |true=>rfl
     |false=>rw[e]at c1;exact absurd rfl c1
    exact⟨ht,_,_,rfl,a9.trans s3 s4,tq.mono s4,hD4,pre.keep hr c1⟩
  ·rintro σ H3 ⟨ht,v3,v4,rfl,s3,tq,hD,pre⟩;exact⟨ht,_,_,_,rfl,s3,hD,pre.next⟩
 ·rintro σ H2 ⟨ht,v2,v3,v4,rfl,s2,hD,pre⟩;have el:(kvF k2 (IV (RM.bS h))).length=h.length:=by rw[eM,dN];unfold RM.bS;rw[List.length_map,List.length_map]
  rw[el]at pre;exact⟨s2 _ _ a7,_,rfl,k f ht _ (a9.unlock hA s2) hf (by unfold D2;rw[aA nc.symm];exact hD) pre.done⟩
abbrev s_fo2:Stmt:=(top 57)
theorem sc_fo2:aK ["half","side","depth","heights","start_is_low","end_is_low"] ["half","side","depth","heights"] (aG s_fo2):=⟨rfl,rfl,rfl,by decide+kernel,rfl,by decide+kernel,by decide+kernel⟩
noncomputable def sp_fo2(K:W.Frag)(d:Adr):Sp:=fun vs H Q _=>∃(v:V)(r s0:Nat)(h:List Nat)(hA:Addr)(ht:List (PI×Int)),vs=[v,.int (s0:Nat),.int (RM.d5 h (RM.hP r)),.ref hA]/\T2 H v (RM.hP r)/\s0<4/\r∈h/\R2 H hA (IV ht)/\RM.F9 h ht/\∀H',a9 H H'->Q (.int (RM.tD h ((RM.hP r).1,(RM.hP r).2,(s0:Int)))) H'
theorem ok_fo2(F:Fun K "facing_of" "facing_of" s_fo2 f fd)(T:Txt K mg base d)(D_ss:aQ P w K mg base CX0 2 "side_start" ["square","side"] (sp_ss K d))(D_se:aQ P w K mg base CX0 3 "side_end" ["square","side"] (sp_se K d))(D_lo:aQ P w K mg base CX0 1 "left_of" ["direction"] (sp_lo K d))(D_ro:aQ P w K mg base CX0 1 "right_of" ["direction"] (sp_ro K d))(D_o:aQ P w K mg base CX0 1 "opposite" ["direction"] (sp_o K d)):bK P w K mg base CX0 4 f fd ["half","side","depth","heights"] (sp_fo2 K d):=by
 refine F.ok sc_fo2 (fun vs H Q E h=>by obtain⟨v,r,s0,h,hA,ht,rfl,_⟩:=h;rfl) (fun cdv A outer s H vs Q E hr h=>?_);have hu:=bF hr;obtain⟨v,r,s0,h,hA,ht,rfl,hv,hs,hrm,hT,ok,k⟩:=h;have g1:=ok.all r hrm s0 hs;have ec:RM.aM (RM.hP r) ((s0+1)%4)=RM.aM (RM.hP r) (s0+1):=by unfold RM.aM;rw[Nat.mod_mod]
 have g2:RM.aJ ht (RM.aM (RM.hP r) (s0+1))=some (RM.hgt h (RM.aM (RM.hP r) (s0+1))):=by rw[<- ec];exact ok.all r hrm ((s0+1)%4) (by omega)
 have ef:RM.tD h ((RM.hP r).1,(RM.hP r).2,(s0:Int))=RM.HK s0 (RM.hgt h (RM.aM (RM.hP r) s0)) (RM.hgt h (RM.aM (RM.hP r) (s0+1))) (RM.d5 h (RM.hP r)):=by unfold RM.tD;simp
 rw[ef]at k;generalize RM.hgt h (RM.aM (RM.hP r) s0)=u at*;generalize RM.hgt h (RM.aM (RM.hP r) (s0+1))=w at*;generalize RM.d5 h (RM.hP r)=dd at*;refine⟨_,(aB (aP (i:=4) sc_fo2.nd rfl (Or.inl rfl) (n8 jO (lJ hu (pv 3) (aU D_ss (hm hr) aX rfl (a8 (pv 0) (a8 (pv 1) aC))) (fun _ _=>rfl)) (pv 2) (cC _)))
   (aB (aP (i:=5) sc_fo2.nd rfl (Or.inl rfl) (n8 jO (lJ hu (pv 3) (aU D_se (hm hr) aX rfl (a8 (pv 0) (a8 (pv 1) aC))) (fun _ _=>rfl)) (pv 2) (cC _)))
   (aB (cR (PW.pt (oV (hZ (pv 4) (fun _=>rfl)) (mZ (hZ (pv 5) (fun _=>rfl))))) (aD (aR (pv 1))) bJ)
   (aB (cR (hZ (pv 5) (fun _=>rfl)) (aD (aR (aU D_lo (hm hr) aX rfl (a8 (pv 1) aC)))) bJ)
   (aB (cR (hZ (pv 4) (fun _=>rfl)) (aD (aR (aU D_ro (hm hr) aX rfl (a8 (pv 1) aC)))) bJ)
   (aD (aR (aU D_o (hm hr) aX rfl (a8 (pv 1) aC))))))))),?_⟩
 refine⟨_,rfl,_,rfl,_,rfl,v,RM.hP r,s0,rfl,hv.c,hs,fun n H1 s1 t1=>?_⟩;obtain⟨na,rfl,hna⟩:=t1;have d1:lF H1 hA (.ref na) (some (.int u)):=by have:=(hT.mono s1).get (p:=RM.aM (RM.hP r) s0) hna;rw[f9,g1]at this;exact this
 refine⟨hA,_,rfl,d1,_,rfl,rfl,?_⟩;refine⟨_,rfl,_,rfl,_,rfl,v,RM.hP r,s0,rfl,(hv.mono s1).c,hs,fun n H2 s2 t2=>?_⟩;obtain⟨ma,rfl,hma⟩:=t2;have d2:lF H2 hA (.ref ma) (some (.int w)):=by have:=(hT.mono (a9.trans s1 s2)).get (p:=RM.aM (RM.hP r) (s0+1)) hma;rw[f9,g2]at this;exact this
 refine⟨hA,_,rfl,d2,_,rfl,rfl,?_⟩;have k:=k H2 (a9.trans s1 s2);unfold RM.HK at k;have du:decide (V.int u=V.int dd)=true↔u=dd:=by rw[decide_eq_true_iff];exact⟨V.int.inj,fun z=>by rw[z]⟩
 have dw:decide (V.int w=V.int dd)=true↔w=dd:=by rw[decide_eq_true_iff];exact⟨V.int.inj,fun z=>by rw[z]⟩
 by_cases cu:u=dd
 ·by_cases cw:w=dd
  ·rw[if_pos ⟨cu,cw⟩]at k;rw[du.mpr cu,dw.mpr cw];exact⟨_,rfl,_,rfl,_,rfl,_,rfl,_,rfl,k⟩
  ·rw[if_neg (fun z=>cw z.2),if_neg cw,if_pos cu]at k;have e2:decide (V.int w=V.int dd)=false:=by rw[Bool.eq_false_iff];exact fun z=>cw (dw.mp z)
   rw[du.mpr cu,e2];exact⟨_,rfl,_,rfl,_,rfl,_,rfl,_,rfl,_,rfl,_,rfl,_,rfl,_,rfl,_,rfl,k⟩
 ·by_cases cw:w=dd
  ·rw[if_neg (fun z=>cu z.1),if_pos cw]at k;have e1:decide (V.int u=V.int dd)=false:=by rw[Bool.eq_false_iff];exact fun z=>cu (du.mp z)
   rw[e1,dw.mpr cw];exact⟨_,rfl,_,rfl,_,rfl,_,rfl,_,rfl,_,rfl,k⟩
  ·rw[if_neg (fun z=>cu z.1),if_neg cw,if_neg cu]at k;have e1:decide (V.int u=V.int dd)=false:=by rw[Bool.eq_false_iff];exact fun z=>cu (du.mp z)
   have e2:decide (V.int w=V.int dd)=false:=by rw[Bool.eq_false_iff];exact fun z=>cw (dw.mp z)
   rw[e1,e2];exact⟨_,rfl,_,rfl,_,rfl,_,rfl,_,rfl,_,rfl,_,rfl,_,rfl,k⟩
abbrev s_fo3:Stmt:=(top 58)
theorem sc_fo3:aK ["depths","heights","facings","half","depth","side"] ["depths","heights"] (aG s_fo3):=⟨rfl,rfl,rfl,by decide+kernel,rfl,by decide+kernel,by decide+kernel⟩
theorem JU{h:List Nat}{i:Nat}{p:PI}{v:V}(hp:(IV (RM.bS h))[i]? =some (p,v)):∃r,h[i]? =some r/\p=RM.hP r/\v=.int (RM.d5 h (RM.hP r)):=by
 unfold IV RM.bS at hp;rw[List.getElem?_map,List.getElem?_map,List.getElem?_map]at hp;cases e:h[i]? with
 |none=>rw[e]at hp;cases hp
 |some r=>rw[e]at hp;cases hp;exact⟨r,rfl,rfl,rfl⟩
noncomputable def sp_fo3(K:W.Frag)(d:Adr):Sp:=fun vs H Q _=>∃(dA hA:Addr)(h:List Nat)(ht:List (PI×Int)),vs=[.ref dA,.ref hA]/\D2 H dA (IV (RM.bS h))/\D2 H hA (IV ht)/\dA≠hA/\RM.F9 h ht/\(h.map RM.hP).Nodup/\h.length<=1024/\∀r H',a9 H H'->H r=none->D3 H' r (IV (RM.cW h))->Q (.ref r) H'
theorem ok_fo3(F:Fun K "facings_of" "facings_of" s_fo3 f fd)(T:Txt K mg base d)(D_fo2:aQ P w K mg base CX0 4 "facing_of" ["half","side","depth","heights"] (sp_fo2 K d)):bK P w K mg base CX0 5 f fd ["depths","heights"] (sp_fo3 K d):=by
 refine F.ok sc_fo3 (fun vs H Q E h=>by obtain⟨dA,hA,h,ht,rfl,_⟩:=h;rfl) (fun cdv A outer s H vs Q E hr h=>?_);have hu:=bF hr;obtain⟨aALL_SIDES,bI,c_ALL_SIDES⟩:=T.bI;obtain⟨dA,hA,h,ht,rfl,hD,hT,nAT,ok,hnd,hl,k⟩:=h;refine⟨_,(aB (aP (i:=2) sc_fo3.nd rfl (Or.inl rfl) dG)
   (aB (j7 (c9 PassesOwn.never rfl (oZ (pv 0)) (kA rfl (bE (aL (i:=3) sc_fo3.nd rfl (Or.inl rfl)) (bE (aL (i:=4) sc_fo3.nd rfl (Or.inl rfl)) fJ))) (aD (c9 PassesOwn.never rfl (k9 (fK bI rfl)) (aL (i:=5) sc_fo3.nd rfl (Or.inl rfl)) (aD (eV hu (pv 2) (dZ (a8 (cN cD (pv 3) aN (fun _ _=>rfl)) (a8 (cN cD (pv 3) aN (fun _ _=>rfl)) (a8 (pv 5) aC)))) (aU D_fo2 (hm hr) aX rfl (a8 (pv 3) (a8 (pv 5) (a8 (pv 4) (a8 (pv 1) aC))))) rfl))))))
   (aD (aR (pv 2))))),?_⟩
 refine fun f hf=>?_
 have nc:dA≠f:=aH hD hf;have lockd:∀od,(upd H dA (.frz od (.dT (kvF k2 (IV (RM.bS h)))))) f=none:=fun od=>fG hD hf
 have lockT:∀od,D2 (upd H dA (.frz od (.dT (kvF k2 (IV (RM.bS h)))))) hA (IV ht):=fun od=>by unfold D2;rw[aA nAT.symm];exact hT
 refine⟨dA,.dT (kvF k2 (IV (RM.bS h))),by rw[aA nc];exact hD,trivial,fun od=>⟨_,rfl,dA,od,_,rfl,a7,pP (d:=dA) (od:=od) (kvs:=kvF k2 (IV (RM.bS h)))
  (fun i σ H2=>∃(v3 v4 v5:Option V),σ=[some (.ref dA),some (.ref hA),some (.ref f),v3,v4,v5]/\a9 (upd H dA (.frz od (.dT (kvF k2 (IV (RM.bS h)))))) H2/\D3 H2 f (IV ((RM.fO ((h.map RM.hP).take i)).map fun t=>(t,RM.tD h t))))
  ⟨none,none,none,rfl,a9.both (a9.upd hf),by unfold D3;rw[aA nc.symm,a7];rfl⟩ (fun i σ H2 ⟨_,_,_,_,s2,_⟩=>s2 _ _ a7) ?_ ?_⟩⟩
 ·rintro i kk vv q T2' σ H2 hi hq hT2 ⟨v3,v4,v5,rfl,s2,hF⟩;obtain⟨p,hp,rfl⟩:=mH hi;obtain⟨r,hr',rfl,rfl⟩:=JU hp;have hp2:(h.map RM.hP)[i]? =some (RM.hP r):=by rw[List.getElem?_map,hr'];rfl
  have hil:=qY hr';have s3:a9 H2 (upd H2 T2' (.tup [.ref q,.int (RM.d5 h (RM.hP r))])):=a9.upd hT2;refine⟨T2',_,rfl,SqT.of a7,rfl,_,_,rfl,_,_,rfl,rfl,?_⟩;have hF3:D3 (upd H2 T2' (.tup [.ref q,.int (RM.d5 h (RM.hP r))])) f _:=s3 _ _ hF;have hq3:=s3 _ _ hq;have s23:=a9.trans s2 s3;generalize (upd H2 T2' (.tup [.ref q,.int (RM.d5 h (RM.hP r))]))=H3 at s3 hF3 hq3 s23 ⊢;refine⟨_,rfl,⟨_,c_ALL_SIDES _⟩,jI (K:=K) (a:=aALL_SIDES) (xs:=[.int 0,.int 1,.int 2,.int 3]) (fun j σ H4=>∃(v5:Option V),σ=[some (.ref dA),some (.ref hA),some (.ref f),some (.ref q),some (.int (RM.d5 h (RM.hP r))),v5]/\a9 (upd H dA (.frz od (.dT (kvF k2 (IV (RM.bS h)))))) H4/\T2 H4 (.ref q) (RM.hP r)/\D3 H4 f (IV ((RM.fO ((h.map RM.hP).take i)++(RM.vX (RM.hP r)).take j).map fun t=>(t,RM.tD h t))))
   ⟨v5,rfl,s23,⟨q,rfl,hq3⟩,by rw[List.take_zero,List.append_nil];exact hF3⟩ (fun i σ H2 _ _=>c_ALL_SIDES H2) ?_ ?_⟩
  ·rintro j x σ H4 hx ⟨v5,rfl,s4,tq,hF⟩;obtain⟨hj,rfl⟩:=mX hx;refine⟨_,rfl,_,rfl,_,rfl,_,rfl,.ref q,r,j,h,hA,ht,rfl,tq,hj,List.mem_of_getElem? hr',R2.mono s4 (lockT od).rd,ok,fun H5 s5=>?_⟩;obtain⟨_,e,hq5⟩:=tq.mono s5;cases e;refine⟨_,rfl,_,rfl,q,_,_,_,rfl,rfl,SqT.of hq5,bQ (by decide) rfl,_,rfl,q,_,_,_,rfl,rfl,SqT.of hq5,bQ (by decide) rfl,_,rfl,(by show 3<=sizeLine;decide),fun t ht'=>?_⟩;have s6:a9 H5 (upd H5 t (.tup [.int (RM.hP r).1,.int (RM.hP r).2,.int (j:Int)])):=a9.upd ht';have hF6:D3 (upd H5 t (.tup [.int (RM.hP r).1,.int (RM.hP r).2,.int (j:Int)])) f (IV ((RM.fO ((h.map RM.hP).take i)++(RM.vX (RM.hP r)).take j).map fun t=>(t,RM.tD h t))):=s6 _ _ (s5 _ _ hF);refine⟨f,_,rfl,D3.put (p:=((RM.hP r).1,(RM.hP r).2,(j:Int))) hF6 a7 _ ?_,_,rfl,a9.put (a9.trans s4 (a9.trans s5 s6)) (lockd od),T2.qW (tq.mono (a9.trans s5 s6)) hF6 (by intro _ z;cases z),?_⟩
   ·rw[dN,List.length_map,List.length_append,List.length_take];have h1:=RM.DF (h.map RM.hP) i;rw[List.length_map]at h1;have h2:(RM.vX (RM.hP r)).length=4:=rfl;exact few (m:=5000) (by omega)
   ·unfold D3;rw[a7,lE,RM.fT,RM.DH (RM.hP r) hj]
    ·simp
    ·rw[RM.gO];exact RM.DG hnd hp2 hj
  ·rintro σ H4 ⟨v5,rfl,s4,tq,hF⟩;refine⟨_,_,_,rfl,s4,?_⟩;rw[RM.A2 hp2];exact hF
 ·rintro σ H2 ⟨v3,v4,v5,rfl,s2,hF⟩;have el:(kvF k2 (IV (RM.bS h))).length=(h.map RM.hP).length:=by rw[eM,dN];unfold RM.bS;rw[List.length_map]
  rw[el,List.take_of_length_le (Nat.le_refl _)]at hF;exact⟨s2 _ _ a7,_,rfl,k f _ (a9.unlock hD s2) hf (by unfold D3;rw[aA nc.symm];exact hF)⟩
abbrev s_ta:Stmt:=(top 59)
theorem sc_ta:aK ["triangle","across","i","j","side"] ["triangle"] (aG s_ta):=⟨rfl,rfl,rfl,by decide+kernel,rfl,by decide+kernel,by decide+kernel⟩
noncomputable def sp_ta(K:W.Frag)(d:Adr):Sp:=fun vs H Q _=>∃(v:V)(t:PI3),vs=[v]/\T3 H v t/\0<=t.2.2/\t.2.2<4/\∀r H',a9 H H'->T3 H' r ((RM.aO (t.1,t.2.1) t.2.2.toNat).1,(RM.aO (t.1,t.2.1) t.2.2.toNat).2,(t.2.2+2)%4)->Q r H'
theorem ok_ta(F:Fun K "triangle_across" "triangle_across" s_ta f fd)(T:Txt K mg base d)(D_b:aQ P w K mg base CX0 2 "beyond" ["place","direction"] (sp_b K d))(D_o:aQ P w K mg base CX0 1 "opposite" ["direction"] (sp_o K d)):bK P w K mg base CX0 3 f fd ["triangle"] (sp_ta K d):=by
 refine F.ok sc_ta (fun vs H Q E h=>by obtain⟨v,t,rfl,_⟩:=h;rfl) (fun cdv A outer s H vs Q E hr h=>?_);have hu:=bF hr;obtain⟨v,t,rfl,⟨a,rfl,ha⟩,h0,h4,k⟩:=h;refine⟨_,(aB (wH (pv 0) (kA rfl (bE (aL (i:=2) sc_ta.nd rfl (Or.inl rfl)) (bE (aL (i:=3) sc_ta.nd rfl (Or.inl rfl)) (bE (aL (i:=4) sc_ta.nd rfl (Or.inl rfl)) fJ)))))
   (aB (aP (i:=1) sc_ta.nd rfl (Or.inl rfl) (aU D_b (hm hr) aX rfl (a8 (dZ (a8 (pv 2) (a8 (pv 3) aC))) (a8 (pv 4) aC))))
   (aD (aR (dZ (a8 (cN cD (pv 1) aN (fun _ _=>rfl)) (a8 (cN cD (pv 1) aN (fun _ _=>rfl)) (a8 (aU D_o (hm hr) aX rfl (a8 (pv 4) aC)) aC)))))))),?_⟩
 refine⟨_,rfl,a,_,rfl,SqT.of ha,rfl,_,_,rfl,_,_,rfl,_,_,rfl,rfl,?_⟩;refine⟨_,rfl,_,rfl,(by show 2<=sizeLine;decide),fun b hb=>?_⟩;have s1:a9 H (upd H b (.tup [.int t.1,.int t.2.1])):=a9.upd hb;refine⟨_,rfl,.ref b,(t.1,t.2.1),t.2.2.toNat,congrArg (fun z=>[V.ref b,V.int z]) (Int.toNat_of_nonneg h0).symm,T2.c ⟨b,rfl,a7⟩,by omega,fun n H2 s2 t2=>?_⟩;obtain⟨na,rfl,hna⟩:=t2;refine⟨_,rfl,na,_,_,_,rfl,rfl,SqT.of hna,bQ (by decide) rfl,_,rfl,na,_,_,_,rfl,rfl,SqT.of hna,bQ (by decide) rfl,_,rfl,_,rfl,(by show 3<=sizeLine;decide),fun c hc=>?_⟩;exact k _ _ (a9.trans s1 (a9.trans s2 (a9.upd hc))) ⟨c,rfl,a7⟩
abbrev s_tol:Stmt:=(top 60)
theorem sc_tol:aK ["triangle","i","j","side"] ["triangle"] (aG s_tol):=⟨rfl,rfl,rfl,by decide+kernel,rfl,by decide+kernel,by decide+kernel⟩
noncomputable def sp_tol(K:W.Frag)(d:Adr):Sp:=fun vs H Q _=>∃(v:V)(t:PI3),vs=[v]/\T3 H v t/\∀r H',a9 H H'->T3 H' r (t.1,t.2.1,(t.2.2+1)%4)->Q r H'
theorem ok_tol(F:Fun K "triangle_on_left" "triangle_on_left" s_tol f fd)(T:Txt K mg base d)(D_lo:aQ P w K mg base CX0 1 "left_of" ["direction"] (sp_lo K d)):bK P w K mg base CX0 2 f fd ["triangle"] (sp_tol K d):=by
 refine F.ok sc_tol (fun vs H Q E h=>by obtain⟨v,t,rfl,_⟩:=h;rfl) (fun cdv A outer s H vs Q E hr h=>?_);have hu:=bF hr;obtain⟨v,t,rfl,⟨a,rfl,ha⟩,k⟩:=h;refine⟨_,(aB (wH (pv 0) (kA rfl (bE (aL (i:=1) sc_tol.nd rfl (Or.inl rfl)) (bE (aL (i:=2) sc_tol.nd rfl (Or.inl rfl)) (bE (aL (i:=3) sc_tol.nd rfl (Or.inl rfl)) fJ)))))
   (aD (aR (dZ (a8 (pv 1) (a8 (pv 2) (a8 (aU D_lo (hm hr) aX rfl (a8 (pv 3) aC)) aC))))))),?_⟩
 refine⟨_,rfl,a,_,rfl,SqT.of ha,rfl,_,_,rfl,_,_,rfl,_,_,rfl,rfl,?_⟩;refine⟨_,rfl,_,rfl,_,rfl,_,rfl,(by show 3<=sizeLine;decide),fun c hc=>?_⟩;exact k _ _ (a9.upd hc) ⟨c,rfl,a7⟩
abbrev s_tor:Stmt:=(top 61)
theorem sc_tor:aK ["triangle","i","j","side"] ["triangle"] (aG s_tor):=⟨rfl,rfl,rfl,by decide+kernel,rfl,by decide+kernel,by decide+kernel⟩
noncomputable def sp_tor(K:W.Frag)(d:Adr):Sp:=fun vs H Q _=>∃(v:V)(t:PI3),vs=[v]/\T3 H v t/\∀r H',a9 H H'->T3 H' r (t.1,t.2.1,(t.2.2+3)%4)->Q r H'
theorem ok_tor(F:Fun K "triangle_on_right" "triangle_on_right" s_tor f fd)(T:Txt K mg base d)(D_ro:aQ P w K mg base CX0 1 "right_of" ["direction"] (sp_ro K d)):bK P w K mg base CX0 2 f fd ["triangle"] (sp_tor K d):=by
 refine F.ok sc_tor (fun vs H Q E h=>by obtain⟨v,t,rfl,_⟩:=h;rfl) (fun cdv A outer s H vs Q E hr h=>?_);have hu:=bF hr;obtain⟨v,t,rfl,⟨a,rfl,ha⟩,k⟩:=h;refine⟨_,(aB (wH (pv 0) (kA rfl (bE (aL (i:=1) sc_tor.nd rfl (Or.inl rfl)) (bE (aL (i:=2) sc_tor.nd rfl (Or.inl rfl)) (bE (aL (i:=3) sc_tor.nd rfl (Or.inl rfl)) fJ)))))
   (aD (aR (dZ (a8 (pv 1) (a8 (pv 2) (a8 (aU D_ro (hm hr) aX rfl (a8 (pv 3) aC)) aC))))))),?_⟩
 refine⟨_,rfl,a,_,rfl,SqT.of ha,rfl,_,_,rfl,_,_,rfl,_,_,rfl,rfl,?_⟩;refine⟨_,rfl,_,rfl,_,rfl,_,rfl,(by show 3<=sizeLine;decide),fun c hc=>?_⟩;exact k _ _ (a9.upd hc) ⟨c,rfl,a7⟩
abbrev s_nf:Stmt:=(top 62)
theorem sc_nf:aK ["first","number","facings","numbers","facing","waiting","triangle"] ["first","number","facings","numbers"] (aG s_nf):=⟨rfl,rfl,rfl,by decide+kernel,rfl,by decide+kernel,by decide+kernel⟩
noncomputable def sp_nf(K:W.Frag)(d:Adr):Sp:=fun vs H Q _=>∃(v:V)(n:Int)(fA nA:Addr)(fac num:List (PI3×Int))(t0:PI3),vs=[v,.int n,.ref fA,.ref nA]/\T3 H v t0/\R3 H fA (IV fac)/\D3 H nA (IV num)/\fA≠nA/\(∀t z,RM.aJ fac t=some z->0<=t.2.2/\t.2.2<4)/\(RM.aJ fac t0).isSome=true/\RM.aJ num t0=none/\fac.length<=4096/\(num.map (·.1)).Nodup/\(∀t∈num.map (·.1),t∈fac.map (·.1))/\∀(N:List PI3)(H':Hp),But nA H H'->D3 H' nA (IV (num++N.map fun p=>(p,n)))->N.Nodup->(∀p,p∈N↔RM.Rch (RM.okT (RM.aJ fac) t0) RM.nbP (RM.isN (RM.aJ num)) t0 p)->Q .non H'
theorem ok_nf(F:Fun K "number_face" "number_face" s_nf f fd)(T:Txt K mg base d)(D_tol:aQ P w K mg base CX0 2 "triangle_on_left" ["triangle"] (sp_tol K d))(D_tor:aQ P w K mg base CX0 2 "triangle_on_right" ["triangle"] (sp_tor K d))(D_ta:aQ P w K mg base CX0 3 "triangle_across" ["triangle"] (sp_ta K d)):bK P w K mg base CX0 4 f fd ["first","number","facings","numbers"] (sp_nf K d):=by
 refine F.ok sc_nf (fun vs H Q E h=>by obtain⟨v,n,fA,nA,fac,num,t0,rfl,_⟩:=h;rfl) (fun cdv A outer s H vs Q E hr h=>?_);have hu:=bF hr;obtain⟨v,n,fA,nA,fac,num,t0,rfl,⟨a0,rfl,ha0⟩,hF,hN,nFN,hside,h0s,h0n,hlen,nnd,nsub,k⟩:=h;obtain⟨fz,hfz⟩:∃fz,RM.aJ fac t0=some fz:=by
  cases e:RM.aJ fac t0 with
  |none=>rw[e]at h0s;cases h0s
  |some z=>exact⟨z,rfl⟩
 have hFb:∀H',But nA H H'->R3 H' fA (IV fac):=fun H' e=>by
  rcases hF with h|⟨o,h⟩
  ·exact .inl (e _ _ nFN h)
  ·exact .inr ⟨o,e _ _ nFN h⟩
 have d0:lF H fA (.ref a0) (some (.int fz)):=by have:=hF.get (p:=t0) ha0;rw[f9,hfz]at this;exact this
 refine⟨_,(aB (aP (i:=4) sc_nf.nd rfl (Or.inl rfl) (lJ hu (pv 2) (pv 0) (fun _ _=>rfl)))
   (aB (aP (i:=5) sc_nf.nd rfl (Or.inl rfl) (fE (a8 (pv 0) aC)))
   (aD (n4 PassesOwn.never (sH (pv 5) (fun _=>rfl)) (aB (aP (i:=6) sc_nf.nd rfl (Or.inl rfl) (AE PySem.F.plainAttrs_list PySem.F.slot_list_pop PySem.F.type_list_pop AR (pv 5)))
   (aD (cR (PW.pt (oV (c8 jO (G8 hu (pv 2) (pv 6) ⟨rfl,rfl,rfl,rfl⟩) (pv 4) (cC _)) (mZ (fD (d7 hu (pv 6) (pv 3)))))) (aB (eV hu (pv 3) (pv 6) (pv 1) rfl)
   (aB (dC (iR PySem.F.plainAttrs_list PySem.F.slot_list_append PySem.F.type_list_append cM (pv 5) (a8 (aU D_tol (hm hr) aX rfl (a8 (pv 6) aC)) aC)))
   (aB (dC (iR PySem.F.plainAttrs_list PySem.F.slot_list_append PySem.F.type_list_append cM (pv 5) (a8 (aU D_tor (hm hr) aX rfl (a8 (pv 6) aC)) aC)))
   (aD (dC (iR PySem.F.plainAttrs_list PySem.F.slot_list_append PySem.F.type_list_append cM (pv 5) (a8 (aU D_ta (hm hr) aX rfl (a8 (pv 6) aC)) aC))))))) bJ))))))),?_⟩
 refine⟨_,rfl,_,rfl,fA,_,rfl,d0,_,rfl,(by show 1<=sizeLine;decide),fun w hw=>?_⟩;have nwn:w≠nA:=(aH hN hw).symm;have s1:a9 H (upd H w (.lst [.ref a0])):=a9.upd hw;dsimp only[kI,FP,DJ,tC];refine mR (fun σ H2=>∃(xs:List V)(ws N:List PI3)(v6:Option V),σ=[some (.ref a0),some (.int n),some (.ref fA),some (.ref nA),some (.int fz),some (.ref w),v6]/\But nA H H2/\H2 w=some (.lst xs)/\Paired (T3 H2) xs ws/\D3 H2 nA (IV (num++N.map fun p=>(p,n)))/\RM.gH (RM.okT (RM.aJ fac) t0) RM.nbP (RM.isN (RM.aJ num)) t0 N ws/\N.Nodup/\(∀p∈N,(RM.aJ fac p).isSome=true/\RM.aJ num p=none)/\xs.length<=1+3*N.length)
  (fun _ H2=>tW H2 w+4*(10000 - lW H2 nA))
  ⟨[.ref a0],[t0],[],none,rfl,a9.but s1,a7,.cons ⟨a0,rfl,s1 _ _ ha0⟩ .nil,by rw[List.map_nil,List.append_nil];exact s1 _ _ hN,RM.gH.first,List.nodup_nil,fun p hp=>(by cases hp),by simp⟩ ?_ (fun _ _ _ _ f ⟨v,e,k,t,q⟩=>⟨v,e,k,t,f _ _ q⟩)
 rintro σ H2 ⟨xs,ws,N,v6,rfl,b2,h2,pr,hD,sr,Nnd,Nin,lxs⟩;have keysN:(num++N.map fun p=>(p,n)).map (·.1)=num.map (·.1)++N:=by rw[List.map_append];congr 1;rw[List.map_map];exact List.map_id N
 have tot:num.length+N.length<=4096:=by
  have hnd2:(num.map (·.1)++N).Nodup:=by rw[List.nodup_append];exact⟨nnd,Nnd,fun a ha b hb e=>RM.lU.mp (Nin b hb).2 (e▸ha)⟩
  have:=RM.bU hnd2 (b:=fac.map (·.1)) fun p hp=>by
   rcases List.mem_append.mp hp with hp|hp
   ·exact nsub p hp
   ·exact(RM.aS p fac).mp (Nin p hp).1
  rw[List.length_append,List.length_map,List.length_map]at this;omega
 refine⟨_,rfl,_,.inl ⟨_,SqL.of h2,rfl⟩,?_⟩;refine cJ (fun cq=>?_) (fun cq=>?_)
 ·have hne:xs≠[]:=by intro z;rw[z]at cq;cases cq
  have hpos:0<xs.length:=List.length_pos_iff.mpr hne;obtain⟨y,hy⟩:∃y,xs[xs.length - 1]? =some y:=⟨_,List.getElem?_eq_getElem (by omega)⟩
  obtain⟨q,hq,ty⟩:=pairs_at pr hy;have ews:=JB (pairs_len pr).symm hq;refine⟨_,rfl,.inl ⟨rfl,_,SqL.of h2⟩,w,xs,y,rfl,rfl,h2,hy,?_⟩;have b4:But nA H (upd H2 w (.lst xs.dropLast)):=b2.put hw;have pr4:Paired (T3 (upd H2 w (.lst xs.dropLast))) xs.dropLast ws.dropLast:=aI (fun _ _ z=>z.upd h2) (eX pr);have hD4:D3 (upd H2 w (.lst xs.dropLast)) nA (IV (num++N.map fun p=>(p,n))):=by unfold D3;rw[aA nwn.symm];exact hD
  have ty4:T3 (upd H2 w (.lst xs.dropLast)) y q:=ty.upd h2;have h4:(upd H2 w (.lst xs.dropLast)) w=some (.lst xs.dropLast):=a7;have ml:tW H2 w=xs.length:=lO h2;have mt:lW H2 nA=num.length+N.length:=by rw[GN hD,dN,List.length_append,List.length_map]
  generalize (upd H2 w (.lst xs.dropLast))=H4 at b4 pr4 hD4 ty4 h4 ⊢;rw[ews]at sr;obtain⟨ya,rfl,hya⟩:=ty4;have ld:xs.dropLast.length=xs.length - 1:=List.length_dropLast ..;have less:tW H4 w+4*(10000 - lW H4 nA)<tW H2 w+4*(10000 - lW H2 nA):=by rw[ml,mt,lO h4,GN hD4,dN,List.length_append,List.length_map,ld];omega
  have o0:RM.okT (RM.aJ fac) t0 t0:=rfl;have u0:¬RM.isN (RM.aJ num) t0:=by unfold RM.isN;rw[h0n];intro z;cases z
  have skip:(¬RM.okT (RM.aJ fac) t0 q\/RM.isN (RM.aJ num) q\/q∈N)->∃(xs':List V)(ws' N':List PI3)(v6':Option V),([some (.ref a0),some (.int n),some (.ref fA),some (.ref nA),some (.int fz),some (.ref w),some (.ref ya)]:List (Option V))=[some (.ref a0),some (.int n),some (.ref fA),some (.ref nA),some (.int fz),some (.ref w),v6']/\But nA H H4/\H4 w=some (.lst xs')/\Paired (T3 H4) xs' ws'/\D3 H4 nA (IV (num++N'.map fun p=>(p,n)))/\RM.gH (RM.okT (RM.aJ fac) t0) RM.nbP (RM.isN (RM.aJ num)) t0 N' ws'/\N'.Nodup/\(∀p∈N',(RM.aJ fac p).isSome=true/\RM.aJ num p=none)/\xs'.length<=1+3*N'.length:=
   fun z=>⟨xs.dropLast,ws.dropLast,N,some (.ref ya),rfl,b4,h4,pr4,hD4,sr.pop o0 u0 z,Nnd,Nin,by omega⟩
  have gq:=(hFb H4 b4).get (p:=q) hya;rw[f9]at gq;cases eq:RM.aJ fac q with
  |none=>rw[eq]at gq;refine⟨_,rfl,fA,rfl,.inr ⟨_,hFb H4 b4⟩,_,rfl,_,gq,_,rfl,rfl,_,rfl,?_⟩;refine⟨skip (.inl fun z=>?_),less⟩;have z:RM.aJ fac q=RM.aJ fac t0:=z;rw[eq,hfz]at z;cases z
  |some z=>
   rw[eq]at gq;refine⟨_,rfl,fA,rfl,.inr ⟨_,hFb H4 b4⟩,_,rfl,_,gq,_,rfl,rfl,_,rfl,?_⟩;refine cJ (fun c1=>?_) (fun c1=>GS ⟨skip (.inl fun z'=>c1 (decide_eq_true ?_)),less⟩)
   ·have c1:z=fz:=V.int.inj (of_decide_eq_true c1);have okq:RM.okT (RM.aJ fac) t0 q:=by
     show RM.aJ fac q=RM.aJ fac t0
     rw[eq,hfz,c1]
    refine⟨_,rfl,_,rfl,nA,_,rfl,R3.get (p:=q) hD4.rd hya,_,rfl,?_⟩;rw[IB];refine cJ (fun c2=>?_) (fun c2=>?_)
    ·have c2:q∉ (num++N.map fun p=>(p,n)).map (·.1):=fun z=>by rw[(RM.aS q _).mpr z]at c2;cases c2
     have c3:q∉num.map (·.1)/\q∉N:=by rw[keysN]at c2;exact⟨fun z=>c2 (List.mem_append_left _ z),fun z=>c2 (List.mem_append_right _ z)⟩
     have nq:=RM.lU.mpr c3.1;have uq:¬RM.isN (RM.aJ num) q:=by unfold RM.isN;rw[nq];intro z;cases z
     have sr5:=sr.push okq uq;obtain⟨sd0,sd4⟩:=hside q z eq;refine⟨_,rfl,_,rfl,_,rfl,nA,_,rfl,D3.put hD4 hya _ (by rw[dN,List.length_append,List.length_map];exact few (m:=5000) (by omega)),?_⟩;rw[lE,RM.fT _ c2];have eN:num++N.map (fun p=>(p,n))++[(q,n)]=num++(N++[q]).map fun p=>(p,n):=by simp
     rw[eN];have hD4':H4 nA=some (.dT (kvF k3 (IV (num++N.map fun p=>(p,n))))):=hD4;have tK:∀{v:V}{p:PI3},T3 H4 v p->T3 (upd H4 nA (.dT (kvF k3 (IV (num++(N++[q]).map fun p=>(p,n)))))) v p:=fun t=>t.qW hD4' (by intro _ z;cases z)
     have b5:But nA H (upd H4 nA (.dT (kvF k3 (IV (num++(N++[q]).map fun p=>(p,n)))))):=b4.here;have h5:(upd H4 nA (.dT (kvF k3 (IV (num++(N++[q]).map fun p=>(p,n)))))) w=some (.lst xs.dropLast):=by rw[aA nwn];exact h4
     have pr5:=aI (fun _ _ t=>tK t) pr4;have ty5:=tK ⟨ya,rfl,hya⟩;have hD5:D3 (upd H4 nA (.dT (kvF k3 (IV (num++(N++[q]).map fun p=>(p,n)))))) nA (IV (num++(N++[q]).map fun p=>(p,n))):=a7;generalize (upd H4 nA (.dT (kvF k3 (IV (num++(N++[q]).map fun p=>(p,n))))))=H5 at b5 h5 pr5 ty5 hD5 ⊢;refine⟨_,rfl,.inl ⟨rfl,_,SqL.of h5⟩,_,rfl,.ref ya,q,rfl,ty5,fun r1 H6 s6 t6=>?_⟩;have h6:=s6 _ _ h5;refine⟨w,xs.dropLast,r1,rfl,rfl,h6,few (m:=20000) (by omega),?_⟩;have b7:But nA H (upd H6 w (.lst (xs.dropLast++[r1]))):=(b5.trans (a9.but s6)).put hw;have pr7:Paired (T3 (upd H6 w (.lst (xs.dropLast++[r1])))) (xs.dropLast++[r1]) (ws.dropLast++[(q.1,q.2.1,(q.2.2+1)%4)]):=bA (t6.upd h6) (aI (fun _ _ t=>(t.mono s6).upd h6) pr5);have ty7:T3 (upd H6 w (.lst (xs.dropLast++[r1]))) (.ref ya) q:=(ty5.mono s6).upd h6;have hD7:D3 (upd H6 w (.lst (xs.dropLast++[r1]))) nA (IV (num++(N++[q]).map fun p=>(p,n))):=by unfold D3;rw[aA nwn.symm];exact s6 _ _ hD5
     have h7:(upd H6 w (.lst (xs.dropLast++[r1]))) w=some (.lst (xs.dropLast++[r1])):=a7;generalize (upd H6 w (.lst (xs.dropLast++[r1])))=H7 at b7 pr7 ty7 hD7 h7 ⊢;refine⟨_,rfl,.inl ⟨rfl,_,SqL.of h7⟩,_,rfl,.ref ya,q,rfl,ty7,fun r2 H8 s8 t8=>?_⟩;have h8:=s8 _ _ h7;refine⟨w,_,r2,rfl,rfl,h8,few (m:=20000) (by rw[List.length_append];simp;omega),?_⟩;have b9:But nA H (upd H8 w (.lst (xs.dropLast++[r1]++[r2]))):=(b7.trans (a9.but s8)).put hw;have pr9:=bA (t8.upd (o:=.lst (xs.dropLast++[r1]++[r2])) h8) (aI (fun _ _ t=>(t.mono s8).upd h8) pr7);have ty9:T3 (upd H8 w (.lst (xs.dropLast++[r1]++[r2]))) (.ref ya) q:=(ty7.mono s8).upd h8;have hD9:D3 (upd H8 w (.lst (xs.dropLast++[r1]++[r2]))) nA (IV (num++(N++[q]).map fun p=>(p,n))):=by unfold D3;rw[aA nwn.symm];exact s8 _ _ hD7
     have h9:(upd H8 w (.lst (xs.dropLast++[r1]++[r2]))) w=some (.lst (xs.dropLast++[r1]++[r2])):=a7;generalize (upd H8 w (.lst (xs.dropLast++[r1]++[r2])))=H9 at b9 pr9 ty9 hD9 h9 ⊢;refine⟨_,rfl,.inl ⟨rfl,_,SqL.of h9⟩,_,rfl,.ref ya,q,rfl,ty9,sd0,sd4,fun r3 HA sA tA=>?_⟩;have hA:=sA _ _ h9;have hDA:D3 (upd HA w (.lst (xs.dropLast++[r1]++[r2]++[r3]))) nA (IV (num++(N++[q]).map fun p=>(p,n))):=by unfold D3;rw[aA nwn.symm];exact sA _ _ hD9
     refine⟨w,_,r3,rfl,rfl,hA,few (m:=20000) (by rw[List.length_append,List.length_append];simp;omega),⟨_,_,N++[q],_,rfl,(b9.trans (a9.but sA)).put hw,a7,bA (tA.upd hA) (aI (fun _ _ t=>(t.mono sA).upd hA) pr9),hDA,?_,?_,?_,?_⟩,?_⟩
     ·have e:ws.dropLast++RM.nbP q=ws.dropLast++[(q.1,q.2.1,(q.2.2+1)%4)]++[(q.1,q.2.1,(q.2.2+3)%4)]++[((RM.aO (q.1,q.2.1) q.2.2.toNat).1,(RM.aO (q.1,q.2.1) q.2.2.toNat).2,(q.2.2+2)%4)]:=by unfold RM.nbP;simp
      rw[e]at sr5;exact sr5
     ·rw[List.nodup_append];exact⟨Nnd,by simp,fun a ha b hb e=>c3.2 (by simp at hb;rw[<- hb,<- e];exact ha)⟩
     ·intro p hp;rcases List.mem_append.mp hp with hp|hp
      ·exact Nin p hp
      ·have:p=q:=by simpa using hp
       rw[this];exact⟨by rw[eq];rfl,nq⟩
     ·simp only[List.length_append,List.length_cons,List.length_nil];omega
     ·rw[ml,mt,lO a7,GN hDA,dN];simp only[List.length_append,List.length_map,List.length_cons,List.length_nil];omega
    ·have c2:q∈num.map (·.1)++N:=by
      rw[<- keysN];refine(RM.aS q _).mp ?_;cases e:(RM.aJ (num++N.map fun p=>(p,n)) q).isSome with
      |true=>rfl
      |false=>rw[e]at c2;exact absurd rfl c2
     refine⟨skip (.inr ?_),less⟩;rcases List.mem_append.mp c2 with z|z
     ·exact .inl ((RM.aS q num).mpr z)
     ·exact .inr z
   ·have z':RM.aJ fac q=RM.aJ fac t0:=z';rw[eq,hfz]at z';rw[Option.some.inj z'];rfl
 ·have e:xs=[]:=by
   cases xs with
   |nil=>rfl
   |cons _ _=>exact absurd rfl cq
  subst e;cases pr;exact k N H2 b2 hD Nnd fun p=>sr.done p
abbrev s_no:Stmt:=(top 63)
theorem sc_no:aK ["facings","numbers","count","triangle"] ["facings"] (aG s_no):=⟨rfl,rfl,rfl,by decide+kernel,rfl,by decide+kernel,by decide+kernel⟩
noncomputable def sp_no(K:W.Frag)(d:Adr):Sp:=fun vs H Q _=>∃(fA:Addr)(h:List Nat),vs=[.ref fA]/\D3 H fA (IV (RM.cW h))/\(∀r∈h,RM.okR r)/\h.length<=1024/\∀r Ns H',a9 H H'->H r=none->D3 H' r (IV (RM.aE 0 Ns))->RM.Numbering h (Roof.trianglesOf h).length Ns->Q (.ref r) H'
theorem ok_no(F:Fun K "numbers_of" "numbers_of" s_no f fd)(T:Txt K mg base d)(D_nf:aQ P w K mg base CX0 4 "number_face" ["first","number","facings","numbers"] (sp_nf K d)):bK P w K mg base CX0 5 f fd ["facings"] (sp_no K d):=by
 refine F.ok sc_no (fun vs H Q E h=>by obtain⟨fA,h,rfl,_⟩:=h;rfl) (fun cdv A outer s H vs Q E hr h=>?_);have hu:=bF hr;obtain⟨fA,h,rfl,hF,hok,hl,k⟩:=h;have tl:=RM.xM h;have hlt:(Roof.trianglesOf h).length<Roof.NONE:=by unfold Roof.NONE;omega
 have fl:(RM.cW h).length<=4096:=by have:=congrArg List.length (RM.lQ h);rw[List.length_map,List.length_map]at this;omega
 refine⟨_,(aB (aP (i:=1) sc_no.nd rfl (Or.inl rfl) dG)
   (aB (aP (i:=2) sc_no.nd rfl (Or.inl rfl) aN)
   (aB (j7 (c9 PassesOwn.never rfl (lI (pv 0)) (aL (i:=3) sc_no.nd rfl (Or.inl rfl)) (aD (cR (fD (d7 hu (pv 3) (pv 1))) (aB (dC (aU D_nf (hm hr) aX rfl (a8 (pv 3) (a8 (pv 2) (a8 (pv 0) (a8 (pv 1) aC))))))
   (aD (G2 (i:=2) sc_no.nd rfl (Or.inl rfl) aN GX))) bJ))))
   (aD (aR (pv 1)))))),?_⟩
 refine fun f hf=>?_
 have nc:fA≠f:=aH hF hf;have lockd:∀od,(upd H fA (.frz od (.dT (kvF k3 (IV (RM.cW h)))))) f=none:=fun od=>fG hF hf
 refine⟨fA,.dT (kvF k3 (IV (RM.cW h))),by rw[aA nc];exact hF,trivial,fun od=>⟨_,rfl,fA,od,rfl,.inr ⟨_,a7,nS (d:=fA) (od:=od) (kvs:=kvF k3 (IV (RM.cW h)))
  (fun i σ H2=>∃(Ns:List (List PI3))(v3:Option V),σ=[some (.ref fA),some (.ref f),some (.int (Ns.length:Nat)),v3]/\a9 (upd H fA (.frz od (.dT (kvF k3 (IV (RM.cW h)))))) H2/\D3 H2 f (IV (RM.aE 0 Ns))/\RM.Numbering h i Ns)
  ⟨[],none,rfl,a9.both (a9.upd hf),by unfold D3;rw[aA nc.symm,a7];rfl,RM.Numbering.start hok⟩ (fun i σ H2 ⟨_,_,_,s2,_⟩=>s2 _ _ a7) ?_ ?_⟩⟩⟩
 ·rintro i kk vv q σ H2 hi hq ⟨Ns,v3,rfl,s2,hD,R⟩;obtain⟨t,ht,rfl⟩:=GO hi;obtain⟨tn,htn,rfl⟩:∃tn,(Roof.trianglesOf h)[i]? =some tn/\t=RM.tP tn:=by
   have:=congrArg (Option.map Prod.fst) ht;rw[<- List.getElem?_map,xC,RM.lQ,List.getElem?_map]at this;cases e:(Roof.trianglesOf h)[i]? with
   |none=>rw[e]at this;cases this
   |some tn=>rw[e]at this;exact⟨tn,rfl,(Option.some.inj this).symm⟩
  have hm:=List.mem_of_getElem? htn;refine⟨_,rfl,_,rfl,f,_,rfl,R3.get (p:=RM.tP tn) hD.rd hq,_,rfl,?_⟩;rw[IB];refine cJ (fun c1=>?_) (fun c1=>?_)
  ·have c1:RM.aJ (RM.aE 0 Ns) (RM.tP tn)=none:=by
    cases e:RM.aJ (RM.aE 0 Ns) (RM.tP tn)with
    |none=>rfl
    |some z=>rw[e]at c1;cases c1
   obtain⟨lab,firsts,O,_,_⟩:=R.ex;have hin:=RM.CN hok tn hm;refine⟨_,rfl,_,rfl,_,rfl,_,rfl,.ref q,(Ns.length:Int),fA,f,RM.cW h,RM.aE 0 Ns,RM.tP tn,rfl,⟨q,rfl,hq⟩,.inr ⟨od,s2 _ _ a7⟩,hD,nc,fun t z e=>RM.EO e,by rw[hin];rfl,c1,fl,by rw[RM.bC];exact O.nd,fun t ht=>by rw[RM.bC]at ht;rw[RM.lQ];exact O.sub t ht,fun N H3 b3 hD3 nd3 hN=>?_⟩;have s3:a9 (upd H fA (.frz od (.dT (kvF k3 (IV (RM.cW h)))))) H3:=But.same b3 s2 (lockd od);refine⟨_,rfl,_,_,rfl,rfl,Ns++[N],some (.ref q),?_,s3,by rw[RM.iT];exact hD3,R.face hok (fun t ht=>RM.CN hok t ht) (fun p hp=>RM.zG h p hp) hlt htn c1 hN nd3⟩;have el:((Ns++[N]).length:Int)=(Ns.length:Int)+1:=by rw[List.length_append];simp
   rw[el];rfl
  ·have c1:(RM.aJ (RM.aE 0 Ns) (RM.tP tn)).isSome=true:=by
    cases e:(RM.aJ (RM.aE 0 Ns) (RM.tP tn)).isSome with
    |true=>rfl
    |false=>rw[e]at c1;exact absurd rfl c1
   exact⟨Ns,_,rfl,s2,hD,R.skip htn c1⟩
 ·rintro σ H2 ⟨Ns,v3,rfl,s2,hD,R⟩;have el:(kvF k3 (IV (RM.cW h))).length=(Roof.trianglesOf h).length:=by have:=congrArg List.length (RM.lQ h);rw[List.length_map,List.length_map]at this;rw[eM,dN,this]
  rw[el]at R;exact⟨s2 _ _ a7,_,rfl,k f Ns _ (a9.unlock hF s2) hf (by unfold D3;rw[aA nc.symm];exact hD) R⟩
abbrev s_fo:Stmt:=(top 64)
theorem sc_fo:aK ["numbers","faces","triangle","number"] ["numbers"] (aG s_fo):=⟨rfl,rfl,rfl,by decide+kernel,rfl,by decide+kernel,by decide+kernel⟩
noncomputable def sp_fo(K:W.Frag)(d:Adr):Sp:=fun vs H Q _=>∃(nA:Addr)(Ns:List (List PI3)),vs=[.ref nA]/\D3 H nA (IV (RM.aE 0 Ns))/\(∀N∈Ns,N≠[])/\(RM.aE 0 Ns).length<=4096/\∀r H',a9 H H'->H r=none->LLS H' r Ns->Q (.ref r) H'
theorem ok_fo(F:Fun K "faces_of" "faces_of" s_fo f fd)(T:Txt K mg base d):bK P w K mg base CX0 1 f fd ["numbers"] (sp_fo K d):=by
 refine F.ok sc_fo (fun vs H Q E h=>by obtain⟨nA,Ns,rfl,_⟩:=h;rfl) (fun cdv A outer s H vs Q E hr h=>?_);have hu:=bF hr;obtain⟨nA,Ns,rfl,hN,hne,hl,k⟩:=h;refine⟨_,(aB (aP (i:=1) sc_fo.nd rfl (Or.inl rfl) (fE aC))
   (aB (j7 (c9 PassesOwn.never rfl (oZ (pv 0)) (kA rfl (bE (aL (i:=2) sc_fo.nd rfl (Or.inl rfl)) (bE (aL (i:=3) sc_fo.nd rfl (Or.inl rfl)) fJ))) (aB (cR (c8 jO (pv 3) (bM cF (by rfl) T.len PySem.boot_len (a8 (pv 1) aC)) (cC _)) (aD (dC (iR PySem.F.plainAttrs_list PySem.F.slot_list_append PySem.F.type_list_append cM (pv 1) (a8 (fE aC) aC)))) bJ)
   (aD (dC (iR PySem.F.plainAttrs_list PySem.F.slot_list_append PySem.F.type_list_append cM (cN nM (pv 1) (pv 3) (fun _ _=>rfl)) (a8 (pv 2) aC)))))))
   (aD (aR (pv 1))))),?_⟩
 refine⟨Nat.zero_le _,fun f hf=>?_⟩;have nc:nA≠f:=aH hN hf;have lockd:∀od,(upd H nA (.frz od (.dT (kvF k3 (IV (RM.aE 0 Ns)))))) f=none:=fun od=>fG hN hf
 refine⟨nA,.dT (kvF k3 (IV (RM.aE 0 Ns))),by rw[aA nc];exact hN,trivial,fun od=>⟨_,rfl,nA,od,_,rfl,a7,pP (d:=nA) (od:=od) (kvs:=kvF k3 (IV (RM.aE 0 Ns)))
  (fun i σ H2=>∃(bs:List Addr)(Fs:List (List PI3))(v2 v3:Option V),σ=[some (.ref nA),some (.ref f),v2,v3]/\a9 (upd H nA (.frz od (.dT (kvF k3 (IV (RM.aE 0 Ns)))))) H2/\H2 f=some (.lst (bs.map V.ref))/\Paired (LS H2) bs Fs/\(f::bs).Nodup/\(∀b∈bs,(upd H nA (.frz od (.dT (kvF k3 (IV (RM.aE 0 Ns)))))) b=none)/\RM.pV Ns i Fs)
  ⟨[],[],none,none,rfl,a9.both (a9.upd hf),by rw[aA nc.symm,a7];rfl,.nil,by simp,fun b hb=>(by cases hb),RM.pV.start Ns⟩ (fun i σ H2 ⟨_,_,_,_,_,s2,_⟩=>s2 _ _ a7) ?_ ?_⟩⟩
 ·rintro i kk vv q T' σ H2 hi hq hT' ⟨bs,Fs,v2,v3,rfl,s2,hf2,pr,nd,fr,pre⟩;obtain⟨t,ht,rfl⟩:=GO hi;obtain⟨m,hm,rfl⟩:∃m,(RM.aE 0 Ns)[i]? =some (t,m)/\vv=.int m:=by
   unfold IV at ht;rw[List.getElem?_map]at ht;cases e:(RM.aE 0 Ns)[i]? with
   |none=>rw[e]at ht;cases ht
   |some x=>rw[e]at ht;cases ht;exact⟨x.2,rfl,rfl⟩
  have s3:a9 H2 (upd H2 T' (.tup [.ref q,.int m])):=a9.upd hT';refine⟨T',_,rfl,SqT.of a7,rfl,_,_,rfl,_,_,rfl,rfl,?_⟩;have s23:=a9.trans s2 s3;have hf3:=s3 _ _ hf2;have tq3:T3 (upd H2 T' (.tup [.ref q,.int m])) (.ref q) t:=⟨q,rfl,s3 _ _ hq⟩;have pr3:=aI (fun _ _ z=>LS.mono s3 z) pr;generalize (upd H2 T' (.tup [.ref q,.int m]))=H3 at s3 s23 hf3 tq3 pr3 ⊢;have hil:=qY hm;have lb:=pairs_len pr;have lFs:Fs.length<=4096:=by have h1:=RM.kL pre.ne;have h2:=congrArg List.length (RM.bC Fs 0);rw[List.length_map,pre.eq,List.length_take]at h2;omega
  have fin:∀(H5:Hp)(cs:List Addr)(b:Addr)(F:List (List PI3))(L:List PI3),a9 (upd H nA (.frz od (.dT (kvF k3 (IV (RM.aE 0 Ns)))))) H5->H5 f=some (.lst ((cs++[b]).map V.ref))->Paired (LS H5) cs F->LS H5 b L->(f::(cs++[b])).Nodup->(∀c∈cs++[b],(upd H nA (.frz od (.dT (kvF k3 (IV (RM.aE 0 Ns)))))) c=none)->T3 H5 (.ref q) t->m=(F.length:Int)->RM.pV Ns (i+1) (F++[L++[t]]) ->
    ∃ys,H5 b=some (.lst ys)/\ys.length<=4096/\((cs++[b]).map V.ref)[m.toNat]? =some (.ref b)/\∃(bs:List Addr)(Fs:List (List PI3))(v2 v3:Option V),([some (.ref nA),some (.ref f),some (.ref q),some (.int m)]:List (Option V))=[some (.ref nA),some (.ref f),v2,v3]/\a9 (upd H nA (.frz od (.dT (kvF k3 (IV (RM.aE 0 Ns)))))) (upd H5 b (.lst (ys++[.ref q])))/\(upd H5 b (.lst (ys++[.ref q]))) f=some (.lst (bs.map V.ref))/\Paired (LS (upd H5 b (.lst (ys++[.ref q])))) bs Fs/\(f::bs).Nodup/\(∀b∈bs,(upd H nA (.frz od (.dT (kvF k3 (IV (RM.aE 0 Ns)))))) b=none)/\RM.pV Ns (i+1) Fs:=by
   intro H5 cs b F L s5 hf5 pF pL nd5 fr5 tq5 em pre2;obtain⟨ys,hb5,py⟩:=pL;have hat:((cs++[b]).map V.ref)[m.toNat]? =some (.ref b):=by
    have e1:m.toNat=F.length:=by omega
    have e2:=pairs_len pF;rw[e1,<- e2,List.map_append,List.getElem?_append_right (by simp)];simp
   have ly:=pairs_len py;have lL:L.length<=4096:=by have h2:=congrArg List.length pre2.eq;have h3:=congrArg List.length (RM.bC (F++[L++[t]]) 0);rw[List.length_map]at h3;rw[List.length_take]at h2;rw[List.flatten_append,List.length_append]at h3;simp at h3;omega
   have ndp:=List.nodup_cons.mp nd5;have nbf:b≠f:=fun z=>ndp.1 (z▸List.mem_append_right _ List.mem_cons_self)
   have ncb:∀c∈cs,c≠b:=fun c hc=>(List.nodup_append.mp ndp.2).2.2 c hc b List.mem_cons_self
   refine⟨ys,hb5,by omega,hat,cs++[b],F++[L++[t]],_,_,rfl,a9.put s5 (fr5 b (List.mem_append_right _ List.mem_cons_self)),by rw[aA nbf.symm];exact hf5,?_,nd5,fr5,pre2⟩;exact bA ⟨ys++[.ref q],a7,bA (tq5.upd hb5) (aI (fun _ _ z=>z.upd hb5) py)⟩ (aI (fun c G ⟨hc,_,z⟩=>z.upd hb5 (ncb c hc)) (lK pF))
  refine⟨_,rfl,_,rfl,f,_,rfl,.inl (SqL.of hf3),rfl,_,rfl,?_⟩;rw[List.length_map,lb];rcases pre.step hne hm with⟨em,pre2⟩|⟨F,L,eF,em,pre2⟩
  ·refine cJ (fun c1=>?_) (fun c1=>absurd (decide_eq_true (by rw[em])) c1);refine⟨_,rfl,.inl ⟨rfl,_,SqL.of hf3⟩,Nat.zero_le _,fun l hl0=>?_⟩;have s4:a9 H3 (upd H3 l (.lst [])):=a9.upd hl0;have hf4:=s4 _ _ hf3;have nlf:l≠f:=fun z=>by rw[z,hf3]at hl0;cases hl0
   refine⟨f,_,.ref l,rfl,rfl,hf4,by rw[List.length_map,lb];exact few (m:=4096) lFs,?_⟩;have nlb:∀b∈bs,b≠l:=fun b hb z=>by obtain⟨j,hj⟩:=List.mem_iff_getElem?.mp hb;obtain⟨_,_,⟨ys,hy,_⟩⟩:=pairs_at pr3 hj;rw[z,hl0]at hy;cases hy
   have nbf:∀b∈bs,b≠f:=fun b hb z=>(List.nodup_cons.mp nd).1 (z▸hb)
   have eb:bs.map V.ref++[V.ref l]=(bs++[l]).map V.ref:=by simp
   rw[eb];have hf5:(upd (upd H3 l (.lst [])) f (.lst ((bs++[l]).map V.ref))) f=some (.lst ((bs++[l]).map V.ref)):=a7;obtain⟨ys,y1,y2,y3,y4⟩:=fin (upd (upd H3 l (.lst [])) f (.lst ((bs++[l]).map V.ref))) bs l Fs [] (a9.put (a9.trans s23 s4) (lockd od)) hf5 (aI (fun b F ⟨hb,_,z⟩=>(LS.mono s4 z).upd hf4 (nbf b hb)) (lK pr3)) ⟨[],by rw[aA nlf,a7],.nil⟩ (by
     rw[List.nodup_cons]at nd ⊢;refine⟨fun z=>?_,?_⟩
     ·rcases List.mem_append.mp z with z|z
      ·exact nd.1 z
      ·exact nlf (List.mem_singleton.mp z).symm
     ·rw[List.nodup_append];exact⟨nd.2,by simp,fun a ha b hb e=>nlb a ha (by simp at hb;rw[e,hb])⟩) (by
     intro c hc;rcases List.mem_append.mp hc with hc|hc
     ·exact fr c hc
     ·have:c=l:=by simpa using hc
      rw[this];exact s23.free hl0) ((tq3.mono s4).upd hf4) em pre2
   exact⟨_,rfl,_,rfl,f,_,_,_,rfl,rfl,SqL.of hf5,bQ (by omega) y3,.inl ⟨rfl,_,SqL.of y1⟩,_,rfl,l,ys,.ref q,rfl,rfl,y1,few y2,y4⟩
  ·refine cJ (fun c1=>?_) (fun c1=>?_)
   ·have c1:=V.int.inj (of_decide_eq_true c1);rw[eF,List.length_append]at c1;simp at c1;omega
   ·subst eF;obtain⟨cs,b,eb,p1,p2⟩:=qF pr3;subst eb;obtain⟨ys,y1,y2,y3,y4⟩:=fin _ cs b F L s23 hf3 p1 p2 nd fr tq3 em pre2;exact⟨_,rfl,_,rfl,f,_,_,_,rfl,rfl,SqL.of hf3,bQ (by omega) y3,.inl ⟨rfl,_,SqL.of y1⟩,_,rfl,b,ys,.ref q,rfl,rfl,y1,few y2,y4⟩
 ·rintro σ H2 ⟨bs,Fs,v2,v3,rfl,s2,hf2,pr,nd,fr,pre⟩;have el:(kvF k3 (IV (RM.aE 0 Ns))).length=(RM.aE 0 Ns).length:=by rw[eM,dN]
  rw[el]at pre;have e:=pre.done hne;subst e;have hN2:H2 nA=some (.frz od (.dT (kvF k3 (IV (RM.aE 0 Fs))))):=s2 _ _ a7;refine⟨hN2,_,rfl,k f _ (a9.unlock hN s2) hf ⟨bs,by rw[aA nc.symm];exact hf2,aI (fun b F ⟨xs,h1,h2⟩=>⟨xs,?_,aI (fun _ _ z=>z.qW hN2 (by intro _ z;cases z)) h2⟩) pr⟩⟩;rw[aA (fC h1 hN2 (by intro z;cases z))];exact h1
abbrev s_i:Stmt:=(inClass (top 56) 0)
theorem sc_i:aK ["self","cells"] ["self","cells"] (aG s_i):=⟨rfl,rfl,rfl,by decide+kernel,rfl,by decide+kernel,by decide+kernel⟩
structure mO(C:List (Nat×Nat))(R:Addr)(H:Hp)(x:Addr)(cA dA hA fA nA gA:Addr)(ht:List (PI×Int))(Ns:List (List PI3)):Prop where
 ins:∃dx fs,H x=some (.ins R dx fs)/\fs.lookup ("cells" : Str)=some (.ref cA)/\fs.lookup ("depths" : Str)=some (.ref dA)/\fs.lookup ("heights" : Str)=some (.ref hA)/\fs.lookup ("facings" : Str)=some (.ref fA)/\fs.lookup ("numbers" : Str)=some (.ref nA)/\fs.lookup ("faces" : Str)=some (.ref gA)
 cells:D2 H cA (CS C)
 M0:D2 H dA (IV (RM.bS (Roof.halvesOf C)))
 JL:D2 H hA (IV ht)
 hok:RM.F9 (Roof.halvesOf C) ht
 JQ:D3 H fA (IV (RM.cW (Roof.halvesOf C)))
 RF:D3 H nA (IV (RM.aE 0 Ns))
 nok:RM.Numbering (Roof.halvesOf C) (Roof.trianglesOf (Roof.halvesOf C)).length Ns
 faces:LLS H gA Ns
 apart:[cA,dA,hA,fA,nA,gA].Nodup
theorem LLS.RG{H:Hp}{a x:Addr}{Fs:List (List PI3)}{C dx:Addr}{fs:List (Str×V)}{o:HO}(h:LLS H a Fs)(hx:H x=some (.ins C dx fs)):LLS (upd H x o) a Fs:=by obtain⟨bs,h1,h2⟩:=h;refine⟨bs,by rw[aA (fC h1 hx (by intro z;cases z))];exact h1,aI (fun b F ⟨xs,e1,e2⟩=>⟨xs,by rw[aA (fC e1 hx (by intro z;cases z))];exact e1,aI (fun _ _ z=>z.qW hx (by intro _ z;cases z)) e2⟩) h2⟩
noncomputable def sp_i(K:W.Frag)(d:Adr):Sp:=fun vs H Q _=>∃(x dx cA:Addr)(C:List (Nat×Nat)),vs=[.ref x,.ref cA]/\H x=some (.ins d.Roof dx [])/\D2 H cA (CS C)/\C.Nodup/\(∀c∈C,c.1<64/\c.2<64)/\C.length<=256/\C≠[]/\∀dA hA fA nA gA ht Ns H',(∀b o,H b=some o->b≠x->H' b=some o)->mO C d.Roof H' x cA dA hA fA nA gA ht Ns->Q .non H'
theorem ok_i(F:Fun K "__init__" "Roof.__init__" s_i f fd)(T:Txt K mg base d)(D_do:aQ P w K mg base CX0 6 "depths_of" ["cells"] (sp_do K d))(D_ho2:aQ P w K mg base CX0 3 "heights_of" ["depths"] (sp_ho2 K d))(D_fo3:aQ P w K mg base CX0 5 "facings_of" ["depths","heights"] (sp_fo3 K d))(D_no:aQ P w K mg base CX0 5 "numbers_of" ["facings"] (sp_no K d))(D_fo:aQ P w K mg base CX0 1 "faces_of" ["numbers"] (sp_fo K d)):bK P w K mg base CX0 7 f fd ["self","cells"] (sp_i K d):=by
 refine F.ok sc_i (fun vs H Q E h=>by obtain⟨x,dx,cA,C,rfl,_⟩:=h;rfl) (fun cdv A outer s H vs Q E hr h=>?_);have hu:=bF hr;obtain⟨x,dx,cA,C,rfl,hx,hC,nd,bd,h256,hne,k⟩:=h;have hok:=RM.dU bd;have hhl:=RM.iG C;have hl:(Roof.halvesOf C).length<=1024:=by omega
 have hnd:((Roof.halvesOf C).map RM.hP).Nodup:=RM.d8 ((RM.fM nd bd).imp fun{a b} h e=>by omega) fun a ha b hb e=>RM.pM (hok a ha) (hok b hb) e
 refine⟨_,(aB (oX (pv 0) (pv 1) rfl)
   (aB (oX (pv 0) (aU D_do (hm hr) aX rfl (a8 (pv 1) aC)) rfl)
   (aB (oX (pv 0) (aU D_ho2 (hm hr) aX rfl (a8 (kB (pv 0) rfl) aC)) rfl)
   (aB (oX (pv 0) (aU D_fo3 (hm hr) aX rfl (a8 (kB (pv 0) rfl) (a8 (kB (pv 0) rfl) aC))) rfl)
   (aB (oX (pv 0) (aU D_no (hm hr) aX rfl (a8 (kB (pv 0) rfl) aC)) rfl)
   (aD (oX (pv 0) (aU D_fo (hm hr) aX rfl (a8 (kB (pv 0) rfl) aC)) rfl))))))),?_⟩
 refine⟨_,rfl,_,rfl,x,d.Roof,dx,[],rfl,hx,T.d3,T.J4,by decide,?_⟩;have ncx:cA≠x:=fC hC hx (by intro z;cases z);have c1:But x H (upd H x (.ins d.Roof dx (bT "cells" (.ref cA) []))):=(But.refl x H).here;have x1:(upd H x (.ins d.Roof dx (bT "cells" (.ref cA) []))) x=some (.ins d.Roof dx (bT "cells" (.ref cA) [])):=a7;have l1:=dH "cells" (.ref cA) [];generalize e1:bT "cells" (V.ref cA) []=fs1 at c1 x1 l1 ⊢;have q1:fs1.lookup ("cells" : Str)=some (.ref cA):=by rw[<- e1,bO,if_pos rfl]
 generalize (upd H x (.ins d.Roof dx fs1))=H1 at c1 x1 ⊢;have hC1:D2 H1 cA (CS C):=c1 _ _ ncx hC;refine⟨_,rfl,cA,C,rfl,hC1,nd,bd,h256,hne,fun dA H2 s2 fd2 hD2=>?_⟩;refine⟨_,rfl,x,d.Roof,dx,fs1,rfl,s2 _ _ x1,T.d3,T.kD,by simp at l1;omega,?_⟩;have c2:But x H (upd H2 x (.ins d.Roof dx (bT "depths" (.ref dA) fs1))):=(c1.trans (a9.but s2)).here;have x2:(upd H2 x (.ins d.Roof dx (bT "depths" (.ref dA) fs1))) x=some (.ins d.Roof dx (bT "depths" (.ref dA) fs1)):=a7;have ndx:dA≠x:=fC hD2 (s2 _ _ x1) (by intro z;cases z);have hD3:D2 (upd H2 x (.ins d.Roof dx (bT "depths" (.ref dA) fs1))) dA (IV (RM.bS (Roof.halvesOf C))):=by unfold D2;rw[aA ndx];exact hD2
 have l2:=dH "depths" (.ref dA) fs1;have a2:∀g,g≠("depths" : Str)->(bT "depths" (.ref dA) fs1).lookup g=fs1.lookup g:=fun g hg=>by rw[bO,if_neg hg]
 have q2:(bT "depths" (.ref dA) fs1).lookup ("depths" : Str)=some (.ref dA):=by rw[bO,if_pos rfl]
 have ncd:cA≠dA:=fun z=>by have:=hC1;unfold D2 at this;rw[z,fd2]at this;cases this
 generalize bT "depths" (V.ref dA) fs1=fs2 at*;generalize (upd H2 x (.ins d.Roof dx fs2))=H3 at c2 x2 hD3 ⊢;refine⟨_,rfl,x,d.Roof,dx,fs2,_,rfl,x2,T.d3,T.kD,q2,?_⟩;refine⟨dA,Roof.halvesOf C,rfl,hD3,hok,hl,fun hA ht H4 s4 fh4 hH4 htok=>?_⟩;refine⟨_,rfl,x,d.Roof,dx,fs2,rfl,s4 _ _ x2,T.d3,T.vB,by simp at l1;omega,?_⟩;have c3:But x H (upd H4 x (.ins d.Roof dx (bT "heights" (.ref hA) fs2))):=(c2.trans (a9.but s4)).here;have x3:(upd H4 x (.ins d.Roof dx (bT "heights" (.ref hA) fs2))) x=some (.ins d.Roof dx (bT "heights" (.ref hA) fs2)):=a7;have nhx:hA≠x:=fC hH4 (s4 _ _ x2) (by intro z;cases z);have hH5:D2 (upd H4 x (.ins d.Roof dx (bT "heights" (.ref hA) fs2))) hA (IV ht):=by unfold D2;rw[aA nhx];exact hH4
 have hD5:D2 (upd H4 x (.ins d.Roof dx (bT "heights" (.ref hA) fs2))) dA (IV (RM.bS (Roof.halvesOf C))):=by unfold D2;rw[aA ndx];exact s4 _ _ hD3
 have l3:=dH "heights" (.ref hA) fs2;have a3:∀g,g≠("heights" : Str)->(bT "heights" (.ref hA) fs2).lookup g=fs2.lookup g:=fun g hg=>by rw[bO,if_neg hg]
 have q3:(bT "heights" (.ref hA) fs2).lookup ("heights" : Str)=some (.ref hA):=by rw[bO,if_pos rfl]
 have nch:cA≠hA:=fun z=>by have:=c2 _ _ ncx hC;rw[z,fh4]at this;cases this
 have ndh:dA≠hA:=fun z=>by have:=hD3;unfold D2 at this;rw[z,fh4]at this;cases this
 generalize bT "heights" (V.ref hA) fs2=fs3 at*;generalize (upd H4 x (.ins d.Roof dx fs3))=H5 at c3 x3 hH5 hD5 ⊢;have q32:fs3.lookup ("depths" : Str)=some (.ref dA):=by rw[a3 _ (by decide)];exact q2
 refine⟨_,rfl,x,d.Roof,dx,fs3,_,rfl,x3,T.d3,T.kD,q32,_,rfl,x,d.Roof,dx,fs3,_,rfl,x3,T.d3,T.vB,q3,?_⟩;refine⟨dA,hA,Roof.halvesOf C,ht,rfl,hD5,hH5,ndh,htok,hnd,hl,fun fA H6 s6 ff6 hF6=>?_⟩;refine⟨_,rfl,x,d.Roof,dx,fs3,rfl,s6 _ _ x3,T.d3,T.pB,by simp at l1;omega,?_⟩;have c4:But x H (upd H6 x (.ins d.Roof dx (bT "facings" (.ref fA) fs3))):=(c3.trans (a9.but s6)).here;have x4:(upd H6 x (.ins d.Roof dx (bT "facings" (.ref fA) fs3))) x=some (.ins d.Roof dx (bT "facings" (.ref fA) fs3)):=a7;have nfx:fA≠x:=fC hF6 (s6 _ _ x3) (by intro z;cases z);have hF7:D3 (upd H6 x (.ins d.Roof dx (bT "facings" (.ref fA) fs3))) fA (IV (RM.cW (Roof.halvesOf C))):=by unfold D3;rw[aA nfx];exact hF6
 have hH7:D2 (upd H6 x (.ins d.Roof dx (bT "facings" (.ref fA) fs3))) hA (IV ht):=by unfold D2;rw[aA nhx];exact s6 _ _ hH5
 have hD7:D2 (upd H6 x (.ins d.Roof dx (bT "facings" (.ref fA) fs3))) dA (IV (RM.bS (Roof.halvesOf C))):=by unfold D2;rw[aA ndx];exact s6 _ _ hD5
 have l4:=dH "facings" (.ref fA) fs3;have a4:∀g,g≠("facings" : Str)->(bT "facings" (.ref fA) fs3).lookup g=fs3.lookup g:=fun g hg=>by rw[bO,if_neg hg]
 have q4:(bT "facings" (.ref fA) fs3).lookup ("facings" : Str)=some (.ref fA):=by rw[bO,if_pos rfl]
 have ncf:cA≠fA:=fun z=>by have:=c3 _ _ ncx hC;rw[z,ff6]at this;cases this
 have ndf:dA≠fA:=fun z=>by have:=hD5;unfold D2 at this;rw[z,ff6]at this;cases this
 have nhf:hA≠fA:=fun z=>by have:=hH5;unfold D2 at this;rw[z,ff6]at this;cases this
 generalize bT "facings" (V.ref fA) fs3=fs4 at*;generalize (upd H6 x (.ins d.Roof dx fs4))=H7 at c4 x4 hF7 hH7 hD7 ⊢;refine⟨_,rfl,x,d.Roof,dx,fs4,_,rfl,x4,T.d3,T.pB,q4,?_⟩;refine⟨fA,Roof.halvesOf C,rfl,hF7,hok,hl,fun nA Ns H8 s8 fn8 hN8 nok=>?_⟩;refine⟨_,rfl,x,d.Roof,dx,fs4,rfl,s8 _ _ x4,T.d3,T.vA,by simp at l1;omega,?_⟩;have c5:But x H (upd H8 x (.ins d.Roof dx (bT "numbers" (.ref nA) fs4))):=(c4.trans (a9.but s8)).here;have x5:(upd H8 x (.ins d.Roof dx (bT "numbers" (.ref nA) fs4))) x=some (.ins d.Roof dx (bT "numbers" (.ref nA) fs4)):=a7;have nnx:nA≠x:=fC hN8 (s8 _ _ x4) (by intro z;cases z);have hN9:D3 (upd H8 x (.ins d.Roof dx (bT "numbers" (.ref nA) fs4))) nA (IV (RM.aE 0 Ns)):=by unfold D3;rw[aA nnx];exact hN8
 have hF9:D3 (upd H8 x (.ins d.Roof dx (bT "numbers" (.ref nA) fs4))) fA (IV (RM.cW (Roof.halvesOf C))):=by unfold D3;rw[aA nfx];exact s8 _ _ hF7
 have hH9:D2 (upd H8 x (.ins d.Roof dx (bT "numbers" (.ref nA) fs4))) hA (IV ht):=by unfold D2;rw[aA nhx];exact s8 _ _ hH7
 have hD9:D2 (upd H8 x (.ins d.Roof dx (bT "numbers" (.ref nA) fs4))) dA (IV (RM.bS (Roof.halvesOf C))):=by unfold D2;rw[aA ndx];exact s8 _ _ hD7
 have l5:=dH "numbers" (.ref nA) fs4;have a5:∀g,g≠("numbers" : Str)->(bT "numbers" (.ref nA) fs4).lookup g=fs4.lookup g:=fun g hg=>by rw[bO,if_neg hg]
 have q5:(bT "numbers" (.ref nA) fs4).lookup ("numbers" : Str)=some (.ref nA):=by rw[bO,if_pos rfl]
 have ncn:cA≠nA:=fun z=>by have:=c4 _ _ ncx hC;rw[z,fn8]at this;cases this
 have ndn:dA≠nA:=fun z=>by have:=hD7;unfold D2 at this;rw[z,fn8]at this;cases this
 have nhn:hA≠nA:=fun z=>by have:=hH7;unfold D2 at this;rw[z,fn8]at this;cases this
 have nfn:fA≠nA:=fun z=>by have:=hF7;unfold D3 at this;rw[z,fn8]at this;cases this
 generalize bT "numbers" (V.ref nA) fs4=fs5 at*;generalize (upd H8 x (.ins d.Roof dx fs5))=H9 at c5 x5 hN9 hF9 hH9 hD9 ⊢;obtain⟨lab,firsts,O,_,_⟩:=nok.ex;have tl:=RM.xM (Roof.halvesOf C);have nl:(RM.aE 0 Ns).length<=4096:=by have h1:=congrArg List.length (RM.bC Ns 0);have h2:=RM.bU O.nd O.sub;rw[List.length_map]at h1 h2;omega
 refine⟨_,rfl,x,d.Roof,dx,fs5,_,rfl,x5,T.d3,T.vA,q5,?_⟩;refine⟨nA,Ns,rfl,hN9,O.ne,nl,fun gA HA sA fgA hG=>?_⟩;refine⟨_,rfl,x,d.Roof,dx,fs5,rfl,sA _ _ x5,T.d3,T.CA,by simp at l1;omega,?_⟩;have a6:∀g,g≠("faces" : Str)->(bT "faces" (.ref gA) fs5).lookup g=fs5.lookup g:=fun g hg=>by rw[bO,if_neg hg]
 have q6:(bT "faces" (.ref gA) fs5).lookup ("faces" : Str)=some (.ref gA):=by rw[bO,if_pos rfl]
 have xA:=sA _ _ x5;have ncg:cA≠gA:=fun z=>by have:=c5 _ _ ncx hC;rw[z,fgA]at this;cases this
 have ndg:dA≠gA:=fun z=>by have:=hD9;unfold D2 at this;rw[z,fgA]at this;cases this
 have nhg:hA≠gA:=fun z=>by have:=hH9;unfold D2 at this;rw[z,fgA]at this;cases this
 have nfg:fA≠gA:=fun z=>by have:=hF9;unfold D3 at this;rw[z,fgA]at this;cases this
 have nng:nA≠gA:=fun z=>by have:=hN9;unfold D3 at this;rw[z,fgA]at this;cases this
 refine k dA hA fA nA gA ht Ns _ (fun b o e nb=>by rw[aA nb];exact sA _ _ (c5 b o nb e)) ⟨⟨dx,_,a7,?_,?_,?_,?_,?_,q6⟩,?_,?_,?_,htok,?_,?_,nok,LLS.RG hG xA,?_⟩
 ·rw[a6 _ (by decide),a5 _ (by decide),a4 _ (by decide),a3 _ (by decide),a2 _ (by decide)];exact q1
 ·rw[a6 _ (by decide),a5 _ (by decide),a4 _ (by decide)];exact q32
 ·rw[a6 _ (by decide),a5 _ (by decide),a4 _ (by decide)];exact q3
 ·rw[a6 _ (by decide),a5 _ (by decide)];exact q4
 ·rw[a6 _ (by decide)];exact q5
 ·unfold D2;rw[aA ncx];exact sA _ _ (c5 _ _ ncx hC)
 ·unfold D2;rw[aA ndx];exact sA _ _ hD9
 ·unfold D2;rw[aA nhx];exact sA _ _ hH9
 ·unfold D3;rw[aA nfx];exact sA _ _ hF9
 ·unfold D3;rw[aA nnx];exact sA _ _ hN9
 ·simp only[List.nodup_cons,List.mem_cons,List.not_mem_nil,or_false,not_or,not_false_eq_true,List.nodup_nil,and_true];exact⟨⟨ncd,nch,ncf,ncn,ncg⟩,⟨ndh,ndf,ndn,ndg⟩,⟨nhf,nhn,nhg⟩,⟨nfn,nfg⟩,nng⟩
abbrev s_rt:Stmt:=(top 78)
theorem sc_rt:aK ["t"] ["t"] (aG s_rt):=⟨rfl,rfl,rfl,by decide+kernel,rfl,by decide+kernel,by decide+kernel⟩
structure zS(h:List Nat)(R:Addr)(H:Hp)(x:Addr):Prop where
 ex:∃dx fs dA hA fA ht,H x=some (.ins R dx fs)/\fs.lookup ("depths" : Str)=some (.ref dA)/\fs.lookup ("heights" : Str)=some (.ref hA)/\fs.lookup ("facings" : Str)=some (.ref fA)/\R2 H dA (IV (RM.bS h))/\R2 H hA (IV ht)/\RM.F9 h ht/\R3 H fA (IV (RM.cW h))
theorem zS.mono{h:List Nat}{R:Addr}{H H':Hp}{x:Addr}(r:zS h R H x)(e:a9 H H'):zS h R H' x:=
 let⟨dx,fs,dA,hA,fA,ht,h1,q1,q2,q3,h2,h3,h4,h5⟩:=r.ex
 ⟨dx,fs,dA,hA,fA,ht,e _ _ h1,q1,q2,q3,h2.mono e,h3.mono e,h4,h5.mono e⟩
theorem mO.l{C:List (Nat×Nat)}{R:Addr}{H:Hp}{x cA dA hA fA nA gA:Addr}{ht:List (PI×Int)}{Ns:List (List PI3)}(r:mO C R H x cA dA hA fA nA gA ht Ns):zS (Roof.halvesOf C) R H x:=
 let⟨dx,fs,h1,_,q2,q3,q4,_⟩:=r.ins
 ⟨dx,fs,dA,hA,fA,ht,h1,q2,q3,q4,r.M0.rd,r.JL.rd,r.hok,r.JQ.rd⟩
noncomputable def sp_rt(K:W.Frag)(d:Adr):Sp:=fun vs H Q E=>∃(a:Addr)(ns:List Int),vs=[.ref a]/\SqL K H a (ns.map V.int)/\ns.length<=4096/\RM.inB ns/\(∀F,Roof.houseOf (RoofBNeutral.text ns)=some (RM.aT F)->Roof.isHouse (RM.aT F)=true->∀x cA dA hA fA nA gA ht Ns H',a9 H H'->mO (RM.aT F) d.Roof H' x cA dA hA fA nA gA ht Ns->Q (.ref x) H')/\(Roof.houseOf (RoofBNeutral.text ns)=none->E (.ref d.bZ) none H)
theorem ok_rt(F:Fun K "roof_told" "roof_told" s_rt f fd)(T:Txt K mg base d)(D_ht:aQ P w K mg base CXf 6 "house_told" ["t"] (sp_ht K d)){fI:Addr}{fdI:FuncData}(mkRoof:Mk K d.Roof fI)(D_i:bK P w K mg base CX0 7 fI fdI ["self","cells"] (sp_i K d))(bInit:Binds K fdI ["self","cells"] []):bK P w K mg base CXf 9 f fd ["t"] (sp_rt K d):=by
 refine okX F sc_rt (fun vs H Q E h=>by obtain⟨a,ns,rfl,_⟩:=h;rfl) (fun cdv A outer s H vs Q E hr hok h=>?_);have hu:=bF hr;obtain⟨a,ns,rfl,hS,hl,hB,k1,k2⟩:=h;refine⟨_,(aD (aR (IX mkRoof D_i (hm hr) rfl T.LV bInit .nil aX (a8 (aU D_ht (hm hr) (y8 hok) rfl (a8 (pv 0) aC)) aC)))),?_⟩;refine⟨_,rfl,a,ns,rfl,hS,hl,hB,fun F hF hH cA H1 s1 fc hC=>?_,k2⟩;obtain⟨h256,hpin,hne⟩:=iE hH;refine fun x dx nx ndx nex=>?_
 have hxx:(upd (upd H1 dx (.own x)) x (.ins d.Roof dx [])) x=some (.ins d.Roof dx []):=a7;refine⟨x,dx,cA,RM.aT F,rfl,hxx,by unfold D2;rw[aA (aH hC nx),aA (aH hC ndx)];exact hC,kW F,fun c hc=>⟨(RM.gT.mp hc).1,(RM.gT.mp hc).2.1⟩,h256,hne,fun dA hA fA nA gA ht Ns H2 kp ra=>⟨rfl,k1 F hF hH x cA dA hA fA nA gA ht Ns H2 (a9.trans s1 (a9.made nx ndx kp)) ra⟩⟩
abbrev s_re:Stmt:=(top 68)
theorem sc_re:aK ["facing"] ["facing"] (aG s_re):=⟨rfl,rfl,rfl,by decide+kernel,rfl,by decide+kernel,by decide+kernel⟩
noncomputable def sp_re(K:W.Frag)(d:Adr):Sp:=fun vs H Q _=>∃x:Int,vs=[.int x]/\Q (.bl (decide (x%2=0))) H
theorem ok_re(F:Fun K "runs_eastward" "runs_eastward" s_re f fd)(T:Txt K mg base d):bK P w K mg base CX0 1 f fd ["facing"] (sp_re K d):=by
 refine F.ok sc_re (fun vs H Q E h=>by obtain⟨x,rfl,_⟩:=h;rfl) (fun cdv A outer s H vs Q E hr h=>?_);have hu:=bF hr;obtain⟨x,rfl,k⟩:=h;refine⟨_,(aD (aR (n8 jO (cI pA (pv 0) aN) aN (cC _)))),?_⟩;refine⟨_,rfl,_,_,rfl,rfl,(by show(0:Int)<2;decide),rfl,?_⟩;have e3:(x%2==0)=decide (x%2=0):=by rw[Bool.eq_iff_iff,beq_iff_eq,decide_eq_true_iff]
 rw[rD,e3];exact k
abbrev s_po:Stmt:=(top 69)
theorem sc_po:aK ["face","roof","places","triangle","along","place","i","j","side"] ["face","roof"] (aG s_po):=⟨rfl,rfl,rfl,by decide+kernel,rfl,by decide+kernel,by decide+kernel⟩
noncomputable def sp_po(K:W.Frag)(d:Adr):Sp:=fun vs H Q _=>∃(b x:Addr)(N:List PI3)(h:List Nat),vs=[.ref b,.ref x]/\LS H b N/\zS h d.Roof H x/\(∀t∈N,0<=t.2.2/\t.2.2<4/\(t.1,t.2.1)∈h.map RM.hP)/\N.length<=4096/\∀r tab H',a9 H H'->H r=none->D2 H' r (IV tab)->RM.c6 tab (N.map (RM.b8 h))->Q (.ref r) H'
theorem ok_po(F:Fun K "places_on" "places_on" s_po f fd)(T:Txt K mg base d)(D_re:aQ P w K mg base CX0 1 "runs_eastward" ["facing"] (sp_re K d)):bK P w K mg base CX0 2 f fd ["face","roof"] (sp_po K d):=by
 refine F.ok sc_po (fun vs H Q E h=>by obtain⟨b,x,N,h,rfl,_⟩:=h;rfl) (fun cdv A outer s H vs Q E hr h=>?_);have hu:=bF hr;obtain⟨b,x,N,h,rfl,⟨xs,hb,pr⟩,hx,hs,hl,k⟩:=h;obtain⟨dx,fs,dA,hA,fA,ht,x1,x2,x3,x4,x5,x6,x7,x8⟩:=hx.ex;have lx:=pairs_len pr;refine⟨_,(aB (aP (i:=2) sc_po.nd rfl (Or.inl rfl) dG)
   (aB (c9 PassesOwn.never rfl (cS (pv 0)) (aL (i:=3) sc_po.nd rfl (Or.inl rfl)) (aB (wH (pv 3) (kA rfl (bE (aL (i:=6) sc_po.nd rfl (Or.inl rfl)) (bE (aL (i:=7) sc_po.nd rfl (Or.inl rfl)) (bE (aL (i:=8) sc_po.nd rfl (Or.inl rfl)) fJ)))))
   (aB (aP (i:=4) sc_po.nd rfl (Or.inl rfl) (G7 (hZ (aU D_re (hm hr) aX rfl (a8 (lJ hu (kB (pv 1) rfl) (pv 3) (fun _ _=>rfl)) aC)) (fun _=>rfl)) (pv 6) (pv 7)))
   (aB (aP (i:=5) sc_po.nd rfl (Or.inl rfl) (dZ (a8 (lJ hu (kB (pv 1) rfl) (dZ (a8 (pv 6) (a8 (pv 7) aC))) (fun _ _=>rfl)) (a8 (pv 4) aC))))
   (aD (eV hu (pv 2) (pv 5) (cI gN (sI hu (pv 2) (pv 5) aN ⟨rfl,rfl,rfl,rfl⟩) aN) rfl))))))
   (aD (aR (pv 2))))),?_⟩
 refine fun f hf=>?_
 have s1:a9 H (upd H f (.dT (kvF k2 (IV [])))):=a9.upd hf;refine⟨_,rfl,b,rfl,⟨_,SqL.of (s1 _ _ hb)⟩,iY (K:=K) (a:=b) (xs:=xs)
  (fun i σ H2=>∃(tab:List (PI×Int))(v3 v4 v5 v6 v7 v8:Option V),σ=[some (.ref b),some (.ref x),some (.ref f),v3,v4,v5,v6,v7,v8]/\a9 H H2/\D2 H2 f (IV tab)/\RM.c6 tab ((N.take i).map (RM.b8 h)))
  ⟨[],none,none,none,none,none,none,rfl,s1,a7,RM.c6.start⟩ (fun i σ H2 _ ⟨_,_,_,_,_,_,_,_,s2,_⟩=>s2.seq (SqL.of hb)) ?_ ?_⟩
 ·rintro i v σ H2 hv ⟨tab,v3,v4,v5,v6,v7,v8,rfl,s2,hD,C⟩;obtain⟨t,ht',⟨q,rfl,hq⟩⟩:=pairs_at pr hv;have hil:=qY ht';obtain⟨t0,t4,mem⟩:=hs t (List.mem_of_getElem? ht');have hq:=s2 _ _ hq;have gF:=(x8.mono s2).get (p:=t) hq;rw[f9,RM.EN t0 t4 mem]at gF;have lC:=C.len;rw[List.length_map,List.length_take]at lC;refine⟨_,rfl,q,_,rfl,SqT.of hq,rfl,_,_,rfl,_,_,rfl,_,_,rfl,rfl,?_⟩;refine⟨_,rfl,x,d.Roof,dx,fs,_,rfl,s2 _ _ x1,T.d3,T.pB,x4,_,rfl,fA,_,rfl,gF,_,rfl,_,rfl,?_⟩;refine cJ (fun c=>?_) (fun c=>?_)
  ·skip
   refine⟨_,rfl,_,rfl,x,d.Roof,dx,fs,_,rfl,s2 _ _ x1,T.d3,T.kD,x2,_,rfl,_,rfl,(by show 2<=sizeLine;decide),fun t1 h1=>?_⟩;have s3:a9 H (upd H2 t1 (.tup [.int t.1,.int t.2.1])):=a9.trans s2 (a9.upd h1);have ht1:(upd H2 t1 (.tup [.int t.1,.int t.2.1])) t1=some (.tup [.int t.1,.int t.2.1]):=a7;have hD3:D2 (upd H2 t1 (.tup [.int t.1,.int t.2.1])) f (IV tab):=a9.upd (o:=.tup [.int t.1,.int t.2.1]) h1 _ _ hD;generalize (upd H2 t1 (.tup [.int t.1,.int t.2.1]))=H3 at s3 ht1 hD3 ⊢;have gD:=(x5.mono s3).get (p:=(t.1,t.2.1)) ht1;rw[f9,RM.vJ mem]at gD;refine⟨dA,_,rfl,gD,_,rfl,(by show 2<=sizeLine;decide),fun t2 h2=>?_⟩;have ep:RM.b8 h t=(RM.d5 h (t.1,t.2.1),t.1):=by unfold RM.b8;rw[if_pos (of_decide_eq_true c)]
   have s4:a9 H (upd H3 t2 (.tup [.int (RM.d5 h (t.1,t.2.1)),.int t.1])):=a9.trans s3 (a9.upd h2);have htt:(upd H3 t2 (.tup [.int (RM.d5 h (t.1,t.2.1)),.int t.1])) t2=some (.tup [.int (RM.b8 h t).1,.int (RM.b8 h t).2]):=by rw[ep];exact a7
   have hD4:D2 (upd H3 t2 (.tup [.int (RM.d5 h (t.1,t.2.1)),.int t.1])) f (IV tab):=a9.upd (o:=.tup [.int (RM.d5 h (t.1,t.2.1)),.int t.1]) h2 _ _ hD3;generalize (upd H3 t2 (.tup [.int (RM.d5 h (t.1,t.2.1)),.int t.1]))=H4 at s4 htt hD4 ⊢;have eg:(RM.aJ (IV tab) (RM.b8 h t)).getD (V.int 0)=V.int ((RM.aJ tab (RM.b8 h t)).getD 0):=by rw[f9];cases RM.aJ tab (RM.b8 h t)<;>rfl
   refine⟨_,rfl,f,rfl,.inr ⟨_,hD4.rd⟩,_,rfl,_,R2.get (p:=RM.b8 h t) hD4.rd htt,_,_,eg,rfl,?_⟩;refine⟨_,rfl,_,rfl,f,_,rfl,D2.put hD4 htt _ (by rw[dN];exact few (m:=5000) (by omega)),RM.cV tab (RM.b8 h t) ((RM.aJ tab (RM.b8 h t)).getD 0+1),_,_,_,_,_,_,rfl,a9.put s4 hf,?_,?_⟩
   ·unfold D2;rw[a7,<- lE]
   ·rw[RM.take_snoc ht',List.map_append];exact C.step (RM.b8 h t)
  ·skip
   refine⟨_,rfl,_,rfl,x,d.Roof,dx,fs,_,rfl,s2 _ _ x1,T.d3,T.kD,x2,_,rfl,_,rfl,(by show 2<=sizeLine;decide),fun t1 h1=>?_⟩;have s3:a9 H (upd H2 t1 (.tup [.int t.1,.int t.2.1])):=a9.trans s2 (a9.upd h1);have ht1:(upd H2 t1 (.tup [.int t.1,.int t.2.1])) t1=some (.tup [.int t.1,.int t.2.1]):=a7;have hD3:D2 (upd H2 t1 (.tup [.int t.1,.int t.2.1])) f (IV tab):=a9.upd (o:=.tup [.int t.1,.int t.2.1]) h1 _ _ hD;generalize (upd H2 t1 (.tup [.int t.1,.int t.2.1]))=H3 at s3 ht1 hD3 ⊢;have gD:=(x5.mono s3).get (p:=(t.1,t.2.1)) ht1;rw[f9,RM.vJ mem]at gD;refine⟨dA,_,rfl,gD,_,rfl,(by show 2<=sizeLine;decide),fun t2 h2=>?_⟩;have ep:RM.b8 h t=(RM.d5 h (t.1,t.2.1),t.2.1):=by unfold RM.b8;rw[if_neg (fun z=>c (decide_eq_true z))]
   have s4:a9 H (upd H3 t2 (.tup [.int (RM.d5 h (t.1,t.2.1)),.int t.2.1])):=a9.trans s3 (a9.upd h2);have htt:(upd H3 t2 (.tup [.int (RM.d5 h (t.1,t.2.1)),.int t.2.1])) t2=some (.tup [.int (RM.b8 h t).1,.int (RM.b8 h t).2]):=by rw[ep];exact a7
   have hD4:D2 (upd H3 t2 (.tup [.int (RM.d5 h (t.1,t.2.1)),.int t.2.1])) f (IV tab):=a9.upd (o:=.tup [.int (RM.d5 h (t.1,t.2.1)),.int t.2.1]) h2 _ _ hD3;generalize (upd H3 t2 (.tup [.int (RM.d5 h (t.1,t.2.1)),.int t.2.1]))=H4 at s4 htt hD4 ⊢;have eg:(RM.aJ (IV tab) (RM.b8 h t)).getD (V.int 0)=V.int ((RM.aJ tab (RM.b8 h t)).getD 0):=by rw[f9];cases RM.aJ tab (RM.b8 h t)<;>rfl
   refine⟨_,rfl,f,rfl,.inr ⟨_,hD4.rd⟩,_,rfl,_,R2.get (p:=RM.b8 h t) hD4.rd htt,_,_,eg,rfl,?_⟩;refine⟨_,rfl,_,rfl,f,_,rfl,D2.put hD4 htt _ (by rw[dN];exact few (m:=5000) (by omega)),RM.cV tab (RM.b8 h t) ((RM.aJ tab (RM.b8 h t)).getD 0+1),_,_,_,_,_,_,rfl,a9.put s4 hf,?_,?_⟩
   ·unfold D2;rw[a7,<- lE]
   ·rw[RM.take_snoc ht',List.map_append];exact C.step (RM.b8 h t)
 ·rintro σ H2 ⟨tab,v3,v4,v5,v6,v7,v8,rfl,s2,hD,C⟩;rw[lx,List.take_of_length_le (Nat.le_refl _)]at C;exact⟨_,rfl,k f tab H2 s2 hf hD C⟩
abbrev s_pbf:Stmt:=(top 73)
theorem sc_pbf:aK ["roof","face"] ["roof"] (aG s_pbf):=⟨rfl,rfl,rfl,by decide+kernel,rfl,by decide+kernel,by decide+kernel⟩
noncomputable def LDs(H:Hp)(r:Addr)(Ls:List (List PI)):Prop:=∃bs:List Addr,H r=some (.lst (bs.map V.ref))/\Paired (fun b L=>∃tab,D2 H b (IV tab)/\RM.c6 tab L) bs Ls
theorem LDs.mono{H H':Hp}{r:Addr}{Ls:List (List PI)}(e:a9 H H')(h:LDs H r Ls):LDs H' r Ls:=let⟨bs,h1,h2⟩:=h;⟨bs,e _ _ h1,aI (fun _ _ ⟨tab,q,c⟩=>⟨tab,e _ _ q,c⟩) h2⟩
theorem pC{α β:Type}{f:α->β}{l:List α}{i:Nat}{y:β}(h:(l.map f)[i]? =some y):∃x,l[i]? =some x/\y=f x:=by
 rw[List.getElem?_map]at h;cases e:l[i]? with
 |none=>rw[e]at h;cases h
 |some x=>rw[e]at h;cases h;exact⟨x,rfl,rfl⟩
noncomputable def sp_pbf(K:W.Frag)(d:Adr):Sp:=fun vs H Q _=>∃(x cA dA hA fA nA gA:Addr)(C:List (Nat×Nat))(ht:List (PI×Int))(Ns:List (List PI3)),vs=[.ref x]/\mO C d.Roof H x cA dA hA fA nA gA ht Ns/\C.length<=256/\∀r H',a9 H H'->H r=none->LDs H' r (Ns.map fun N=>N.map (RM.b8 (Roof.halvesOf C)))->Q (.ref r) H'
theorem ok_pbf(F:Fun K "places_by_face" "places_by_face" s_pbf f fd)(T:Txt K mg base d)(D_po:aQ P w K mg base CX0 2 "places_on" ["face","roof"] (sp_po K d)):bK P w K mg base CX0 3 f fd ["roof"] (sp_pbf K d):=by
 refine F.ok sc_pbf (fun vs H Q E h=>by obtain⟨x,cA,dA,hA,fA,nA,gA,C,ht,Ns,rfl,_⟩:=h;rfl) (fun cdv A outer s H vs Q E hr h=>?_);have hu:=bF hr;obtain⟨x,cA,dA,hA,fA,nA,gA,C,ht,Ns,rfl,ra,h256,k⟩:=h;obtain⟨dx,fs,hx,q1,q2,q3,q4,q5,q6⟩:=ra.ins;obtain⟨bs,hg,pr⟩:=ra.faces;obtain⟨m1,m2,m3⟩:=ra.nok.small h256;have lx:=pairs_len pr;refine⟨_,(aD (aR (qE (own:=[("face",1)]) rfl sc_pbf.nd (cS (kB (pv 0) rfl)) (cU (by first|decide+kernel|kernel_rfl)) (fun _ _ _ _ _=>(aL (i:=1) sc_pbf.nd rfl (Or.inl rfl))) (fun _ _ _ _ _=>gC) (fun _ _ _ _ _=>(aU D_po (hm hr) aX rfl (a8 (pv 1) (a8 (pv 0) aC))))))),?_⟩;refine⟨_,rfl,x,d.Roof,dx,fs,_,rfl,hx,T.d3,T.CA,q6,gA,rfl,⟨_,SqL.of hg⟩,fun D hD=>fL (K:=K) (a:=gA) (xs:=bs.map V.ref)
  (fun i H2=>a9 H H2/\∃cs:List Addr,H2 D=some (.lst (cs.map V.ref))/\Paired (fun b L=>b≠D/\∃tab,D2 H2 b (IV tab)/\RM.c6 tab L) cs ((Ns.take i).map fun N=>N.map (RM.b8 (Roof.halvesOf C)))) ⟨a9.upd hD,[],a7,.nil⟩ (fun i H2 _ ⟨s2,_⟩=>s2.seq (SqL.of hg)) ?_ ?_⟩
 ·rintro i v H2 hv ⟨s2,cs,h2,pc⟩;obtain⟨b,hb,rfl⟩:=pC hv;obtain⟨N,hN,ls⟩:=pairs_at pr hb;have hil:=qY hN;have hm:=List.mem_of_getElem? hN;have lc:=pairs_len pc;rw[List.length_map,List.length_take]at lc;refine⟨rfl,_,rfl,_,rfl,b,x,N,_,rfl,LS.mono s2 ls,ra.l.mono s2,fun t ht'=>⟨(ra.nok.side N hm t ht').1,(ra.nok.side N hm t ht').2,ra.nok.half N hm t ht'⟩,m3 N hm,fun r tab H3 s3 fr hT C3=>?_⟩;have h3:=s3 _ _ h2;have nr:r≠D:=fun z=>by rw[z,h2]at fr;cases fr
  refine⟨_,h3,by rw[List.length_map];exact few (m:=5000) (by omega),a9.put (a9.trans s2 s3) hD,cs++[r],by rw[a7];simp,?_⟩;rw[RM.take_snoc hN,List.map_append];refine bA ⟨nr,tab,by unfold D2;rw[aA nr];exact hT,C3⟩ (aI (fun b L ⟨n1,tb,q,c⟩=>⟨n1,tb,?_,c⟩) pc);unfold D2;rw[aA n1];exact s3 _ _ q
 ·rintro H2 ⟨s2,cs,h2,pc⟩;rw[List.length_map,lx,List.take_of_length_le (Nat.le_refl _)]at pc;exact k D H2 s2 hD ⟨cs,h2,aI (fun _ _ z=>z.2) pc⟩
abbrev s_to:Stmt:=(top 70)
theorem sc_to:aK ["places","W","H","tiles","place","count","course","shift","tile"] ["places","W","H"] (aG s_to):=⟨rfl,rfl,rfl,by decide+kernel,rfl,by decide+kernel,by decide+kernel⟩
noncomputable def sp_to(K:W.Frag)(d:Adr):Sp:=fun vs H Q _=>∃(a:Addr)(tab:List (PI×Int))(w h:Int),vs=[.ref a,.int w,.int h]/\D2 H a (IV tab)/\0<w/\0<h/\w<=64/\h<=64/\tab.length<=4096/\∀r tab2 H',a9 H H'->H r=none->D2 H' r (IV tab2)->RM.uD (RM.cH w h) tab2 tab->Q (.ref r) H'
theorem ok_to(F:Fun K "tiles_over" "tiles_over" s_to f fd)(T:Txt K mg base d):bK P w K mg base CX0 1 f fd ["places","W","H"] (sp_to K d):=by
 refine F.ok sc_to (fun vs H Q E h=>by obtain⟨a,tab,w,h,rfl,_⟩:=h;rfl) (fun cdv A outer s H vs Q E hr h=>?_);have hu:=bF hr;obtain⟨a,tab,w,h,rfl,hA,w0,h0,w6,h6,hl,k⟩:=h;have big:(2:Int)^64=18446744073709551616:=by decide
 generalize eK:kvF k2 (IV tab)=KV;have hA:H a=some (.dT KV):=by rw[<- eK];exact hA
 refine⟨_,(aB (aP (i:=3) sc_to.nd rfl (Or.inl rfl) dG)
   (aB (j7 (c9 PassesOwn.never rfl (oZ (pv 0)) (kA rfl (bE (aL (i:=4) sc_to.nd rfl (Or.inl rfl)) (bE (aL (i:=5) sc_to.nd rfl (Or.inl rfl)) fJ))) (aB (aP (i:=6) sc_to.nd rfl (Or.inl rfl) (cI rA (cN cD (pv 4) aN (fun _ _=>rfl)) (pv 2)))
   (aB (aP (i:=7) sc_to.nd rfl (Or.inl rfl) (cI p9 (cI rA (pv 1) aN) (cI pA (pv 6) aN)))
   (aB (aP (i:=8) sc_to.nd rfl (Or.inl rfl) (dZ (a8 (pv 6) (a8 (cI rA (cI gN (cN cD (pv 4) aN (fun _ _=>rfl)) (pv 7)) (pv 1)) aC))))
   (aD (eV hu (pv 3) (pv 8) (cI gN (sI hu (pv 3) (pv 8) aN ⟨rfl,rfl,rfl,rfl⟩) (pv 5)) rfl)))))))
   (aD (aR (pv 3))))),?_⟩
 refine fun f hf=>?_
 have nc:a≠f:=aH hA hf;have lockd:∀od,(upd H a (.frz od (.dT KV))) f=none:=fun od=>fG hA hf
 refine⟨a,.dT KV,by rw[aA nc];exact hA,trivial,fun od=>⟨_,rfl,a,od,_,rfl,a7,pP (d:=a) (od:=od) (kvs:=KV)
  (fun i σ H2=>∃(tab2:List (PI×Int))(v4 v5 v6 v7 v8:Option V),σ=[some (.ref a),some (.int w),some (.int h),some (.ref f),v4,v5,v6,v7,v8]/\a9 (upd H a (.frz od (.dT KV))) H2/\D2 H2 f (IV tab2)/\RM.uD (RM.cH w h) tab2 (tab.take i)/\tab2.length<=i)
  ⟨[],none,none,none,none,none,rfl,a9.both (a9.upd hf),by unfold D2;rw[aA nc.symm,a7];rfl,RM.uD.start _,Nat.le_refl _⟩ (fun i σ H2 ⟨_,_,_,_,_,_,_,s2,_⟩=>s2 _ _ a7) ?_ ?_⟩⟩
 ·rintro i kk vv q T' σ H2 hi hq hT' ⟨tab2,v4,v5,v6,v7,v8,rfl,s2,hD,C,hl2⟩;rw[<- eK]at hi;obtain⟨p,hp,rfl⟩:=mH hi;obtain⟨m,hm,rfl⟩:∃m,tab[i]? =some (p,m)/\vv=.int m:=by
   unfold IV at hp;rw[List.getElem?_map]at hp;cases e:tab[i]? with
   |none=>rw[e]at hp;cases hp
   |some x=>rw[e]at hp;cases hp;exact⟨x.2,rfl,rfl⟩
  have hil:=(List.getElem?_eq_some_iff.mp hm).1;have hq:H2 q=some (.tup [.int p.1,.int p.2]):=hq;have s3:a9 H2 (upd H2 T' (.tup [.ref q,.int m])):=a9.upd hT';refine⟨T',_,rfl,SqT.of a7,rfl,_,_,rfl,_,_,rfl,rfl,?_⟩;have s23:=a9.trans s2 s3;have hD3:=s3 _ _ hD;have hq3:=s3 _ _ hq;generalize (upd H2 T' (.tup [.ref q,.int m]))=H3 at s3 s23 hD3 hq3 ⊢;refine⟨_,rfl,q,_,_,_,rfl,rfl,SqT.of hq3,bQ (by decide) rfl,_,rfl,_,_,rfl,rfl,⟨h0,by omega⟩,?_⟩;refine⟨_,rfl,_,_,rfl,rfl,⟨by decide,by decide⟩,_,rfl,_,_,rfl,rfl,(by show(0:Int)<2;decide),_,_,rfl,rfl,.inl ⟨by omega,by omega⟩,?_⟩;refine⟨_,rfl,_,rfl,q,_,_,_,rfl,rfl,SqT.of hq3,bQ (by decide) rfl,_,rfl,_,_,rfl,rfl,_,rfl,_,_,rfl,rfl,⟨w0,by omega⟩,(by show 2<=sizeLine;decide),fun t ht=>?_⟩;have s4:a9 H3 (upd H3 t (.tup [.int (RM.cH w h p).1,.int (RM.cH w h p).2])):=a9.upd ht;have htt:(upd H3 t (.tup [.int (RM.cH w h p).1,.int (RM.cH w h p).2])) t=some (.tup [.int (RM.cH w h p).1,.int (RM.cH w h p).2]):=a7;show kI 8 (.ref t) _ (upd H3 t (.tup [.int (RM.cH w h p).1,.int (RM.cH w h p).2])) _
  have hD4:D2 (upd H3 t (.tup [.int (RM.cH w h p).1,.int (RM.cH w h p).2])) f (IV tab2):=s4 _ _ hD3;generalize (upd H3 t (.tup [.int (RM.cH w h p).1,.int (RM.cH w h p).2]))=H4 at s4 htt hD4 ⊢;have eg:(RM.aJ (IV tab2) (RM.cH w h p)).getD (V.int 0)=V.int ((RM.aJ tab2 (RM.cH w h p)).getD 0):=by rw[f9];cases RM.aJ tab2 (RM.cH w h p)<;>rfl
  refine⟨_,rfl,f,rfl,.inr ⟨_,hD4.rd⟩,_,rfl,_,R2.get (p:=RM.cH w h p) hD4.rd htt,_,rfl,_,_,eg,rfl,?_⟩;refine⟨_,rfl,_,rfl,f,_,rfl,D2.put hD4 htt _ (by rw[dN];exact few (m:=5000) (by omega)),RM.cV tab2 (RM.cH w h p) ((RM.aJ tab2 (RM.cH w h p)).getD 0+m),_,_,_,_,_,rfl,a9.put (a9.trans s23 s4) (lockd od),?_,?_,?_⟩
  ·unfold D2;rw[a7,<- lE]
  ·rw[RM.take_snoc hm];exact C.step (p,m)
  ·have:=RM.l8 tab2 (RM.cH w h p) ((RM.aJ tab2 (RM.cH w h p)).getD 0+m);omega
 ·rintro σ H2 ⟨tab2,v4,v5,v6,v7,v8,rfl,s2,hD,C,hl2⟩;have el:KV.length=tab.length:=by rw[<- eK,eM,dN]
  rw[el,List.take_of_length_le (Nat.le_refl _)]at C;exact⟨s2 _ _ a7,_,rfl,k f tab2 _ (a9.unlock hA s2) hf (by unfold D2;rw[aA nc.symm];exact hD) C⟩
abbrev s_wac:Stmt:=(top 71)
theorem sc_wac:aK ["places","W","H","counts","whole"] ["places","W","H"] (aG s_wac):=⟨rfl,rfl,rfl,by decide+kernel,rfl,by decide+kernel,by decide+kernel⟩
noncomputable def sp_wac(K:W.Frag)(d:Adr):Sp:=fun vs H Q _=>∃(a:Addr)(tab:List (PI×Int))(L:List PI)(w h:Int),vs=[.ref a,.int w,.int h]/\D2 H a (IV tab)/\RM.c6 tab L/\L.length<=4096/\0<w/\0<h/\w<=64/\h<=64/\∀r tab2 H',a9 H H'->H r=none->RM.c6 tab2 (L.map (RM.cH w h))->H' r=some (.lst ([((tab2.map (·.2)).count (4*w*h):Int),(tab2.length:Int) - ((tab2.map (·.2)).count (4*w*h):Int)].map V.int))->Q (.ref r) H'
theorem ok_wac(F:Fun K "whole_and_cut" "whole_and_cut" s_wac f fd)(T:Txt K mg base d)(D_to:aQ P w K mg base CX0 1 "tiles_over" ["places","W","H"] (sp_to K d)):bK P w K mg base CX0 2 f fd ["places","W","H"] (sp_wac K d):=by
 refine F.ok sc_wac (fun vs H Q E h=>by obtain⟨a,tab,L,w,h,rfl,_⟩:=h;rfl) (fun cdv A outer s H vs Q E hr h=>?_);have hu:=bF hr;obtain⟨a,tab,L,w,h,rfl,hA,C,hl,w0,h0,w6,h6,k⟩:=h;have big:(2:Int)^64=18446744073709551616:=by decide
 have hlt:=C.len;refine⟨_,(aB (aP (i:=3) sc_wac.nd rfl (Or.inl rfl) (xZ rfl (by rfl) T.list (aU D_to (hm hr) aX rfl (a8 (pv 0) (a8 (pv 1) (a8 (pv 2) aC))))))
   (aB (aP (i:=4) sc_wac.nd rfl (Or.inl rfl) (iR PySem.F.plainAttrs_list PySem.F.slot_list_count PySem.F.type_list_count DW (pv 3) (a8 (cI p9 (cI p9 aN (pv 1)) (pv 2)) aC)))
   (aD (aR (fE (a8 (pv 4) (a8 (cI AK (bM cF (by rfl) T.len PySem.boot_len (a8 (pv 3) aC)) (pv 4)) aC))))))),?_⟩
 refine⟨_,rfl,_,rfl,_,rfl,a,tab,w,h,rfl,hA,w0,h0,w6,h6,by omega,fun r tab2 H1 s1 fr hD WC=>?_⟩;have C2:=WC.done C;have l2:=C2.len;rw[List.length_map]at l2;refine⟨r,_,rfl,hD.rd,fun l hl0=>?_⟩;have ev:(kvF k2 (IV tab2)).map (·.2)=(tab2.map (·.2)).map V.int:=by unfold kvF IV;rw[List.map_map,List.map_map,List.map_map];rfl
 rw[ev];have s2:a9 H1 (upd H1 l (.lst ((tab2.map (·.2)).map V.int))):=a9.upd hl0;have hll:(upd H1 l (.lst ((tab2.map (·.2)).map V.int))) l=some (.lst ((tab2.map (·.2)).map V.int)):=a7;generalize (upd H1 l (.lst ((tab2.map (·.2)).map V.int)))=H2 at s2 hll ⊢;refine⟨_,rfl,.inl ⟨rfl,_,SqL.of hll⟩,_,rfl,_,_,rfl,rfl,.inl ⟨by omega,by omega⟩,_,rfl,_,_,rfl,rfl,.inr ⟨by omega,by omega⟩,l,tab2.map (·.2),4*w*h,rfl,rfl,SqL.of hll,?_⟩;refine⟨_,rfl,_,rfl,l,_,rfl,.inl (SqL.of hll),_,rfl,_,_,rfl,rfl,(by show 2<=sizeLine;decide),fun p hp=>k p tab2 _ (a9.trans s1 (a9.trans s2 (a9.upd hp))) (a9.free (a9.trans s1 s2) hp) C2 ?_⟩;rw[a7,List.length_map,List.length_map];rfl
abbrev s_wact:Stmt:=(top 74)
theorem sc_wact:aK ["faces","W","H","pairs","places","whole","cut"] ["faces","W","H"] (aG s_wact):=⟨rfl,rfl,rfl,by decide+kernel,rfl,by decide+kernel,by decide+kernel⟩
noncomputable def sp_wact(K:W.Frag)(d:Adr):Sp:=fun vs H Q _=>∃(r:Addr)(Ls:List (List PI))(w h:Int),vs=[.ref r,.int w,.int h]/\LDs H r Ls/\(∀L∈Ls,L.length<=4096)/\Ls.length<=4096/\0<w/\0<h/\w<=64/\h<=64/\∀p (tabs:List (List (PI×Int))) H',a9 H H'->H p=none->tabs.length=Ls.length->(∀(k:Nat) tab L,tabs[k]? =some tab->Ls[k]? =some L->RM.c6 tab (L.map (RM.cH w h)))->H' p=some (.lst ([(tabs.map fun x=>(RM.oM (4*w*h) x).1).sum,(tabs.map fun x=>(RM.oM (4*w*h) x).2).sum].map V.int))->Q (.ref p) H'
theorem ok_wact(F:Fun K "whole_and_cut_together" "whole_and_cut_together" s_wact f fd)(T:Txt K mg base d)(D_wac:aQ P w K mg base CX0 2 "whole_and_cut" ["places","W","H"] (sp_wac K d)):bK P w K mg base CX0 3 f fd ["faces","W","H"] (sp_wact K d):=by
 refine F.ok sc_wact (fun vs H Q E h=>by obtain⟨r,Ls,w,h,rfl,_⟩:=h;rfl) (fun cdv A outer s H vs Q E hr h=>?_);have hu:=bF hr;obtain⟨r,Ls,w,h,rfl,⟨bs,hr0,pr⟩,hls,hl,w0,h0,w6,h6,k⟩:=h;have lx:=pairs_len pr;refine⟨_,(aB (xX (i:=3) (own:=[("places",4)]) rfl sc_wact.nd rfl rfl (by exact r8 rfl rfl rfl rfl) (cS (pv 0)) (cU (by first|decide+kernel|kernel_rfl)) (fun _ _ _ _ _=>(aL (i:=4) sc_wact.nd rfl (Or.inl rfl))) (fun _ _ _ _ _=>gC) (fun _ _ _ _ _=>(aU D_wac (hm hr) aX rfl (a8 (pv 4) (a8 (pv 1) (a8 (pv 2) aC))))))
   (aD (aR (fE (a8 (bM (HR rfl) (by rfl) T.sum (by rfl) (a8 (qE (own:=[("whole",5),("cut",6)]) rfl sc_wact.nd (cS (pv 3)) (cU (by first|decide+kernel|kernel_rfl)) (fun _ _ _ _ _=>(C5 (K:=K) (n:=2) rfl rfl (bE (aL (i:=5) sc_wact.nd rfl (Or.inl rfl)) (bE (aL (i:=6) sc_wact.nd rfl (Or.inl rfl)) fJ)))) (fun _ _ _ _ _=>gC) (fun _ _ _ _ _=>(pv 5))) aC)) (a8 (bM (HR rfl) (by rfl) T.sum (by rfl) (a8 (qE (own:=[("whole",5),("cut",6)]) rfl sc_wact.nd (cS (pv 3)) (cU (by first|decide+kernel|kernel_rfl)) (fun _ _ _ _ _=>(C5 (K:=K) (n:=2) rfl rfl (bE (aL (i:=5) sc_wact.nd rfl (Or.inl rfl)) (bE (aL (i:=6) sc_wact.nd rfl (Or.inl rfl)) fJ)))) (fun _ _ _ _ _=>gC) (fun _ _ _ _ _=>(pv 6))) aC)) aC)))))),?_⟩
 refine⟨_,rfl,r,rfl,⟨_,SqL.of hr0⟩,fun D hD=>fL (K:=K) (a:=r) (xs:=bs.map V.ref)
  (fun i H2=>a9 H H2/\∃(cs:List Addr)(tabs:List (List (PI×Int))),H2 D=some (.lst (cs.map V.ref))/\Paired (fun c tab=>c≠D/\H2 c=some (.lst ([(RM.oM (4*w*h) tab).1,(RM.oM (4*w*h) tab).2].map V.int))) cs tabs/\tabs.length=i/\∀(k:Nat) tab L,tabs[k]? =some tab->Ls[k]? =some L->RM.c6 tab (L.map (RM.cH w h))) ⟨a9.upd hD,[],[],a7,.nil,rfl,fun _ _ _ z=>(by cases z)⟩ (fun i H2 _ ⟨s2,_⟩=>s2.seq (SqL.of hr0)) ?_ ?_⟩
 ·rintro i v H2 hv ⟨s2,cs,tabs,h2,pc,lt,C⟩;obtain⟨b,hb,rfl⟩:=pC hv;obtain⟨L,hL,tab,hT,c0⟩:=pairs_at pr hb;have hil:=qY hL;have hm:=List.mem_of_getElem? hL;have lc:=pairs_len pc;refine⟨rfl,_,rfl,_,rfl,_,rfl,b,tab,L,w,h,rfl,s2 _ _ hT,c0,hls L hm,w0,h0,w6,h6,fun p tab2 H3 s3 fr C2 hp=>?_⟩;have np:p≠D:=fun z=>by rw[z,h2]at fr;cases fr
  refine⟨_,s3 _ _ h2,by rw[List.length_map];exact few (m:=5000) (by omega),a9.put (a9.trans s2 s3) hD,cs++[p],tabs++[tab2],by rw[a7];simp,bA ⟨np,by rw[aA np];exact hp⟩ (aI (fun c tb ⟨n1,q⟩=>⟨n1,by rw[aA n1];exact s3 _ _ q⟩) pc),by rw[List.length_append,lt];rfl,fun k' tb L' hk hL'=>?_⟩;by_cases e:k'<tabs.length
  ·exact C k' tb L' (by rwa [List.getElem?_append_left e]at hk) hL'
  ·have e2:k'=i:=by have:=(List.getElem?_eq_some_iff.mp hk).1;simp at this;omega
   subst e2;rw[List.getElem?_append_right (by omega),lt,Nat.sub_self]at hk;rw[hL]at hL';cases hL';cases hk;exact C2
 ·rintro H2 ⟨s2,cs,tabs,h2,pc,lt,C⟩;rw[List.length_map,lx]at lt;have lc:=pairs_len pc;refine⟨_,rfl,D,rfl,⟨_,SqL.of h2⟩,fun E1 hE1=>fL (K:=K) (a:=D) (xs:=cs.map V.ref) (fun i H3=>a9 H2 H3/\H3 E1=some (.lst (((tabs.take i).map fun x=>(RM.oM (4*w*h) x).1).map V.int))) ⟨a9.upd hE1,a7⟩ (fun i H3 _ ⟨s3,_⟩=>s3.seq (SqL.of h2)) ?_ ?_⟩
  ·rintro i v H3 hv ⟨s3,h3⟩;obtain⟨c,hc,rfl⟩:=pC hv;obtain⟨tab,ht,_,q⟩:=pairs_at pc hc;have hil:=qY ht;refine⟨c,_,rfl,SqL.of (s3 _ _ q),rfl,_,_,rfl,_,_,rfl,rfl,rfl,_,rfl,_,h3,?_,a9.put s3 hE1,?_⟩
   ·rw[List.length_map,List.length_map,List.length_take];exact few (m:=5000) (by omega)
   ·rw[a7,RM.take_snoc ht];simp
  ·rintro H3 ⟨s3,h3⟩;rw[List.length_map,lc,List.take_of_length_le (Nat.le_refl _)]at h3;refine⟨E1,_,rfl,SqL.of h3,_,rfl,D,rfl,⟨_,SqL.of (s3 _ _ h2)⟩,fun E2 hE2=>fL (K:=K) (a:=D) (xs:=cs.map V.ref) (fun i H4=>a9 H3 H4/\H4 E2=some (.lst (((tabs.take i).map fun x=>(RM.oM (4*w*h) x).2).map V.int))) ⟨a9.upd hE2,a7⟩ (fun i H4 _ ⟨s4,_⟩=>s4.seq (SqL.of (s3 _ _ h2))) ?_ ?_⟩
   ·rintro i v H4 hv ⟨s4,h4⟩;obtain⟨c,hc,rfl⟩:=pC hv;obtain⟨tab,ht,_,q⟩:=pairs_at pc hc;have hil:=qY ht;refine⟨c,_,rfl,SqL.of (s4 _ _ (s3 _ _ q)),rfl,_,_,rfl,_,_,rfl,rfl,rfl,_,rfl,_,h4,?_,a9.put s4 hE2,?_⟩
    ·rw[List.length_map,List.length_map,List.length_take];exact few (m:=5000) (by omega)
    ·rw[a7,RM.take_snoc ht];simp
   ·rintro H4 ⟨s4,h4⟩;rw[List.length_map,lc,List.take_of_length_le (Nat.le_refl _)]at h4;exact⟨E2,_,rfl,SqL.of h4,(by show 2<=sizeLine;decide),fun p hp=>k p tabs _ (a9.trans s2 (a9.trans s3 (a9.trans s4 (a9.upd hp)))) (a9.free (a9.trans s2 (a9.trans s3 s4)) hp) lt C a7⟩
abbrev s_cc:Stmt:=(top 72)
theorem sc_cc:aK ["places","H","place"] ["places","H"] (aG s_cc):=⟨rfl,rfl,rfl,by decide+kernel,rfl,by decide+kernel,by decide+kernel⟩
noncomputable def sp_cc(K:W.Frag)(d:Adr):Sp:=fun vs H Q _=>∃(a:Addr)(tab:List (PI×Int))(L:List PI)(h:Int),vs=[.ref a,.int h]/\D2 H a (IV tab)/\RM.c6 tab L/\L≠[]/\L.length<=4096/\0<h/\h<=64/\∀m H',a9 H H'->(∃p∈L,p.1=m)->(∀p∈L,p.1<=m)->Q (.int (m/h+1)) H'
theorem ok_cc(F:Fun K "course_count" "course_count" s_cc f fd)(T:Txt K mg base d):bK P w K mg base CX0 1 f fd ["places","H"] (sp_cc K d):=by
 refine F.ok sc_cc (fun vs H Q E h=>by obtain⟨a,tab,L,h,rfl,_⟩:=h;rfl) (fun cdv A outer s H vs Q E hr h=>?_);have hu:=bF hr;obtain⟨a,tab,L,h,rfl,hA,C,hne,hl,h0,h6,k⟩:=h;have lt:=C.len;have ek:(kvF k2 (IV tab)).length=tab.length:=by rw[eM,dN]
 refine⟨_,(aD (aR (cI gN (cI rA (bM (HS rfl) (by rfl) T.max (by rfl) (a8 (C6 (qE (own:=[("place",2)]) rfl sc_cc.nd (lI (pv 0)) (cU (by first|decide+kernel|kernel_rfl)) (fun _ _ _ _ _=>(aL (i:=2) sc_cc.nd rfl (Or.inl rfl))) (fun _ _ _ _ _=>gC) (fun _ _ _ _ _=>(cN (JE (K:=K) rfl) (pv 2) aN (fun _ _=>rfl))))) aC)) (pv 1)) aN))),?_⟩;refine⟨a,_,hA,trivial,fun od=>⟨_,rfl,a,od,rfl,.inr ⟨_,a7,fun D hD=>CC (d:=a) (od:=od) (kvs:=kvF k2 (IV tab))
  (fun i H2=>a9 (upd H a (.frz od (.dT (kvF k2 (IV tab))))) H2/\H2 D=some (.lst (((tab.take i).map fun x=>x.1.1).map V.int))) ⟨a9.upd hD,a7⟩ (fun i H2 ⟨s2,_⟩=>s2 _ _ a7) ?_ ?_⟩⟩⟩
 ·rintro i kk vv q H2 hi hq ⟨s2,h2⟩;obtain⟨p,hp,rfl⟩:=mH hi;obtain⟨m,hm⟩:∃m,tab[i]? =some (p,m):=by
   unfold IV at hp;rw[List.getElem?_map]at hp;cases e:tab[i]? with
   |none=>rw[e]at hp;cases hp
   |some x=>rw[e]at hp;cases hp;exact⟨x.2,rfl⟩
  have hil:=(List.getElem?_eq_some_iff.mp hm).1;have hq:H2 q=some (.tup [.int p.1,.int p.2]):=hq;refine⟨rfl,_,rfl,q,_,_,_,rfl,rfl,SqT.of hq,bQ (by decide) rfl,_,h2,?_,a9.put s2 hD,?_⟩
  ·rw[List.length_map,List.length_map,List.length_take];exact few (m:=5000) (by omega)
  ·rw[a7,RM.take_snoc hm];simp
 ·rintro H2 ⟨s2,h2⟩;rw[ek,List.take_of_length_le (Nat.le_refl _)]at h2;have nD:D≠a:=(aH (H:=upd H a (.frz od (.dT (kvF k2 (IV tab))))) a7 hD).symm;have hpos:0<(tab.map fun x=>x.1.1).length:=by
   rw[List.length_map];obtain⟨p,hp⟩:=List.exists_mem_of_ne_nil L hne;have:=(C.keys p).mpr hp;cases tab with
   |nil=>cases this
   |cons x r=>exact Nat.succ_pos _
  refine⟨s2 _ _ a7,D,tab.map fun x=>x.1.1,rfl,SqL.of (by rw[aA nD];exact h2),hpos,fun m hm hle=>⟨_,rfl,_,_,rfl,rfl,⟨h0,by omega⟩,_,_,rfl,rfl,k m _ (a9.unlock hA s2) ?_ fun p hp=>?_⟩⟩
  ·obtain⟨x,hx,e⟩:=List.mem_map.mp hm;exact⟨x.1,(C.keys x.1).mp (List.mem_map.mpr ⟨x,hx,rfl⟩),e⟩
  ·obtain⟨x,hx,rfl⟩:=List.mem_map.mp ((C.keys p).mpr hp);exact hle _ (List.mem_map.mpr ⟨x,hx,rfl⟩)
abbrev s_rr:Stmt:=(top 75)
theorem sc_rr:aK ["roof","W","H","faces","places"] ["roof","W","H"] (aG s_rr):=⟨rfl,rfl,rfl,by decide+kernel,rfl,by decide+kernel,by decide+kernel⟩
theorem QT{C:List (Nat×Nat)}{Ns:List (List PI3)}(R:RM.Numbering (Roof.halvesOf C) (Roof.trianglesOf (Roof.halvesOf C)).length Ns)(hb:∀c∈C,c.1<64/\c.2<64)(hne:C≠[]):0<Ns.length:=by
 obtain⟨c,hc⟩:=List.exists_mem_of_ne_nil C hne;have b:=hb c hc;have h1:Roof.raw (2*c.1) (2*c.2)∈Roof.halvesOf C:=(RM.B7 (by omega) hb).mpr (by rw[Nat.mul_div_cancel_left _ (by decide),Nat.mul_div_cancel_left _ (by decide)];exact hc);have h2:=(R.all (Nat.le_refl _)).1 (4*Roof.raw (2*c.1) (2*c.2)) (RM.d4.mpr (by rw[Nat.mul_div_cancel_left _ (by decide)];exact h1));cases Ns with
 |nil=>cases h2
 |cons N r=>exact Nat.succ_pos _
noncomputable def sp_rr(K:W.Frag)(d:Adr):Sp:=fun vs H Q _=>∃(x cA dA hA fA nA gA:Addr)(C:List (Nat×Nat))(ht:List (PI×Int))(Ns:List (List PI3))(w h:Int),vs=[.ref x,.int w,.int h]/\mO C d.Roof H x cA dA hA fA nA gA ht Ns/\C.length<=256/\C.Nodup/\(∀c∈C,c.1<64/\c.2<64)/\C≠[]/\RM.dY w h=true/\0<=w/\0<=h/\∀p (a b m:Int) H',a9 H H'->H p=none->((((Roof.topOf C).roofTiles (RoofB.sizeOf w.toNat h.toNat)).1:Nat):Int)=a->((((Roof.topOf C).roofTiles (RoofB.sizeOf w.toNat h.toNat)).2:Nat):Int)=b->((((List.range (Roof.topOf C).firsts.length).map ((Roof.topOf C).courses (RoofB.sizeOf w.toNat h.toNat))).foldl max 0:Nat):Int)=m->H' p=some (.lst ([a,b,m].map V.int))->Q (.ref p) H'
theorem ok_rr(F:Fun K "roof_row" "roof_row" s_rr f fd)(T:Txt K mg base d)(D_pbf:aQ P w K mg base CX0 3 "places_by_face" ["roof"] (sp_pbf K d))(D_wact:aQ P w K mg base CX0 3 "whole_and_cut_together" ["faces","W","H"] (sp_wact K d))(D_cc:aQ P w K mg base CX0 1 "course_count" ["places","H"] (sp_cc K d)):bK P w K mg base CX0 4 f fd ["roof","W","H"] (sp_rr K d):=by
 refine F.ok sc_rr (fun vs H Q E h=>by obtain⟨x,cA,dA,hA,fA,nA,gA,C,ht,Ns,w,h,rfl,_⟩:=h;rfl) (fun cdv A outer s H vs Q E hr h=>?_);have hu:=bF hr;obtain⟨x,cA,dA,hA,fA,nA,gA,C,ht,Ns,w,h,rfl,ra,h256,hn,hb,hne,sz,w0,h0,k⟩:=h;obtain⟨m1,m2,m3⟩:=ra.nok.small h256;have sb:0<w/\0<h/\w<=64/\h<=64:=by have s:=sz;unfold RM.dY at s;simp only[Bool.and_eq_true,decide_eq_true_eq]at s;omega
 refine⟨_,(aB (aP (i:=3) sc_rr.nd rfl (Or.inl rfl) (aU D_pbf (hm hr) aX rfl (a8 (pv 0) aC)))
   (aD (aR (cI LC (aU D_wact (hm hr) aX rfl (a8 (pv 3) (a8 (pv 1) (a8 (pv 2) aC)))) (fE (a8 (bM (HS rfl) (by rfl) T.max (by rfl) (a8 (qE (own:=[("places",4)]) rfl sc_rr.nd (cS (pv 3)) (cU (by first|decide+kernel|kernel_rfl)) (fun _ _ _ _ _=>(aL (i:=4) sc_rr.nd rfl (Or.inl rfl))) (fun _ _ _ _ _=>gC) (fun _ _ _ _ _=>(aU D_cc (hm hr) aX rfl (a8 (pv 4) (a8 (pv 2) aC))))) aC)) aC)))))),?_⟩
 refine⟨_,rfl,x,cA,dA,hA,fA,nA,gA,C,ht,Ns,rfl,ra,h256,fun r H1 s1 fr ld=>?_⟩;have hls:∀L∈Ns.map (fun N=>N.map (RM.b8 (Roof.halvesOf C))),L.length<=4096:=fun L hL=>by obtain⟨N,hN,rfl⟩:=List.mem_map.mp hL;rw[List.length_map];exact m3 N hN
 refine⟨_,rfl,_,rfl,_,rfl,r,_,w,h,rfl,ld,hls,by rw[List.length_map];exact m2,sb.1,sb.2.1,sb.2.2.1,sb.2.2.2,fun p tabs H2 s2 fp lt C2 hp=>?_⟩;obtain⟨bs,hr0,pr⟩:=ld.mono s2;rw[List.length_map]at lt;refine⟨_,rfl,r,rfl,⟨_,SqL.of hr0⟩,fun D hD=>fL (K:=K) (a:=r) (xs:=bs.map V.ref)
  (fun i H3=>a9 H2 H3/\∃cs:List Int,H3 D=some (.lst (cs.map V.int))/\cs.length=i/\∀(k:Nat) c N,cs[k]? =some c->Ns[k]? =some N->∃m,(∃t∈N,(RM.b8 (Roof.halvesOf C) t).1=m)/\(∀t∈N,(RM.b8 (Roof.halvesOf C) t).1<=m)/\c=m/h+1) ⟨a9.upd hD,[],a7,rfl,fun _ _ _ z=>(by cases z)⟩ (fun i H3 _ ⟨s3,_⟩=>s3.seq (SqL.of hr0)) ?_ ?_⟩
 ·rintro i v H3 hv ⟨s3,cs,h3,lc,C3⟩;obtain⟨b,hb',rfl⟩:=pC hv;obtain⟨L,hL,tab,hT,c0⟩:=pairs_at pr hb';obtain⟨N,hN,rfl⟩:=pC hL;have hil:=qY hN;have hm:=List.mem_of_getElem? hN;have hne':N.map (RM.b8 (Roof.halvesOf C))≠[]:=by have:=(ra.nok.all (Nat.le_refl _)).2.2.2.2 N hm;simpa using this
  refine⟨rfl,_,rfl,_,rfl,b,tab,_,h,rfl,s3 _ _ hT,c0,hne',by rw[List.length_map];exact m3 N hm,sb.2.1,sb.2.2.2,fun m H4 s4 hm' hle=>?_⟩;refine⟨_,s4 _ _ h3,by rw[List.length_map];exact few (m:=5000) (by omega),a9.put (a9.trans s3 s4) hD,cs++[m/h+1],by rw[a7];simp,by simp[lc],fun k' c' N' hk hN'=>?_⟩;by_cases e:k'<cs.length
  ·exact C3 k' c' N' (by rwa [List.getElem?_append_left e]at hk) hN'
  ·have e2:k'=i:=by have:=(List.getElem?_eq_some_iff.mp hk).1;simp at this;omega
   subst e2;rw[List.getElem?_append_right (by omega),lc,Nat.sub_self]at hk;rw[hN]at hN';cases hN';cases hk;refine⟨m,?_,fun t ht'=>hle _ (List.mem_map.mpr ⟨t,ht',rfl⟩),rfl⟩;obtain⟨q,hq,eq⟩:=hm';obtain⟨t,ht',rfl⟩:=List.mem_map.mp hq;exact⟨t,ht',eq⟩
 ·rintro H3 ⟨s3,cs,h3,lc,C3⟩;rw[List.length_map,pairs_len pr,List.length_map]at lc;refine⟨D,cs,rfl,SqL.of h3,by rw[lc];exact QT ra.nok hb hne,fun m hm hle=>⟨(by show 1<=sizeLine;decide),fun q hq=>?_⟩⟩;have hp3:=s3 _ _ hp;have np:p≠q:=fun z=>by rw[<- z,hp3]at hq;cases hq
  obtain⟨e1,e2⟩:=RM.DL hn hb ra.nok w0 h0 sz lt (fun k' tab N h1 h2=>C2 k' tab _ h1 (by rw[List.getElem?_map,h2];rfl));have e3:=RM.wF hn hb ra.nok sz lc C3 hm hle;exact⟨p,q,_,_,rfl,rfl,by rw[aA np];exact hp3,a7,(by show 3<=sizeLine;decide),fun p' hp'=>k p' _ _ _ _ (a9.trans s1 (a9.trans s2 (a9.trans s3 (a9.trans (a9.upd hq) (a9.upd hp'))))) (a9.free (a9.trans s1 (a9.trans s2 (a9.trans s3 (a9.upd hq)))) hp') e1 e2 e3 a7⟩
abbrev s_is:Stmt:=(top 67)
theorem sc_is:aK ["W","H"] ["W","H"] (aG s_is):=⟨rfl,rfl,rfl,by decide+kernel,rfl,by decide+kernel,by decide+kernel⟩
noncomputable def sp_is(K:W.Frag)(d:Adr):Sp:=fun vs H Q _=>∃w h:Int,vs=[.int w,.int h]/\Q (.bl (RM.dY w h)) H
theorem ok_is(F:Fun K "is_size" "is_size" s_is f fd)(T:Txt K mg base d):bK P w K mg base CX0 1 f fd ["W","H"] (sp_is K d):=by
 refine F.ok sc_is (fun vs H Q E h=>by obtain⟨w,h,rfl,_⟩:=h;rfl) (fun cdv A outer s H vs Q E hr h=>?_);have hu:=bF hr;obtain⟨w,h,rfl,k⟩:=h;unfold RM.dY at k;have e3:(w%2==0)=decide (w%2=0):=by rw[Bool.eq_iff_iff,beq_iff_eq,decide_eq_true_iff]
 refine⟨_,(aD (aR (G9 (y6 C8 C8 aN (pv 0) (cX T.gS rfl)) (G9 (n8 jO (cI pA (pv 0) aN) aN (cC _)) (L5 (y6 C8 C8 aN (pv 1) (cX T.gS rfl))))))),?_⟩;refine⟨_,rfl,_,_,rfl,rfl,_,rfl,?_⟩;refine cJ (fun c1=>?_) (fun c1=>?_)
 ·rw[c1,Bool.true_and]at k;refine⟨_,_,rfl,rfl,_,rfl,?_⟩;refine cJ (fun c2=>?_) (fun c2=>?_)
  ·rw[c2,Bool.true_and]at k;refine⟨_,rfl,_,_,rfl,rfl,(by show(0:Int)<2;decide),rfl,_,rfl,?_⟩;rw[rD,e3];refine cJ (fun c3=>?_) (fun c3=>?_)
   ·rw[c3,Bool.true_and]at k;refine⟨_,rfl,_,_,rfl,rfl,_,rfl,?_⟩;refine cJ (fun c4=>?_) (fun c4=>?_)
    ·rw[c4,Bool.true_and]at k;exact⟨_,_,rfl,rfl,k⟩
    ·rw[not_true c4,Bool.false_and]at k;exact k
   ·rw[not_true c3,Bool.false_and]at k;exact k
  ·rw[not_true c2,Bool.false_and]at k;exact k
 ·rw[not_true c1,Bool.false_and]at k;exact⟨_,rfl,k⟩
abbrev s_cs:Stmt:=(top 77)
theorem sc_cs:aK ["W","H"] ["W","H"] (aG s_cs):=⟨rfl,rfl,rfl,by decide+kernel,rfl,by decide+kernel,by decide+kernel⟩
noncomputable def sp_cs(K:W.Frag)(d:Adr):Sp:=fun vs H Q E=>∃w h:Int,vs=[.int w,.int h]/\(RM.dY w h=true->Q .non H)/\(RM.dY w h=false->E (.ref d.bL) none H)
theorem ok_cs(F:Fun K "check_size" "check_size" s_cs f fd)(T:Txt K mg base d)(D_is:aQ P w K mg base CX0 1 "is_size" ["W","H"] (sp_is K d)):bK P w K mg base CXf 2 f fd ["W","H"] (sp_cs K d):=by
 refine okX F sc_cs (fun vs H Q E h=>by obtain⟨w,h,rfl,_⟩:=h;rfl) (fun cdv A outer s H vs Q E hr hok h=>?_);have hu:=bF hr;obtain⟨w,h,rfl,k1,k2⟩:=h;refine⟨_,(aD (cR (G1 (hZ (aU D_is (hm hr) aX rfl (a8 (pv 0) (a8 (pv 1) aC))) (fun _=>rfl))) (aD (dR hok PySem.F.excBase_Exception T.tU rfl)) bJ)),?_⟩;refine⟨_,rfl,_,rfl,w,h,rfl,_,rfl,?_⟩;cases e:RM.dY w h with
 |true=>exact k1 e
 |false=>exact k2 e
abbrev s_rtt:Stmt:=(top 79)
theorem sc_rtt:aK ["W","H","t"] ["W","H","t"] (aG s_rtt):=⟨rfl,rfl,rfl,by decide+kernel,rfl,by decide+kernel,by decide+kernel⟩
noncomputable def sp_rtt(K:W.Frag)(d:Adr):Sp:=fun vs H Q E=>∃(w h:Int)(a:Addr)(ns:List Int),vs=[.int w,.int h,.ref a]/\SqL K H a (ns.map V.int)/\ns.length<=4096/\RM.inB ns/\(RM.dY w h=false->E (.ref d.bL) none H)/\(RM.dY w h=true->(Roof.houseOf (RoofBNeutral.text ns)=none->E (.ref d.bZ) none H)/\∀F,Roof.houseOf (RoofBNeutral.text ns)=some (RM.aT F)->Roof.isHouse (RM.aT F)=true->∀x cA dA hA fA nA gA ht Ns H',a9 H H'->mO (RM.aT F) d.Roof H' x cA dA hA fA nA gA ht Ns->Q (.ref x) H')
theorem ok_rtt(F:Fun K "roof_to_tile" "roof_to_tile" s_rtt f fd)(T:Txt K mg base d)(D_cs:aQ P w K mg base CXf 2 "check_size" ["W","H"] (sp_cs K d))(D_rt:aQ P w K mg base CXf 9 "roof_told" ["t"] (sp_rt K d)):bK P w K mg base CXf 10 f fd ["W","H","t"] (sp_rtt K d):=by
 refine okX F sc_rtt (fun vs H Q E h=>by obtain⟨w,h,a,ns,rfl,_⟩:=h;rfl) (fun cdv A outer s H vs Q E hr hok h=>?_);have hu:=bF hr;obtain⟨w,h,a,ns,rfl,hS,hl,hB,k1,k2⟩:=h;refine⟨_,(aB (dC (aU D_cs (hm hr) (y8 hok) rfl (a8 (pv 0) (a8 (pv 1) aC))))
   (aD (aR (aU D_rt (hm hr) (y8 hok) rfl (a8 (pv 2) aC))))),?_⟩
 refine⟨_,rfl,_,rfl,w,h,rfl,fun sz=>?_,k1⟩;obtain⟨k2,k3⟩:=k2 sz;exact⟨_,rfl,a,ns,rfl,hS,hl,hB,k3,k2⟩
abbrev uK:Stmt:=(top 18)
theorem KY:aK ["tell"] ["tell"] (aG uK):=⟨rfl,rfl,rfl,by decide+kernel,rfl,by decide+kernel,by decide+kernel⟩
noncomputable def hds(d:Adr):List HD:=[⟨"NoHouse",d.bZ,1,⟨35,11,35,18⟩,⟨36,17,36,18⟩,⟨36,16,36,18⟩,⟨36,15,36,19⟩,⟨36,8,36,19⟩,⟨35,4,36,19⟩⟩,⟨"OutOfBounds",d.bL,3,⟨37,11,37,22⟩,⟨38,17,38,18⟩,⟨38,16,38,18⟩,⟨38,15,38,19⟩,⟨38,8,38,19⟩,⟨37,4,38,19⟩⟩,⟨"Outside",d.fN,5,⟨39,11,39,18⟩,⟨40,17,40,18⟩,⟨40,16,40,18⟩,⟨40,15,40,19⟩,⟨40,8,40,19⟩,⟨39,4,40,19⟩⟩,⟨"NoFace",d.iL,6,⟨41,11,41,17⟩,⟨42,17,42,18⟩,⟨42,16,42,18⟩,⟨42,15,42,19⟩,⟨42,8,42,19⟩,⟨41,4,42,19⟩⟩,⟨"NoSize",d.iK,7,⟨43,11,43,17⟩,⟨44,17,44,18⟩,⟨44,16,44,18⟩,⟨44,15,44,19⟩,⟨44,8,44,19⟩,⟨43,4,44,19⟩⟩]
theorem M9(d:Adr):eZ uK=[.Try [.Return (some (.Call (.Name "tell" ⟨34,15,34,19⟩) [] [] ⟨34,15,34,21⟩)) ⟨34,8,34,21⟩] ((hds d).map HD.h) [] [] ⟨33,4,44,19⟩]:=rfl
structure Ans(K:W.Frag)(mg:Str->Option Value)(base:Heap)(d:Adr)(fA:Addr)(fdA:FuncData):Prop where
 fn:Fun K "answer_or_refusal" "answer_or_refusal" uK fA fdA
 at_:mg "answer_or_refusal" =some (.ref fA)
 bind:Binds K fdA ["tell"] []
 j1:mg "NoHouse" =some (.ref d.bZ)
 iN:gV base d.bZ
 eE:mg "OutOfBounds" =some (.ref d.bL)
 e9:gV base d.bL
 j0:mg "Outside" =some (.ref d.fN)
 iM:gV base d.fN
 kZ:mg "NoFace" =some (.ref d.iL)
 jV:gV base d.iL
 kY:mg "NoSize" =some (.ref d.iK)
 jU:gV base d.iK
 ap:[d.bZ,d.bL,d.fN,d.iL,d.iK].Nodup
 bm:MC mg base
theorem Ans.LR{K:W.Frag}{mg:Str->Option Value}{base:Heap}{d:Adr}{fA:Addr}{fdA:FuncData}(A:Ans K mg base d fA fdA):∀h∈hds d,mg h.x=some (.ref h.C)/\(aG uK).names.lookup h.x=some .globalImplicit/\gV base h.C/\(h.x==("__debug__" : Str))=false:=by
 intro h hh;rcases List.mem_cons.mp hh with rfl|hh
 ·exact⟨A.j1,rfl,A.iN,rfl⟩
 rcases List.mem_cons.mp hh with rfl|hh
 ·exact⟨A.eE,rfl,A.e9,rfl⟩
 rcases List.mem_cons.mp hh with rfl|hh
 ·exact⟨A.j0,rfl,A.iM,rfl⟩
 rcases List.mem_cons.mp hh with rfl|hh
 ·exact⟨A.kZ,rfl,A.jV,rfl⟩
 rcases List.mem_cons.mp hh with rfl|hh
 ·exact⟨A.kY,rfl,A.jU,rfl⟩
 exact(nomatch hh)
theorem Ans.B8{K:W.Frag}{mg:Str->Option Value}{base:Heap}{d:Adr}{fA:Addr}{fdA:FuncData}(A:Ans K mg base d fA fdA){H H0:Hp}{Q:VK}(h:∀p,H p=none->Q (.ref p) (upd H p (.lst [.int (-1)]))):XA (hds d) H Q (.ref d.bZ) none H0:=by
 have nd:=A.ap;simp only[List.nodup_cons,List.mem_cons,List.not_mem_nil,or_false,not_or]at nd;refine⟨_,rfl,⟨_,List.mem_of_getElem? (i:=0) rfl,rfl⟩,fun e he hC p hp=>?_⟩;rcases List.mem_cons.mp he with rfl|he
 ·exact h p hp
 rcases List.mem_cons.mp he with rfl|he
 ·exact absurd hC (by intro z;simp_all)
 rcases List.mem_cons.mp he with rfl|he
 ·exact absurd hC (by intro z;simp_all)
 rcases List.mem_cons.mp he with rfl|he
 ·exact absurd hC (by intro z;simp_all)
 rcases List.mem_cons.mp he with rfl|he
 ·exact absurd hC (by intro z;simp_all)
 exact(nomatch he)
theorem Ans.sX{K:W.Frag}{mg:Str->Option Value}{base:Heap}{d:Adr}{fA:Addr}{fdA:FuncData}(A:Ans K mg base d fA fdA){H H0:Hp}{Q:VK}(h:∀p,H p=none->Q (.ref p) (upd H p (.lst [.int (-3)]))):XA (hds d) H Q (.ref d.bL) none H0:=by
 have nd:=A.ap;simp only[List.nodup_cons,List.mem_cons,List.not_mem_nil,or_false,not_or]at nd;refine⟨_,rfl,⟨_,List.mem_of_getElem? (i:=1) rfl,rfl⟩,fun e he hC p hp=>?_⟩;rcases List.mem_cons.mp he with rfl|he
 ·exact absurd hC (by intro z;simp_all)
 rcases List.mem_cons.mp he with rfl|he
 ·exact h p hp
 rcases List.mem_cons.mp he with rfl|he
 ·exact absurd hC (by intro z;simp_all)
 rcases List.mem_cons.mp he with rfl|he
 ·exact absurd hC (by intro z;simp_all)
 rcases List.mem_cons.mp he with rfl|he
 ·exact absurd hC (by intro z;simp_all)
 exact(nomatch he)
theorem KW{K:W.Frag}{H:Hp}{tb a:Addr}{xs:List V}{ps qs:Array Value}(h:SqL K H a xs)(ht:H tb=some (.tbl ps)):SqL K (hT H tb qs) a xs:=by
 rcases h with h|h
 ·left;have n:a≠tb:=fun z=>by rcases h with h|⟨o,h⟩<;>(rw[z,ht]at h;cases h)
  rcases h with h|⟨o,h⟩
  ·exact .inl (by unfold hT;rw[aA n];exact h)
  ·exact .inr ⟨o,by unfold hT;rw[aA n];exact h⟩
 ·exact .inr h
abbrev s_f:Stmt:=(top 80)
theorem sc_f:aK ["W","H","t"] ["W","H","t"] (aG s_f):=⟨rfl,rfl,rfl,by decide+kernel,rfl,by decide+kernel,by decide+kernel⟩
noncomputable def sp_f(K:W.Frag)(tb:Addr):Sp:=fun vs H Q _=>∃(xW xH:Int)(rt:Addr)(nt:List Int),vs=[.int xW,.int xH,.ref rt]/\SqL K H rt (nt.map V.int)/\nt.length<=4096/\RM.inB nt/\0<=xW/\0<=xH/\xD tb H/\
 ∀p H',H' p=some (.lst ((RoofBNeutral.f [[8,xW,xH],nt]).map V.int))->Q (.ref p) H'
noncomputable def IF(K:W.Frag)(d:Adr):XK->Hp->TE:=fun E H=>(BX (sp_rr K d) [] E0 (rN (BX (sp_rtt K d) [] (fun c _ _=>E c none H) (rN (A5 0) (rN (A5 1) (rN (A5 2) KN)))) (rN (A5 0) (rN (A5 1) KN))))
theorem ok_f{P:Program}{w:World}{K:W.Frag}{mg:Str->Option Value}{base:Heap}{d:Adr}{f fA c tb:Addr}{fd fdA:FuncData}(F:Fun K "roof" "roof" s_f f fd)(T:Txt K mg base d)(AN:Ans K mg base d fA fdA)(hfc:fd.code=.ref c)(hC:W.CodeHd base c tb)(D_rr:aQ P w K mg base CX0 4 "roof_row" ["roof","W","H"] (sp_rr K d))(D_rtt:aQ P w K mg base CXf 10 "roof_to_tile" ["W","H","t"] (sp_rtt K d)):bK P w K mg base CXf 13 f fd ["W","H","t"] (sp_f K tb):=by
 obtain⟨oc,od,kV,doc,pm,an,cdv,ct,osl,rfl,lk,hcd⟩:=F.ex;obtain⟨oc2,od2,kV2,doc2,pm2,an2,cdv2,ct2,osl2,e2,lk2,hcd2⟩:=AN.fn.ex;obtain rfl:cdv=.ref c:=hfc;subst e2;refine HG lk hcd sc_f (fun vs H Q E h=>by obtain⟨xW,xH,rt,nt,rfl,_⟩:=h;rfl) (fun A outer s H vs Q E hr hok h=>?_);obtain⟨xW,xH,rt,nt,rfl,hSt,hlt,hBt,zxW,zxH,⟨hE1,hE2⟩,k⟩:=h;refine⟨_,aD (aR (L9 (k:=10) (teL:=IF K d) (T:=tb) AN.at_ lk2 hcd2 AN.fn.kp AN.bind KY rfl (M9 d) rfl AN.LR rfl (by decide) hr (fun _=>rfl) rfl hC AN.bm rfl (fun _ _ _ _=>rfl) rfl rfl rfl (by decide+kernel) (fun y hy=>absurd rfl ((by decide+kernel:∀z∈ _,z.2≠NameKind.local) _ (PySem.mem_of_lookup hy))) (fun y hy he=>(by decide+kernel:∀z:Str×NameKind,z∈(_:List (Str×NameKind))->z.2=NameKind.free->(aG s_f).names.lookup z.1=some NameKind.cell) y hy he)
  (fun fl c' cl A outer s H E hr hok=>(aU D_rr (hm hr) aX rfl (a8 (aU D_rtt hr (MV hok) rfl (a8 (pv 0) (a8 (pv 1) (a8 (pv 2) aC)))) (a8 (pv 0) (a8 (pv 1) aC))))))),?_⟩
 refine⟨[.int xW,.int xH,.ref rt],#[],rfl,hE1,trivial,rfl,hE2,fun more=>?_⟩;have hTb:hT H tb (#[]++more) tb≠none:=by unfold hT;rw[a7];intro z;cases z
 have hQ:∀(r:List Int)(H1:Hp)(p:Addr),RoofBNeutral.f [[8,xW,xH],nt]=r->p≠tb->H1 p=some (.lst (r.map V.int))->Q (.ref p) (upd H1 tb (.tbl (#[]++more))):=fun r H1 p e n q=>k p _ (by rw[aA n,e];exact q)
 have hX:∀r:Int,RoofBNeutral.f [[8,xW,xH],nt]=[r]->∀p,hT H tb (#[]++more) p=none->upd (hT H tb (#[]++more)) p (.lst [.int r]) tb=some (.frz (W.tabObj (#[]++more)) (.tbl (#[]++more)))->Q (.ref p) (upd (upd (hT H tb (#[]++more)) p (.lst [.int r])) tb (.tbl (#[]++more))):=fun r e p hp _=>
  hQ [r] _ p e (fun z=>hTb (z▸hp)) a7
 have hT0:hT H tb (#[]++more) tb=some (.frz (W.tabObj (#[]++more)) (.tbl (#[]++more))):=by unfold hT;rw[a7]
 have hb:∀F,∀c∈RM.aT F,c.1<64/\c.2<64:=fun F c hc=>⟨(RM.gT.mp hc).1,(RM.gT.mp hc).2.1⟩
 refine⟨_,rfl,_,rfl,_,rfl,xW,xH,rt,nt,rfl,KW hSt hE1,hlt,hBt,fun s=>AN.sX (hX _ (RM.A8 zxW zxH s)),fun s=>⟨fun c=>AN.B8 (hX _ (RM.wD zxW zxH s c)),fun F hF hH x cA dA hA fA nA gA ht Ns H1 s1 ra=>?_⟩⟩;obtain⟨h256,_,hne⟩:=iE hH;exact⟨_,rfl,_,rfl,x,cA,dA,hA,fA,nA,gA,_,ht,Ns,xW,xH,rfl,ra,h256,kW F,hb F,hne,s,zxW,zxH,fun p a b m H2 s2 hp e1 e2 e3 hl2=>fun _=>hQ _ H2 p (RM.DM zxW zxH s hF e1 e2 e3) (fun z=>by rw[z,s1 _ _ hT0]at hp;cases hp) hl2⟩
theorem HZ{P:Program}{w:World}{K:W.Frag}{mg:Str->Option Value}{base:Heap}{d:Adr}(M:Mod K mg base)(T:Txt K mg base d){fI:Addr}{fdI:FuncData}(mkRoof:Mk K d.Roof fI)(F_init:Fun K "__init__" "Roof.__init__" s_i fI fdI)
  (D_re:aF K "runs_eastward" s_re)
  (D_po:aF K "places_on" s_po)
  (D_pbf:aF K "places_by_face" s_pbf)
  (D_to:aF K "tiles_over" s_to)
  (D_wac:aF K "whole_and_cut" s_wac)
  (D_wact:aF K "whole_and_cut_together" s_wact)
  (D_cc:aF K "course_count" s_cc)
  (D_rr:aF K "roof_row" s_rr)
  (D_is:aF K "is_size" s_is)
  (D_cs:aF K "check_size" s_cs)
  (D_m:aF K "moved" s_m)
  (D_br:aF K "by_row" s_br)
  (D_hco:aF K "half_cells_of" s_hco)
  (D_id:aF K "is_deeper" s_id)
  (D_do:aF K "depths_of" s_do)
  (D_ss:aF K "side_start" s_ss)
  (D_ho:aF K "height_over" s_ho)
  (D_ho2:aF K "heights_of" s_ho2)
  (D_lo:aF K "left_of" s_lo)
  (D_se:aF K "side_end" s_se)
  (D_ro:aF K "right_of" s_ro)
  (D_o:aF K "opposite" s_o)
  (D_fo2:aF K "facing_of" s_fo2)
  (D_fo3:aF K "facings_of" s_fo3)
  (D_tol:aF K "triangle_on_left" s_tol)
  (D_tor:aF K "triangle_on_right" s_tor)
  (D_b:aF K "beyond" s_b)
  (D_ta:aF K "triangle_across" s_ta)
  (D_nf:aF K "number_face" s_nf)
  (D_no:aF K "numbers_of" s_no)
  (D_fo:aF K "faces_of" s_fo)
  (D_pb:aF K "parts_between" s_pb)
  (D_dt:aF K "digit_told" s_dt)
  (D_nt:aF K "number_told" s_nt)
  (D_ct:aF K "corner_told" s_ct)
  (D_wt:aF K "walk_told" s_wt)
  (D_wt2:aF K "walks_told" s_wt2)
  (D_far:aF K "feet_across_rows" s_far)
  (D_cw:aF K "cells_within" s_cw)
  (D_haw:aF K "headings_along_walls" s_haw)
  (D_wf:aF K "walk_from" s_wf)
  (D_wr:aF K "walks_round" s_wr)
  (D_miap:aF K "meets_in_a_point" s_miap)
  (D_ij:aF K "is_joined" s_ij)
  (D_ih:aF K "is_house" s_ih)
  (D_ht:aF K "house_told" s_ht)
  (D_rt:aF K "roof_told" s_rt)
  (D_rtt:aF K "roof_to_tile" s_rtt)
  : aQ P w K mg base CX0 4 "roof_row" ["roof","W","H"] (sp_rr K d)/\aQ P w K mg base CXf 10 "roof_to_tile" ["W","H","t"] (sp_rtt K d):=by
 have E_re:=D_re.ok M (fun _ _ F=>ok_re F T (P:=P) (w:=w)) fun|_,_,_,_,_,_,[_],_=>rfl
 have E_po:=D_po.ok M (fun _ _ F=>ok_po F T E_re) fun|_,_,_,_,_,_,[_,_],_=>rfl
 have E_pbf:=D_pbf.ok M (fun _ _ F=>ok_pbf F T E_po) fun|_,_,_,_,_,_,[_],_=>rfl
 have E_to:=D_to.ok M (fun _ _ F=>ok_to F T (P:=P) (w:=w)) fun|_,_,_,_,_,_,[_,_,_],_=>rfl
 have E_wac:=D_wac.ok M (fun _ _ F=>ok_wac F T E_to) fun|_,_,_,_,_,_,[_,_,_],_=>rfl
 have E_wact:=D_wact.ok M (fun _ _ F=>ok_wact F T E_wac) fun|_,_,_,_,_,_,[_,_,_],_=>rfl
 have E_cc:=D_cc.ok M (fun _ _ F=>ok_cc F T (P:=P) (w:=w)) fun|_,_,_,_,_,_,[_,_],_=>rfl
 have E_rr:=D_rr.ok M (fun _ _ F=>ok_rr F T E_pbf E_wact E_cc) fun|_,_,_,_,_,_,[_,_,_],_=>rfl
 have E_is:=D_is.ok M (fun _ _ F=>ok_is F T (P:=P) (w:=w)) fun|_,_,_,_,_,_,[_,_],_=>rfl
 have E_cs:=D_cs.ok M (fun _ _ F=>ok_cs F T E_is) fun|_,_,_,_,_,_,[_,_],_=>rfl
 have E_m:=D_m.ok M (fun _ _ F=>ok_m F T (P:=P) (w:=w)) fun|_,_,_,_,_,_,[_,_],_=>rfl
 have E_br:=D_br.ok M (fun _ _ F=>ok_br F T (P:=P) (w:=w)) fun|_,_,_,_,_,_,[_],_=>rfl
 have E_hco:=D_hco.ok M (fun _ _ F=>ok_hco F T E_m E_br) fun|_,_,_,_,_,_,[_],_=>rfl
 have E_id:=D_id.ok M (fun _ _ F=>ok_id F T E_m) fun|_,_,_,_,_,_,[_,_],_=>rfl
 have E_do:=D_do.ok M (fun _ _ F=>ok_do F T E_hco E_id) fun|_,_,_,_,_,_,[_],_=>rfl
 have E_ss:=D_ss.ok M (fun _ _ F=>ok_ss F T E_m) fun|_,_,_,_,_,_,[_,_],_=>rfl
 have E_ho:=D_ho.ok M (fun _ _ F=>ok_ho F T E_m) fun|_,_,_,_,_,_,[_,_],_=>rfl
 have E_ho2:=D_ho2.ok M (fun _ _ F=>ok_ho2 F T E_ss E_ho) fun|_,_,_,_,_,_,[_],_=>rfl
 have E_lo:=D_lo.ok M (fun _ _ F=>ok_lo F T (P:=P) (w:=w)) fun|_,_,_,_,_,_,[_],_=>rfl
 have E_se:=D_se.ok M (fun _ _ F=>ok_se F T E_ss E_lo) fun|_,_,_,_,_,_,[_,_],_=>rfl
 have E_ro:=D_ro.ok M (fun _ _ F=>ok_ro F T (P:=P) (w:=w)) fun|_,_,_,_,_,_,[_],_=>rfl
 have E_o:=D_o.ok M (fun _ _ F=>ok_o F T (P:=P) (w:=w)) fun|_,_,_,_,_,_,[_],_=>rfl
 have E_fo2:=D_fo2.ok M (fun _ _ F=>ok_fo2 F T E_ss E_se E_lo E_ro E_o) fun|_,_,_,_,_,_,[_,_,_,_],_=>rfl
 have E_fo3:=D_fo3.ok M (fun _ _ F=>ok_fo3 F T E_fo2) fun|_,_,_,_,_,_,[_,_],_=>rfl
 have E_tol:=D_tol.ok M (fun _ _ F=>ok_tol F T E_lo) fun|_,_,_,_,_,_,[_],_=>rfl
 have E_tor:=D_tor.ok M (fun _ _ F=>ok_tor F T E_ro) fun|_,_,_,_,_,_,[_],_=>rfl
 have E_b:=D_b.ok M (fun _ _ F=>ok_b F T E_m) fun|_,_,_,_,_,_,[_,_],_=>rfl
 have E_ta:=D_ta.ok M (fun _ _ F=>ok_ta F T E_b E_o) fun|_,_,_,_,_,_,[_],_=>rfl
 have E_nf:=D_nf.ok M (fun _ _ F=>ok_nf F T E_tol E_tor E_ta) fun|_,_,_,_,_,_,[_,_,_,_],_=>rfl
 have E_no:=D_no.ok M (fun _ _ F=>ok_no F T E_nf) fun|_,_,_,_,_,_,[_],_=>rfl
 have E_fo:=D_fo.ok M (fun _ _ F=>ok_fo F T (P:=P) (w:=w)) fun|_,_,_,_,_,_,[_],_=>rfl
 have b_init:Binds K fdI ["self","cells"] []:=F_init.binds fun _ _ _ _ _ _ us hl=>match us,hl with|[_,_],_=>rfl
 have E_i:bK P w K mg base CX0 7 fI fdI ["self","cells"] (sp_i K d):=ok_i F_init T E_do E_ho2 E_fo3 E_no E_fo;have E_pb:=D_pb.ok M (fun _ _ F=>ok_pb F T (P:=P) (w:=w)) fun|_,_,_,_,_,_,[_,_],_=>rfl
 have E_dt:=D_dt.ok M (fun _ _ F=>ok_dt F T (P:=P) (w:=w)) fun|_,_,_,_,_,_,[_],_=>rfl
 have E_nt:=D_nt.ok M (fun _ _ F=>ok_nt F T E_dt) fun|_,_,_,_,_,_,[_],_=>rfl
 have E_ct:=D_ct.ok M (fun _ _ F=>ok_ct F T E_pb E_nt) fun|_,_,_,_,_,_,[_],_=>rfl
 have E_wt:=D_wt.ok M (fun _ _ F=>ok_wt F T E_pb E_ct) fun|_,_,_,_,_,_,[_],_=>rfl
 have E_wt2:=D_wt2.ok M (fun _ _ F=>ok_wt2 F T E_pb E_wt) fun|_,_,_,_,_,_,[_],_=>rfl
 have E_far:=D_far.ok M (fun _ _ F=>ok_far F T (P:=P) (w:=w)) fun|_,_,_,_,_,_,[_],_=>rfl
 have E_cw:=D_cw.ok M (fun _ _ F=>ok_cw F T E_far) fun|_,_,_,_,_,_,[_],_=>rfl
 have E_haw:=D_haw.ok M (fun _ _ F=>ok_haw F T E_b E_ss E_lo) fun|_,_,_,_,_,_,[_],_=>rfl
 have E_wf:=D_wf.ok M (fun _ _ F=>ok_wf F T E_b) fun|_,_,_,_,_,_,[_,_,_],_=>rfl
 have E_wr:=D_wr.ok M (fun _ _ F=>ok_wr F T E_haw E_br E_wf) fun|_,_,_,_,_,_,[_],_=>rfl
 have E_miap:=D_miap.ok M (fun _ _ F=>ok_miap F T E_b E_lo) fun|_,_,_,_,_,_,[_,_],_=>rfl
 have E_ij:=D_ij.ok M (fun _ _ F=>ok_ij F T E_b) fun|_,_,_,_,_,_,[_],_=>rfl
 have E_ih:=D_ih.ok M (fun _ _ F=>ok_ih F T E_miap E_ij) fun|_,_,_,_,_,_,[_],_=>rfl
 have E_ht:=D_ht.ok M (fun _ _ F=>ok_ht F T E_wt2 E_cw E_wr E_ih) fun|_,_,_,_,_,_,[_],_=>rfl
 have E_rt:=D_rt.ok M (fun _ _ F=>ok_rt F T E_ht mkRoof E_i b_init) fun|_,_,_,_,_,_,[_],_=>rfl
 have E_rtt:=D_rtt.ok M (fun _ _ F=>ok_rtt F T E_cs E_rt) fun|_,_,_,_,_,_,[_,_,_],_=>rfl
 exact⟨E_rr,E_rtt⟩
abbrev rwL:W.OpenSpec:=PySem.Challenge.rw_rooftold_s08_roof
theorem MS:rwL.wellSaid=true:=by decide+kernel
theorem F6{args:List W.WData}(h:rwL.pre args=true):∃(xW:Int)(xH:Int)(nt:List Int),0<=xW/\0<=xH/\nt.length<=4096/\RM.inB nt/\args=[.int xW,.int xH,.list (nt.map W.WData.int)]/\
  ∀ds,rwL.claim.post args (.list ((RoofBNeutral.f [[8,xW,xH],nt]).map W.WData.int)) ds=true:=by
 obtain⟨a,h1,h2,rfl⟩:=(W.OpenSpec.pre_iff MS args).mp h;clear h2 h;have key:∀a:Int×Int×List Int×Unit,W.Codec.withinAll rwL.args a=true->∃(xW:Int)(xH:Int)(nt:List Int),0<=xW/\0<=xH/\nt.length<=4096/\RM.inB nt/\W.Codec.encAll rwL.args a=[.int xW,.int xH,.list (nt.map W.WData.int)]/\
   ∀ds,rwL.claim.post (W.Codec.encAll rwL.args a) (.list ((RoofBNeutral.f [[8,xW,xH],nt]).map W.WData.int)) ds=true:=by
  rintro⟨xW,xH,nt,u'⟩ h1;have w1:(W.Codec.inInt 0 4294967295 xW&& (W.Codec.inInt 0 4294967295 xH&& ((W.Codec.inNat 0 4096 nt.length&& nt.all (W.Codec.inInt 0 255))&& true)))=true:=h1;simp only[Bool.and_eq_true,W.Codec.inInt_iff,W.Codec.inNat_iff,List.all_eq_true]at w1;exact⟨xW,xH,nt,w1.1.1,w1.2.1.1,w1.2.2.1.1.2,fun x hx=>w1.2.2.1.2 x hx,rfl,fun ds=>(W.OpenSpec.post_iff MS h1 _ ds).mpr rfl⟩
 exact key a h1
theorem D8{K:W.Frag}{w:World}{s1:Shared}{mg mb:Str->Option Value}{q:Program}{loose:List Str}{mean mn:ExcName->Option Value}{cl:Str->Option Addr}{fa f fA fI c tb:Addr}{fd fdA fdI:FuncData}{args:List W.WData}{vals:List Value}{d:Adr}{dr:DefRec}
  (KX:K.In s1.heap) (T:PyProof.Rows.Top q loose mean mg mb s1.heap) (hg:s1.gens=#[]) (hmg:mg "roof" =some (.ref fa)) (hpre:rwL.pre args=true) (hwl:W.WellAll w.params s1.heap vals args)
  (TX:∀{mb2:Str->Option Value}{base:Heap},Mod K mg base->W.TopRead q loose mg mb2 base->Txt K mg base d) (mkRoof:Mk K d.Roof fI) (F_init:Fun K "__init__" "Roof.__init__" s_i fI fdI)
  (D_re:aF K "runs_eastward" s_re)
  (D_po:aF K "places_on" s_po)
  (D_pbf:aF K "places_by_face" s_pbf)
  (D_to:aF K "tiles_over" s_to)
  (D_wac:aF K "whole_and_cut" s_wac)
  (D_wact:aF K "whole_and_cut_together" s_wact)
  (D_cc:aF K "course_count" s_cc)
  (D_rr:aF K "roof_row" s_rr)
  (D_is:aF K "is_size" s_is)
  (D_cs:aF K "check_size" s_cs)
  (D_m:aF K "moved" s_m)
  (D_br:aF K "by_row" s_br)
  (D_hco:aF K "half_cells_of" s_hco)
  (D_id:aF K "is_deeper" s_id)
  (D_do:aF K "depths_of" s_do)
  (D_ss:aF K "side_start" s_ss)
  (D_ho:aF K "height_over" s_ho)
  (D_ho2:aF K "heights_of" s_ho2)
  (D_lo:aF K "left_of" s_lo)
  (D_se:aF K "side_end" s_se)
  (D_ro:aF K "right_of" s_ro)
  (D_o:aF K "opposite" s_o)
  (D_fo2:aF K "facing_of" s_fo2)
  (D_fo3:aF K "facings_of" s_fo3)
  (D_tol:aF K "triangle_on_left" s_tol)
  (D_tor:aF K "triangle_on_right" s_tor)
  (D_b:aF K "beyond" s_b)
  (D_ta:aF K "triangle_across" s_ta)
  (D_nf:aF K "number_face" s_nf)
  (D_no:aF K "numbers_of" s_no)
  (D_fo:aF K "faces_of" s_fo)
  (D_pb:aF K "parts_between" s_pb)
  (D_dt:aF K "digit_told" s_dt)
  (D_nt:aF K "number_told" s_nt)
  (D_ct:aF K "corner_told" s_ct)
  (D_wt:aF K "walk_told" s_wt)
  (D_wt2:aF K "walks_told" s_wt2)
  (D_far:aF K "feet_across_rows" s_far)
  (D_cw:aF K "cells_within" s_cw)
  (D_haw:aF K "headings_along_walls" s_haw)
  (D_wf:aF K "walk_from" s_wf)
  (D_wr:aF K "walks_round" s_wr)
  (D_miap:aF K "meets_in_a_point" s_miap)
  (D_ij:aF K "is_joined" s_ij)
  (D_ih:aF K "is_house" s_ih)
  (D_ht:aF K "house_told" s_ht)
  (D_rt:aF K "roof_told" s_rt)
  (D_rtt:aF K "roof_to_tile" s_rtt)
  (n_face:W.nsIn K mainGlobals "roof" =some (some (.ref f))) (F_face:Fun K "roof" "roof" s_f f fd) (hfc:fd.code=.ref c) (htab:W.tabIn K "roof" =some (c,tb)) (hrec:(PyProof.Rows.recsOf q).find? (fun e=>e.name==("roof" : Str))=some dr) (hKt:K.lookup tb=none)
  (n_ans:W.nsIn K mainGlobals "answer_or_refusal" =some (some (.ref fA))) (F_ans:Fun K "answer_or_refusal" "answer_or_refusal" uK fA fdA)
  (j1:W.nsIn K mainGlobals "NoHouse" =some (some (.ref d.bZ))) (iN:∀{h:Heap},K.In h->gV h d.bZ)
  (eE:W.nsIn K mainGlobals "OutOfBounds" =some (some (.ref d.bL))) (e9:∀{h:Heap},K.In h->gV h d.bL)
  (j0:W.nsIn K mainGlobals "Outside" =some (some (.ref d.fN))) (iM:∀{h:Heap},K.In h->gV h d.fN)
  (kZ:W.nsIn K mainGlobals "NoFace" =some (some (.ref d.iL))) (jV:∀{h:Heap},K.In h->gV h d.iL)
  (kY:W.nsIn K mainGlobals "NoSize" =some (some (.ref d.iK))) (jU:∀{h:Heap},K.In h->gV h d.iK)
  (ap:[d.bZ,d.bL,d.fN,d.iL,d.iK].Nodup):
  wpAny (model rwL.prog w) callerA (call (.ref fa) vals) (fun v s'=>W.GoodWG rwL.claim cl mn args s1 (.ok (.ret v)) s') (fun e s'=>W.GoodWG rwL.claim cl mn args s1 (.error e) s') s1:=by
 obtain⟨xW,xH,nt,zxW,zxH,hlt,hBt,rfl,hpost⟩:=F6 hpre;have e:=hmg.symm.trans (W.mg_of KX T.g n_face);cases e;obtain⟨hC,ht⟩:=W.tab_of (x:= "roof") T KX hrec htab;obtain⟨txW,txH,rt,ut,rfl,hOt,hIt⟩:∃txW txH rt ut,vals=[.int xW txW,.int xH txH,.ref rt]/\s1.heap.get? rt=some (GK ut)/\PyProof.Rows.IntsAre ut nt:=by
  cases hwl with
  |cons hxW hwl=>
   cases hwl with
   |cons hxH hwl=>
    cases hwl with
    |cons ht hwl=>
     cases hwl;cases hxW;cases hxH;cases ht with
     |list hot hwt=>exact⟨_,_,_,_,rfl,hot,uE hwt⟩
 refine wpAny_call (codeAny_mono (E8 (P:=rwL.prog) (w:=w) (K:=K) (k:=13) (tb:=tb) (fd:=fd) (ps:=["W","H","t"]) (sp:=sp_f K tb) (LA:=[(rt,ut,nt)]) (vs:=[.int xW,.int xH,.ref rt]) (R:=fun r=>r=RoofBNeutral.f [[8,xW,xH],nt])
  KX T.g T.b T.builtins T.nolimit hg ?_ ht (F0 hC) hKt ⟨rfl,by decide,by decide⟩ (.cons ⟨txW,rfl⟩ (.cons ⟨txH,rfl⟩ (.cons rfl .nil))) ?_ ?_ ?_) fun r s' h=>?_)
 ·intro p hp;rcases List.mem_cons.mp hp with rfl|hp
  ·exact⟨hOt,hIt,Nat.le_trans hlt (by decide)⟩
  exact(nomatch hp)
 ·intro base M kp;obtain⟨mb2,hb1,hb2⟩:=M.blt;have TR:W.TopRead q loose mg mb2 base:=⟨M.glob,hb1,M.nolimit,hb2,T.free⟩;have TX0:=TX M TR;have AN:Ans K mg base d fA fdA:=⟨F_ans,W.mg_of M.kin M.glob n_ans,F_ans.binds (fun _ _ _ _ _ _ us hl=>match us,hl with|[_],_=>rfl),W.mg_of M.kin M.glob j1,iN M.kin,W.mg_of M.kin M.glob eE,e9 M.kin,W.mg_of M.kin M.glob j0,iM M.kin,W.mg_of M.kin M.glob kZ,jV M.kin,W.mg_of M.kin M.glob kY,jU M.kin,ap,JX T ht kp⟩;obtain⟨E_rr,E_rtt⟩:=HZ (P:=rwL.prog) (w:=w) M TX0 mkRoof F_init D_re D_po D_pbf D_to D_wac D_wact D_cc D_rr D_is D_cs D_m D_br D_hco D_id D_do D_ss D_ho D_ho2 D_lo D_se D_ro D_o D_fo2 D_fo3 D_tol D_tor D_b D_ta D_nf D_no D_fo D_pb D_dt D_nt D_ct D_wt D_wt2 D_far D_cw D_haw D_wf D_wr D_miap D_ij D_ih D_ht D_rt D_rtt;exact ok_f F_face TX0 AN hfc (zM hC kp) E_rr E_rtt
 ·exact F_face.binds (ps:=["W","H","t"]) (fun _ _ _ _ _ _ us hl=>match us,hl with|[_,_,_],_=>rfl) s1 _ KX rfl
 ·intro H hA hS;exact⟨xW,xH,rt,nt,rfl,hS (rt,ut,nt) (List.mem_cons_self),hlt,hBt,zxW,zxH,hA,fun p H' hp=>⟨p,_,rfl,hp,rfl⟩⟩
 ·obtain⟨⟨p,its,n,ms,rfl,hget,pr,rfl⟩,h2,h3,h4⟩:=h;exact⟨.inl ⟨.ref p,.list ((RoofBNeutral.f [[8,xW,xH],nt]).map W.WData.int),_,rfl,fun _=>rfl,.list hget rfl rfl (by simpa using sC pr),hpost _,fun z=>(nomatch z)⟩,h2,h3,h4⟩
structure Facts(K:W.Frag)(d:Adr)(fI:Addr)(fdI:FuncData):Prop where
 txt:∀{p:Program}{loose:List Str}{mg mb:Str->Option Value}{base:Heap},Mod K mg base->W.TopRead p loose mg mb base->Txt K mg base d
 mkR:Mk K d.Roof fI
 init:Fun K "__init__" "Roof.__init__" s_i fI fdI
 j1:W.nsIn K mainGlobals "NoHouse" =some (some (.ref d.bZ))
 iN:∀{h:Heap},K.In h->gV h d.bZ
 eE:W.nsIn K mainGlobals "OutOfBounds" =some (some (.ref d.bL))
 e9:∀{h:Heap},K.In h->gV h d.bL
 j0:W.nsIn K mainGlobals "Outside" =some (some (.ref d.fN))
 iM:∀{h:Heap},K.In h->gV h d.fN
 kZ:W.nsIn K mainGlobals "NoFace" =some (some (.ref d.iL))
 jV:∀{h:Heap},K.In h->gV h d.iL
 kY:W.nsIn K mainGlobals "NoSize" =some (some (.ref d.iK))
 jU:∀{h:Heap},K.In h->gV h d.iK
 ap:[d.bZ,d.bL,d.fN,d.iL,d.iK].Nodup
theorem HI{K:W.Frag}{aNoHouse aOutOfBounds aOutside aNoFace aNoSize aRoof rALL_SIDES rSTEPS rSIDE_STARTS rQUARTERS rHALVES_ABOUT rHALVES_AT_A_POINT fI:Addr}{tLINE_FEED tBLANK tCOMMA tDIGIT_ZERO tDIGIT_NINE tGREATEST_NUMBER tMOST_DIGITS tFEWEST_CORNERS tCELLS_IN_A_ROW tMOST_CELLS tGREATEST_MEASURE:Tok}
  {nm0 q0 nm1 q1 nm2 q2 nm3 q3 nm4 q4:Str}{N0 N1 N2 N3 N4:Addr}{bs0 sub0 bs1 sub1 bs2 sub2 bs3 sub3 bs4 sub4:List Value}{hd0 ab0 hd1 ab1 hd2 ab2 hd3 ab3 hd4 ab4:Bool}{sn0 sn1 sn2 sn3 sn4:List Str}{col0 col1 col2 col3 col4:Option Bool}{dd0 dd1 dd2 dd3 dd4:Option Addr}{u0 v0 w0 x0 y0 u1 v1 w1 x1 y1 u2 v2 w2 x2 y2 u3 v3 w3 x3 y3 u4 v4 w4 x4 y4:Option Value}{id0 id1 id2 id3 id4:String}
  {oc:Value}{od an:Option Addr}{osl:Array (Option Value)}{kV doc pm cdv ct:Value}
  (n_ALL_SIDES:W.nsIn K mainGlobals "ALL_SIDES" =some (some (.ref rALL_SIDES)))
  (c_ALL_SIDES:wC K rALL_SIDES=true)
  (n_STEPS:W.nsIn K mainGlobals "STEPS" =some (some (.ref rSTEPS)))
  (c_STEPS:tG K rSTEPS [(0,-1),(1,0),(0,1),(-1,0)]=true)
  (n_SIDE_STARTS:W.nsIn K mainGlobals "SIDE_STARTS" =some (some (.ref rSIDE_STARTS)))
  (c_SIDE_STARTS:tG K rSIDE_STARTS [(0,0),(1,0),(1,1),(0,1)]=true)
  (n_QUARTERS:W.nsIn K mainGlobals "QUARTERS" =some (some (.ref rQUARTERS)))
  (c_QUARTERS:tG K rQUARTERS [(0,0),(1,0),(0,1),(1,1)]=true)
  (n_HALVES_ABOUT:W.nsIn K mainGlobals "HALVES_ABOUT" =some (some (.ref rHALVES_ABOUT)))
  (c_HALVES_ABOUT:tG K rHALVES_ABOUT [(-1,-1),(0,-1),(1,-1),(-1,0),(1,0),(-1,1),(0,1),(1,1)]=true)
  (n_HALVES_AT_A_POINT:W.nsIn K mainGlobals "HALVES_AT_A_POINT" =some (some (.ref rHALVES_AT_A_POINT)))
  (c_HALVES_AT_A_POINT:tG K rHALVES_AT_A_POINT [(-1,-1),(0,-1),(-1,0),(0,0)]=true)
  (n_LINE_FEED:W.nsIn K mainGlobals "LINE_FEED" =some (some (.int 10 tLINE_FEED)))
  (n_BLANK:W.nsIn K mainGlobals "BLANK" =some (some (.int 32 tBLANK)))
  (n_COMMA:W.nsIn K mainGlobals "COMMA" =some (some (.int 44 tCOMMA)))
  (n_DIGIT_ZERO:W.nsIn K mainGlobals "DIGIT_ZERO" =some (some (.int 48 tDIGIT_ZERO)))
  (n_DIGIT_NINE:W.nsIn K mainGlobals "DIGIT_NINE" =some (some (.int 57 tDIGIT_NINE)))
  (n_GREATEST_NUMBER:W.nsIn K mainGlobals "GREATEST_NUMBER" =some (some (.int 64 tGREATEST_NUMBER)))
  (n_MOST_DIGITS:W.nsIn K mainGlobals "MOST_DIGITS" =some (some (.int 2 tMOST_DIGITS)))
  (n_FEWEST_CORNERS:W.nsIn K mainGlobals "FEWEST_CORNERS" =some (some (.int 4 tFEWEST_CORNERS)))
  (n_CELLS_IN_A_ROW:W.nsIn K mainGlobals "CELLS_IN_A_ROW" =some (some (.int 64 tCELLS_IN_A_ROW)))
  (n_MOST_CELLS:W.nsIn K mainGlobals "MOST_CELLS" =some (some (.int 256 tMOST_CELLS)))
  (z_len:W.nsIn K mainGlobals "len" =some none)
  (z_min:W.nsIn K mainGlobals "min" =some none)
  (z_max:W.nsIn K mainGlobals "max" =some none)
  (z_any:W.nsIn K mainGlobals "any" =some none)
  (z_list:W.nsIn K mainGlobals "list" =some none)
  (z_dict:W.nsIn K mainGlobals "dict" =some none)
  (z_sorted:W.nsIn K mainGlobals "sorted" =some none)
  (z_range:W.nsIn K mainGlobals "range" =some none)
  (z_enumerate:W.nsIn K mainGlobals "enumerate" =some none)
  (n_NoHouse:W.nsIn K mainGlobals "NoHouse" =some (some (.ref aNoHouse)))
  (e_NoHouse:W.excIn K aNoHouse bmE "Exception.__new__" =true)
  (n_Roof:W.nsIn K mainGlobals "Roof" =some (some (.ref aRoof)))
  (q_pg:W.plainGet K aRoof Str.empty=true)
  (q_hd:W.hasDictIn K aRoof=true)
  (q_po:W.plainOver K aRoof=true)
  (q_sa:W.findIn K (.ref aRoof) "__setattr__" =some (some (.builtin "object.__setattr__")))
  (f_cells:W.findIn K (.ref aRoof) "cells" =some none)
  (f_depths:W.findIn K (.ref aRoof) "depths" =some none)
  (f_heights:W.findIn K (.ref aRoof) "heights" =some none)
  (f_facings:W.findIn K (.ref aRoof) "facings" =some none)
  (f_numbers:W.findIn K (.ref aRoof) "numbers" =some none)
  (wX:W.findIn K (.ref aRoof) "faces" =some none)
  (n_GREATEST_MEASURE:W.nsIn K mainGlobals "GREATEST_MEASURE" =some (some (.int 64 tGREATEST_MEASURE)))
  (n_OutOfBounds:W.nsIn K mainGlobals "OutOfBounds" =some (some (.ref aOutOfBounds)))
  (e_OutOfBounds:W.excIn K aOutOfBounds bmE "Exception.__new__" =true)
  (z_sum:W.nsIn K mainGlobals "sum" =some none)
  (n_Outside:W.nsIn K mainGlobals "Outside" =some (some (.ref aOutside)))
  (n_NoFace:W.nsIn K mainGlobals "NoFace" =some (some (.ref aNoFace)))
  (n_NoSize:W.nsIn K mainGlobals "NoSize" =some (some (.ref aNoSize)))
  (l_NoHouse:K.lookup aNoHouse=some (excClassObj nm0 q0 aNoHouse N0 bs0 bmE hd0 sn0 sub0 ab0 col0 dd0 u0 v0 w0 x0 y0 id0))
  (l_OutOfBounds:K.lookup aOutOfBounds=some (excClassObj nm1 q1 aOutOfBounds N1 bs1 bmE hd1 sn1 sub1 ab1 col1 dd1 u1 v1 w1 x1 y1 id1))
  (l_Outside:K.lookup aOutside=some (excClassObj nm2 q2 aOutside N2 bs2 bmE hd2 sn2 sub2 ab2 col2 dd2 u2 v2 w2 x2 y2 id2))
  (l_NoFace:K.lookup aNoFace=some (excClassObj nm3 q3 aNoFace N3 bs3 bmE hd3 sn3 sub3 ab3 col3 dd3 u3 v3 w3 x3 y3 id3))
  (l_NoSize:K.lookup aNoSize=some (excClassObj nm4 q4 aNoSize N4 bs4 bmE hd4 sn4 sub4 ab4 col4 dd4 u4 v4 w4 x4 y4 id4))
  (ap:[aNoHouse,aOutOfBounds,aOutside,aNoFace,aNoSize].Nodup)
  (m_mk:W.makesIn K aRoof=true)
  (m_in:W.findIn K (.ref aRoof) "__init__" =some (some (.ref fI)))
  (m_fn:W.isFn K (.ref fI)=true)
  (m_kp:W.keepIn K (.ref aRoof)=true)
  (i_l:K.lookup fI=some ⟨oc,od,.func (W.fnOf "__init__" "Roof.__init__" (gZ s_i) (eZ s_i) (aG s_i) .none kV doc pm an cdv ct),osl⟩)
  (i_c:W.codeIn K cdv "Roof.__init__" =true)
  (i_k:W.keepIn K (.ref fI)=true)
  : ∃d fI fdI,Facts K d fI fdI:=
 ⟨⟨aNoHouse,aOutOfBounds,aOutside,aNoFace,aNoSize,aRoof⟩,fI,_,⟨fun M TR=>⟨⟨rALL_SIDES,W.mg_of M.kin M.glob n_ALL_SIDES,fun H=>FT c_ALL_SIDES H⟩,⟨rSTEPS,W.mg_of M.kin M.glob n_STEPS,tF c_STEPS⟩,⟨rSIDE_STARTS,W.mg_of M.kin M.glob n_SIDE_STARTS,tF c_SIDE_STARTS⟩,⟨rQUARTERS,W.mg_of M.kin M.glob n_QUARTERS,tF c_QUARTERS⟩,⟨rHALVES_ABOUT,W.mg_of M.kin M.glob n_HALVES_ABOUT,tF c_HALVES_ABOUT⟩,⟨rHALVES_AT_A_POINT,W.mg_of M.kin M.glob n_HALVES_AT_A_POINT,tF c_HALVES_AT_A_POINT⟩,⟨tLINE_FEED,W.mg_of M.kin M.glob n_LINE_FEED⟩,⟨tBLANK,W.mg_of M.kin M.glob n_BLANK⟩,⟨tCOMMA,W.mg_of M.kin M.glob n_COMMA⟩,⟨tDIGIT_ZERO,W.mg_of M.kin M.glob n_DIGIT_ZERO⟩,⟨tDIGIT_NINE,W.mg_of M.kin M.glob n_DIGIT_NINE⟩,⟨tGREATEST_NUMBER,W.mg_of M.kin M.glob n_GREATEST_NUMBER⟩,⟨tMOST_DIGITS,W.mg_of M.kin M.glob n_MOST_DIGITS⟩,⟨tFEWEST_CORNERS,W.mg_of M.kin M.glob n_FEWEST_CORNERS⟩,⟨tCELLS_IN_A_ROW,W.mg_of M.kin M.glob n_CELLS_IN_A_ROW⟩,⟨tMOST_CELLS,W.mg_of M.kin M.glob n_MOST_CELLS⟩,W.mg_none_of M.kin M.glob z_len,W.mg_none_of M.kin M.glob z_min,W.mg_none_of M.kin M.glob z_max,W.mg_none_of M.kin M.glob z_any,W.mg_none_of M.kin M.glob z_list,W.mg_none_of M.kin M.glob z_dict,W.mg_none_of M.kin M.glob z_sorted,W.mg_none_of M.kin M.glob z_range,W.mg_none_of M.kin M.glob z_enumerate,W.own_of_in M.kin TR n_NoHouse e_NoHouse,W.mg_of M.kin M.glob n_Roof,⟨q_pg,q_hd,q_po,q_sa⟩,f_cells,f_depths,f_heights,f_facings,f_numbers,wX,⟨tGREATEST_MEASURE,W.mg_of M.kin M.glob n_GREATEST_MEASURE⟩,W.own_of_in M.kin TR n_OutOfBounds e_OutOfBounds,W.mg_none_of M.kin M.glob z_sum⟩,⟨m_mk,m_in,m_fn,m_kp⟩,BA i_l i_c i_k,n_NoHouse,(fun X=>nW X l_NoHouse),n_OutOfBounds,(fun X=>nW X l_OutOfBounds),n_Outside,(fun X=>nW X l_Outside),n_NoFace,(fun X=>nW X l_NoFace),n_NoSize,(fun X=>nW X l_NoSize),ap⟩⟩
theorem JR{K:W.Frag}{f c tb:Addr}{oc oc2:Value}{od od2 an:Option Addr}{osl sl2:Array (Option Value)}{vs:Array Value}{kV doc pm cdv ct:Value}(a:W.nsIn K mainGlobals "roof" =some (some (.ref f)))
  (l:K.lookup f=some ⟨oc,od,.func (W.fnOf "roof" "roof" (gZ s_f) (eZ s_f) (aG s_f) .none kV doc pm an cdv ct),osl⟩) (e:cdv=.ref c) (h:W.codeIn K cdv "roof" =true) (k:W.keepIn K (.ref f)=true)
  (l2:K.lookup c=some ⟨oc2,od2,.fields vs,sl2⟩) (hv:vs[11]? =some (.ref tb)) (kt:K.lookup tb=none):∃f fd c tb,W.nsIn K mainGlobals "roof" =some (some (.ref f))/\Fun K "roof" "roof" s_f f fd/\fd.code=.ref c/\W.tabIn K "roof" =some (c,tb)/\K.lookup tb=none:=
 ⟨f,_,c,tb,a,BA l h k,e,KI a l e l2 hv,kt⟩
end RT
open PySem
set_option maxHeartbeats 0 in
theorem PySem.Challenge.cw_rooftold_s08_roof_holds : PySem.Challenge.rw_rooftold_s08_roof.Holds := by
 refine W.holds_os (q:=HP.vw) (loose:=[]) (Xt:=HP.xt) (XP:=W.XL HP.vw []) (Yf:=W.Hook.obs (W.kHook HP.hpK HP.as HP.hkE)) (Ya:=W.Hook.val (W.kHook HP.hpK HP.as HP.hkE)) (YP:=W.Hook.says (W.kHook HP.hpK HP.as HP.hkE)) (N:=6390) HP.left (W.Hook.of _) (W.Hook.keeps _) (fun s e=>W.xl_of s (Bool.and_eq_true_iff.mp e).1) W.XL.keeps (by rfl) (by rfl) (by rfl) (fun s e=>W.recFacts_of (Bool.and_eq_true_iff.mp e).2) W.os_shapes (by decide+kernel) (by decide+kernel) ⟨rfl,rfl,rfl,rfl,rfl,by decide+kernel⟩ ⟨[.int 0,.int 0,.list []],by decide+kernel,by decide+kernel⟩ ?_;k_fillS;intro w s0 s1 mg mb G Y fa o pm cd doc dV kV ho hd hcd hD hmg hg args vals as hpre hlay hrd hwl hlo;have KX:=W.kIn_of Y;have FX:∃d fI fdI,RT.Facts (L2.KOf KX) d fI fdI:=by
  dsimp only[L2.KOf];refine' RT.HI ?n_ALL_SIDES ?c_ALL_SIDES ?n_STEPS ?c_STEPS ?n_SIDE_STARTS ?c_SIDE_STARTS ?n_QUARTERS ?c_QUARTERS ?n_HALVES_ABOUT ?c_HALVES_ABOUT ?n_HALVES_AT_A_POINT ?c_HALVES_AT_A_POINT ?n_LINE_FEED ?n_BLANK ?n_COMMA ?n_DIGIT_ZERO ?n_DIGIT_NINE ?n_GREATEST_NUMBER ?n_MOST_DIGITS ?n_FEWEST_CORNERS ?n_CELLS_IN_A_ROW ?n_MOST_CELLS ?z_len ?z_min ?z_max ?z_any ?z_list ?z_dict ?z_sorted ?z_range ?z_enumerate ?n_NoHouse ?e_NoHouse ?n_Roof ?q_pg ?q_hd ?q_po ?q_sa ?f_cells ?f_depths ?f_heights ?f_facings ?f_numbers ?wX ?n_GREATEST_MEASURE ?n_OutOfBounds ?e_OutOfBounds ?z_sum ?n_Outside ?n_NoFace ?n_NoSize ?l_NoHouse ?l_OutOfBounds ?l_Outside ?l_NoFace ?l_NoSize ?ap ?m_mk ?m_in ?m_fn ?m_kp ?i_l ?i_c ?i_k;case n_ALL_SIDES|n_STEPS|n_SIDE_STARTS|n_QUARTERS|n_HALVES_ABOUT|n_HALVES_AT_A_POINT|n_LINE_FEED|n_BLANK|n_COMMA|n_DIGIT_ZERO|n_DIGIT_NINE|n_GREATEST_NUMBER|n_MOST_DIGITS|n_FEWEST_CORNERS|n_CELLS_IN_A_ROW|n_MOST_CELLS|z_len|z_min|z_max|z_any|z_list|z_dict|z_sorted|z_range|z_enumerate|n_NoHouse|n_Roof|q_pg|q_hd|q_po|q_sa|f_cells|f_depths|f_heights|f_facings|f_numbers|wX|n_GREATEST_MEASURE|n_OutOfBounds|z_sum|n_Outside|n_NoFace|n_NoSize|l_NoHouse|l_OutOfBounds|l_Outside|l_NoFace|l_NoSize|m_mk|m_in|m_fn|m_kp|i_l|i_c|i_k=>k_is
  case c_ALL_SIDES|c_STEPS|c_SIDE_STARTS|c_QUARTERS|c_HALVES_ABOUT|c_HALVES_AT_A_POINT=>kernel_rfl
  case e_NoHouse|e_OutOfBounds=>k_exc
  case ap=>decide
 have FF:∃f fd c tb,W.nsIn (L2.KOf KX) mainGlobals "roof" =some (some (.ref f))/\L2.Fun (L2.KOf KX) "roof" "roof" RT.s_f f fd/\fd.code=.ref c/\W.tabIn (L2.KOf KX) "roof" =some (c,tb)/\(L2.KOf KX).lookup tb=none:=by
  dsimp only[L2.KOf];refine' RT.JR ?a ?l ?e ?h ?k ?l2 ?hv ?kt
  (case a=>k_is)
  (case l=>k_is)
  (case e=>rfl)
  (case h=>k_is)
  (case k=>k_is)
  (case l2=>k_is)
  (case hv=>rfl)
  (case kt=>kernel_rfl)
 have D_re:L3.aF (L2.KOf KX) "runs_eastward" RT.s_re:=by dsimp only[L2.KOf];refine' L3.aV ?a ?l ?c ?k;case a|l|c|k=>k_is
 have D_po:L3.aF (L2.KOf KX) "places_on" RT.s_po:=by dsimp only[L2.KOf];refine' L3.aV ?a ?l ?c ?k;case a|l|c|k=>k_is
 have D_pbf:L3.aF (L2.KOf KX) "places_by_face" RT.s_pbf:=by dsimp only[L2.KOf];refine' L3.aV ?a ?l ?c ?k;case a|l|c|k=>k_is
 have D_to:L3.aF (L2.KOf KX) "tiles_over" RT.s_to:=by dsimp only[L2.KOf];refine' L3.aV ?a ?l ?c ?k;case a|l|c|k=>k_is
 have D_wac:L3.aF (L2.KOf KX) "whole_and_cut" RT.s_wac:=by dsimp only[L2.KOf];refine' L3.aV ?a ?l ?c ?k;case a|l|c|k=>k_is
 have D_wact:L3.aF (L2.KOf KX) "whole_and_cut_together" RT.s_wact:=by dsimp only[L2.KOf];refine' L3.aV ?a ?l ?c ?k;case a|l|c|k=>k_is
 have D_cc:L3.aF (L2.KOf KX) "course_count" RT.s_cc:=by dsimp only[L2.KOf];refine' L3.aV ?a ?l ?c ?k;case a|l|c|k=>k_is
 have D_rr:L3.aF (L2.KOf KX) "roof_row" RT.s_rr:=by dsimp only[L2.KOf];refine' L3.aV ?a ?l ?c ?k;case a|l|c|k=>k_is
 have D_is:L3.aF (L2.KOf KX) "is_size" RT.s_is:=by dsimp only[L2.KOf];refine' L3.aV ?a ?l ?c ?k;case a|l|c|k=>k_is
 have D_cs:L3.aF (L2.KOf KX) "check_size" RT.s_cs:=by dsimp only[L2.KOf];refine' L3.aV ?a ?l ?c ?k;case a|l|c|k=>k_is
 have D_m:L3.aF (L2.KOf KX) "moved" RT.s_m:=by dsimp only[L2.KOf];refine' L3.aV ?a ?l ?c ?k;case a|l|c|k=>k_is
 have D_br:L3.aF (L2.KOf KX) "by_row" RT.s_br:=by dsimp only[L2.KOf];refine' L3.aV ?a ?l ?c ?k;case a|l|c|k=>k_is
 have D_hco:L3.aF (L2.KOf KX) "half_cells_of" RT.s_hco:=by dsimp only[L2.KOf];refine' L3.aV ?a ?l ?c ?k;case a|l|c|k=>k_is
 have D_id:L3.aF (L2.KOf KX) "is_deeper" RT.s_id:=by dsimp only[L2.KOf];refine' L3.aV ?a ?l ?c ?k;case a|l|c|k=>k_is
 have D_do:L3.aF (L2.KOf KX) "depths_of" RT.s_do:=by dsimp only[L2.KOf];refine' L3.aV ?a ?l ?c ?k;case a|l|c|k=>k_is
 have D_ss:L3.aF (L2.KOf KX) "side_start" RT.s_ss:=by dsimp only[L2.KOf];refine' L3.aV ?a ?l ?c ?k;case a|l|c|k=>k_is
 have D_ho:L3.aF (L2.KOf KX) "height_over" RT.s_ho:=by dsimp only[L2.KOf];refine' L3.aV ?a ?l ?c ?k;case a|l|c|k=>k_is
 have D_ho2:L3.aF (L2.KOf KX) "heights_of" RT.s_ho2:=by dsimp only[L2.KOf];refine' L3.aV ?a ?l ?c ?k;case a|l|c|k=>k_is
 have D_lo:L3.aF (L2.KOf KX) "left_of" RT.s_lo:=by dsimp only[L2.KOf];refine' L3.aV ?a ?l ?c ?k;case a|l|c|k=>k_is
 have D_se:L3.aF (L2.KOf KX) "side_end" RT.s_se:=by dsimp only[L2.KOf];refine' L3.aV ?a ?l ?c ?k;case a|l|c|k=>k_is
 have D_ro:L3.aF (L2.KOf KX) "right_of" RT.s_ro:=by dsimp only[L2.KOf];refine' L3.aV ?a ?l ?c ?k;case a|l|c|k=>k_is
 have D_o:L3.aF (L2.KOf KX) "opposite" RT.s_o:=by dsimp only[L2.KOf];refine' L3.aV ?a ?l ?c ?k;case a|l|c|k=>k_is
 have D_fo2:L3.aF (L2.KOf KX) "facing_of" RT.s_fo2:=by dsimp only[L2.KOf];refine' L3.aV ?a ?l ?c ?k;case a|l|c|k=>k_is
 have D_fo3:L3.aF (L2.KOf KX) "facings_of" RT.s_fo3:=by dsimp only[L2.KOf];refine' L3.aV ?a ?l ?c ?k;case a|l|c|k=>k_is
 have D_tol:L3.aF (L2.KOf KX) "triangle_on_left" RT.s_tol:=by dsimp only[L2.KOf];refine' L3.aV ?a ?l ?c ?k;case a|l|c|k=>k_is
 have D_tor:L3.aF (L2.KOf KX) "triangle_on_right" RT.s_tor:=by dsimp only[L2.KOf];refine' L3.aV ?a ?l ?c ?k;case a|l|c|k=>k_is
 have D_b:L3.aF (L2.KOf KX) "beyond" RT.s_b:=by dsimp only[L2.KOf];refine' L3.aV ?a ?l ?c ?k;case a|l|c|k=>k_is
 have D_ta:L3.aF (L2.KOf KX) "triangle_across" RT.s_ta:=by dsimp only[L2.KOf];refine' L3.aV ?a ?l ?c ?k;case a|l|c|k=>k_is
 have D_nf:L3.aF (L2.KOf KX) "number_face" RT.s_nf:=by dsimp only[L2.KOf];refine' L3.aV ?a ?l ?c ?k;case a|l|c|k=>k_is
 have D_no:L3.aF (L2.KOf KX) "numbers_of" RT.s_no:=by dsimp only[L2.KOf];refine' L3.aV ?a ?l ?c ?k;case a|l|c|k=>k_is
 have D_fo:L3.aF (L2.KOf KX) "faces_of" RT.s_fo:=by dsimp only[L2.KOf];refine' L3.aV ?a ?l ?c ?k;case a|l|c|k=>k_is
 have D_pb:L3.aF (L2.KOf KX) "parts_between" RT.s_pb:=by dsimp only[L2.KOf];refine' L3.aV ?a ?l ?c ?k;case a|l|c|k=>k_is
 have D_dt:L3.aF (L2.KOf KX) "digit_told" RT.s_dt:=by dsimp only[L2.KOf];refine' L3.aV ?a ?l ?c ?k;case a|l|c|k=>k_is
 have D_nt:L3.aF (L2.KOf KX) "number_told" RT.s_nt:=by dsimp only[L2.KOf];refine' L3.aV ?a ?l ?c ?k;case a|l|c|k=>k_is
 have D_ct:L3.aF (L2.KOf KX) "corner_told" RT.s_ct:=by dsimp only[L2.KOf];refine' L3.aV ?a ?l ?c ?k;case a|l|c|k=>k_is
 have D_wt:L3.aF (L2.KOf KX) "walk_told" RT.s_wt:=by dsimp only[L2.KOf];refine' L3.aV ?a ?l ?c ?k;case a|l|c|k=>k_is
 have D_wt2:L3.aF (L2.KOf KX) "walks_told" RT.s_wt2:=by dsimp only[L2.KOf];refine' L3.aV ?a ?l ?c ?k;case a|l|c|k=>k_is
 have D_far:L3.aF (L2.KOf KX) "feet_across_rows" RT.s_far:=by dsimp only[L2.KOf];refine' L3.aV ?a ?l ?c ?k;case a|l|c|k=>k_is
 have D_cw:L3.aF (L2.KOf KX) "cells_within" RT.s_cw:=by dsimp only[L2.KOf];refine' L3.aV ?a ?l ?c ?k;case a|l|c|k=>k_is
 have D_haw:L3.aF (L2.KOf KX) "headings_along_walls" RT.s_haw:=by dsimp only[L2.KOf];refine' L3.aV ?a ?l ?c ?k;case a|l|c|k=>k_is
 have D_wf:L3.aF (L2.KOf KX) "walk_from" RT.s_wf:=by dsimp only[L2.KOf];refine' L3.aV ?a ?l ?c ?k;case a|l|c|k=>k_is
 have D_wr:L3.aF (L2.KOf KX) "walks_round" RT.s_wr:=by dsimp only[L2.KOf];refine' L3.aV ?a ?l ?c ?k;case a|l|c|k=>k_is
 have D_miap:L3.aF (L2.KOf KX) "meets_in_a_point" RT.s_miap:=by dsimp only[L2.KOf];refine' L3.aV ?a ?l ?c ?k;case a|l|c|k=>k_is
 have D_ij:L3.aF (L2.KOf KX) "is_joined" RT.s_ij:=by dsimp only[L2.KOf];refine' L3.aV ?a ?l ?c ?k;case a|l|c|k=>k_is
 have D_ih:L3.aF (L2.KOf KX) "is_house" RT.s_ih:=by dsimp only[L2.KOf];refine' L3.aV ?a ?l ?c ?k;case a|l|c|k=>k_is
 have D_ht:L3.aF (L2.KOf KX) "house_told" RT.s_ht:=by dsimp only[L2.KOf];refine' L3.aV ?a ?l ?c ?k;case a|l|c|k=>k_is
 have D_rt:L3.aF (L2.KOf KX) "roof_told" RT.s_rt:=by dsimp only[L2.KOf];refine' L3.aV ?a ?l ?c ?k;case a|l|c|k=>k_is
 have D_rtt:L3.aF (L2.KOf KX) "roof_to_tile" RT.s_rtt:=by dsimp only[L2.KOf];refine' L3.aV ?a ?l ?c ?k;case a|l|c|k=>k_is
 have D_answer_or_refusal:L3.aF (L2.KOf KX) "answer_or_refusal" RT.uK:=by dsimp only[L2.KOf];refine' L3.aV ?a ?l ?c ?k;case a|l|c|k=>k_is
 obtain⟨d,fI,fdI,FX⟩:=FX;obtain⟨f,fd,c,tb,n_f,F_f,hfc,htab,hKt⟩:=FF;obtain⟨fA,fdA,n_ans,F_ans⟩:=D_answer_or_refusal.ex;exact RT.D8 KX G.T hg hmg hpre hwl FX.txt FX.mkR FX.init D_re D_po D_pbf D_to D_wac D_wact D_cc D_rr D_is D_cs D_m D_br D_hco D_id D_do D_ss D_ho D_ho2 D_lo D_se D_ro D_o D_fo2 D_fo3 D_tol D_tor D_b D_ta D_nf D_no D_fo D_pb D_dt D_nt D_ct D_wt D_wt2 D_far D_cw D_haw D_wf D_wr D_miap D_ij D_ih D_ht D_rt D_rtt n_f F_f hfc htab rfl hKt n_ans F_ans FX.j1 FX.iN FX.eE FX.e9 FX.j0 FX.iM FX.kZ FX.jV FX.kY FX.jU FX.ap
